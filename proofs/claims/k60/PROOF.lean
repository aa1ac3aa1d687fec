import PyProof.Rows.All
import Wide.All
import OpenK.AllK
import Wide.FinOn
import HandS.ForMost
import HandS.Wide
import HandS.Gcd
import HandS.IsInst
import HandS.Codes
import HandS.Zip
import HandS.Walk
import PyProof.WalksMore
import PyProof.ConsumeWalk
import PyProof.JoinWalk
import KE.GoesMore
import KE.GoesEnum
import KE.GoesZip
import HandS.TupMul
import HandS.Conv
import HandS.WideBits
import HandS.TupAny
import HandS.Exc
import HandS.TryOnly
import HandS.ExcOwn
import HandS.WordsExc
import HandS.ExcIs
import HandS.Text
import HandS.Rev
import HandS.RevTup
import HandS.AnyAll
import HandS.Deep
import KE.DataFind
import HandS.EndTab
import PySem.Challenge.RW_hullwright_k60_builders_changed
set_option Elab.async false
set_option linter.all false
set_option maxRecDepth 100000
set_option maxHeartbeats 4000000

namespace Hw
/-- Euclid's loop, by its turn -/
def Fit (i A B : Nat) : Prop := (i = 0 ∧ A * B < 2 ^ 598) ∨ (1 ≤ i ∧ B < A ∧ A * B * 2 ^ (i - 1) < 2 ^ 598)
theorem fit0 {A B : Nat} (ha : A < 2 ^ 299) (hb : B < 2 ^ 299) : Fit 0 A B := by
  refine .inl ⟨rfl, ?_⟩
  have h : A * B < 2 ^ 299 * 2 ^ 299 := Nat.mul_lt_mul'' ha hb
  rwa [← Nat.pow_add] at h
theorem fit_step {i A B : Nat} (h : Fit i A B) (hb : B ≠ 0) : Fit (i + 1) B (A % B) := by
  have hr : A % B < B := Nat.mod_lt _ (Nat.pos_of_ne_zero hb)
  refine .inr ⟨by omega, hr, ?_⟩
  rcases h with ⟨rfl, h⟩ | ⟨hi, hlt, h⟩
  · have h1 : B * (A % B) ≤ B * A := Nat.mul_le_mul_left _ (Nat.mod_le _ _)
    rw [Nat.mul_comm B A] at h1
    show B * (A % B) * 2 ^ 0 < 2 ^ 598
    rw [Nat.pow_zero, Nat.mul_one]
    omega
  · obtain ⟨j, rfl⟩ : ∃ j, i = j + 1 := ⟨i - 1, by omega⟩
    show B * (A % B) * 2 ^ (j + 1) < 2 ^ 598
    have h2 : 2 * (A % B) ≤ A := by
      have e : B * (A / B) + A % B = A := Nat.div_add_mod A B
      have q : 1 ≤ A / B := Nat.div_pos (Nat.le_of_lt hlt) (Nat.pos_of_ne_zero hb)
      have m : B * 1 ≤ B * (A / B) := Nat.mul_le_mul_left _ q
      omega
    have h3 : B * (2 * (A % B)) ≤ B * A := Nat.mul_le_mul_left _ h2
    have h4 : B * (A % B) * 2 ^ (j + 1) = B * (2 * (A % B)) * 2 ^ j := by
      rw [Nat.pow_succ]
      simp only [Nat.mul_assoc, Nat.mul_left_comm, Nat.mul_comm]
    rw [h4]
    refine Nat.lt_of_le_of_lt (Nat.mul_le_mul_right _ h3) ?_
    rw [Nat.mul_comm B A]
    exact h
theorem fit_end {A B : Nat} (h : Fit 600 A B) : B = 0 := by
  rcases h with ⟨h, _⟩ | ⟨_, hlt, h⟩
  · omega
  · by_cases hb : B = 0
    · exact hb
    · exfalso
      have h1 : 1 ≤ A * B := Nat.mul_pos (by omega) (by omega)
      have h2 : 1 * 2 ^ (600 - 1) ≤ A * B * 2 ^ (600 - 1) := Nat.mul_le_mul_right _ h1
      have h3 : (2 : Nat) ^ 598 < 2 ^ (600 - 1) := Nat.pow_lt_pow_right (by decide) (by decide)
      omega
theorem gcd_turn (A B : Nat) : Nat.gcd B (A % B) = Nat.gcd A B := by
  rw [Nat.gcd_comm B, ← Nat.gcd_rec, Nat.gcd_comm]
/-- the greatest common divisor, an int -/
def g2 (a b : Int) : Int := ((Nat.gcd a.natAbs b.natAbs : Nat) : Int)
theorem g2_pos {a b : Int} (hb : b ≠ 0) : 0 < g2 a b := by
  unfold g2
  have : 0 < Nat.gcd a.natAbs b.natAbs := Nat.gcd_pos_of_pos_right _ (by omega)
  omega
theorem g2_nn0 (a b : Int) : 0 ≤ g2 a b := by
  unfold g2
  omega
theorem g2_le {a b : Int} (hb : b ≠ 0) : (g2 a b).natAbs ≤ b.natAbs := by
  unfold g2
  have : Nat.gcd a.natAbs b.natAbs ≤ b.natAbs := Nat.gcd_le_right _ (by omega)
  omega
/-- a fraction's two entries, b > 0 -/
def frN (a b : Int) : Int := a / g2 a b
def frD (a b : Int) : Int := b / g2 a b
theorem g2_dvd_l (a b : Int) : g2 a b ∣ a := by
  unfold g2
  exact Int.ofNat_dvd_left.mpr (Nat.gcd_dvd_left _ _)
theorem g2_dvd_r (a b : Int) : g2 a b ∣ b := by
  unfold g2
  exact Int.ofNat_dvd_left.mpr (Nat.gcd_dvd_right _ _)
theorem frD_pos {a b : Int} (hb : 0 < b) : 0 < frD a b := by
  have g := g2_pos (a := a) (b := b) (by omega)
  exact Int.ediv_pos_of_pos_of_dvd hb (Int.le_of_lt g) (g2_dvd_r a b)
theorem ediv_abs {a g : Int} (hg : 0 < g) : (a / g).natAbs ≤ a.natAbs := by
  have h1 := Int.mul_ediv_self_le (x := a) (k := g) (by omega)
  have h2 := Int.lt_mul_ediv_self_add (x := a) (k := g) hg
  generalize hq : a / g = q at *
  by_cases c : 0 ≤ q
  · have : 1 * q ≤ g * q := Int.mul_le_mul_of_nonneg_right (by omega) c
    omega
  · have h3 : g * q ≤ g * (-1) + (q + 1) := by
      have : g * (q + 1) ≤ 1 * (q + 1) := Int.mul_le_mul_of_nonpos_right (by omega) (by omega)
      rw [Int.mul_add, Int.mul_one, Int.one_mul] at this
      omega
    omega
theorem frN_abs {a b : Int} (hb : b ≠ 0) : (frN a b).natAbs ≤ a.natAbs := ediv_abs (g2_pos hb)
theorem frD_abs {a b : Int} (hb : b ≠ 0) : (frD a b).natAbs ≤ b.natAbs := ediv_abs (g2_pos hb)
theorem mul_pow {x y : Int} {a b : Nat} (ha : x.natAbs < 2 ^ a) (hb : y.natAbs < 2 ^ b) : (x * y).natAbs < 2 ^ (a + b) := by
  rw [Int.natAbs_mul, Nat.pow_add]
  exact Nat.mul_lt_mul'' ha hb
theorem add_pow {x y : Int} {a : Nat} (ha : x.natAbs < 2 ^ a) (hb : y.natAbs < 2 ^ a) : (x + y).natAbs < 2 ^ (a + 1) := by
  rw [Nat.pow_succ]
  omega
theorem sub_pow {x y : Int} {a : Nat} (ha : x.natAbs < 2 ^ a) (hb : y.natAbs < 2 ^ a) : (x - y).natAbs < 2 ^ (a + 1) := by
  rw [Nat.pow_succ]
  omega
theorem up_pow {x : Nat} {a b : Nat} (h : x < 2 ^ a) (l : a ≤ b) : x < 2 ^ b := Nat.lt_of_lt_of_le h (Nat.pow_le_pow_right (by decide) l)
/-- the sign of an int -/
def sg (a : Int) : Int := if 0 < a then 1 else if a < 0 then -1 else 0
theorem sg_frN {a b : Int} (hb : b ≠ 0) : sg (frN a b) = sg a := by
  have g := g2_pos (a := a) hb
  obtain ⟨c, hc⟩ := g2_dvd_l a b
  have e : frN a b = c := by
    unfold frN
    generalize g2 a b = k at *
    subst hc
    exact Int.mul_ediv_cancel_left _ (by omega)
  rw [e]
  generalize g2 a b = k at *
  subst hc
  unfold sg
  have p1 : 0 < k * c ↔ 0 < c := ⟨fun h => Int.pos_of_mul_pos_right h (by omega), fun h => Int.mul_pos g h⟩
  have p2 : k * c < 0 ↔ c < 0 := by
    constructor
    · intro h
      by_cases q : c < 0
      · exact q
      · have := Int.mul_nonneg (Int.le_of_lt g) (show 0 ≤ c by omega)
        omega
    · intro h
      exact Int.mul_neg_of_pos_of_neg g h
  simp only [p1, p2]
end Hw

/-! ### operations that the layer lacks -/
namespace HwG
open PySem PySem.Spec PyProof.Rows L2 RZ
theorem tuple_mul1 (l : Addr) (items : Array Value) (n : Nat) (dd : Option Addr) (sl : Array (Option Value)) (x : Int) (u : Tok) (c0 : (decide (x < -(2 ^ 63)) || decide (x ≥ 2 ^ 63)) = false) (c1 : (items.isEmpty || x == 1) = true) :
    Meets (Builtin.«tuple.__mul__» ⟨[.ref l, .int x u], []⟩) (fun _ R s => s.heap.get? l = some { cls := .type "tuple", dict := dd, data := .seq items n, slots := sl } ∧
      R (.ok (.ret (Value.ref l))) s) :=
  .of_wp fun prog w A R s h => by
    obtain ⟨hp, g, d, tk, os⟩ := s
    obtain ⟨hl, h⟩ := h
    have f1 := AutoSeq1.idx_int
    wp_walk using wpAny_loadPart' hl
    repeat (first
      | (refine wpAny_ite_false (decide_eq_false (by rw [c0]; exact Bool.false_ne_true)) ?_; wp_walk using wpAny_loadPart' hl)
      | (refine wpAny_ite_true (decide_eq_true c1) ?_; wp_walk using wpAny_loadPart' hl))
    exact ⟨_, rfl, h⟩
def rRepT1 (K : PySem.W.Frag) : R2 := fun x y H Q => ∃ l xs, x = .ref l ∧ y = .int 1 ∧ SqT K H l xs ∧ Q (.ref l) H
section
variable {X : Cx}
theorem op_repT1 : OpR X (binaryOp .Mult) (rRepT1 X.K) := by
  intro pins s σ H x y v u Q I rx ry h
  obtain ⟨l, xs, rfl, rfl, hT, q⟩ := h
  cases rx
  obtain ⟨t, rfl⟩ := ry
  obtain ⟨its, r, ⟨⟨cls, dd, data, sl⟩, ho, hc, n, hd⟩, hs⟩ := I.tuple hT
  simp only at hc hd
  subst hc hd
  have c0 : (decide ((1 : Int) < -(2 ^ 63)) || decide ((1 : Int) ≥ 2 ^ 63)) = false := by decide
  have c1 : (its.toArray.isEmpty || (1 : Int) == 1) = true := by
    rw [show ((1 : Int) == 1) = true by decide, Bool.or_true]
  exact wpAny_binaryOp_repeat_ref (T := "tuple") (U := "int") (by decide) ⟨_, ho, rfl⟩ (fun s' => typeIs_int s' 1 t) noFill_tuple_mul F.fills_int_mul F.slot_int_rmul repeat_tuple F.slot_int_index.lookup
    (call_meets F.slot_int_rmul (typeIs_int s 1 t) F.entry_int_rmul (F.args_int_rmul_2 _ _) (int_rmul_tuple 1 t l its.toArray n dd sl)
      ⟨ho, rfl, ⟨_, ho, rfl⟩, call_meets F.slot_tuple_mul ⟨_, ho, rfl⟩ F.entry_tuple_mul (F.args_tuple_mul_2 _ _) (tuple_mul1 l its.toArray n dd sl 1 t c0 c1) ⟨ho, .ref l, H, I, rfl, q⟩⟩)
def rRepA (K : PySem.W.Frag) : R2 := fun x y H Q => rRepT K x y H Q ∨ rRepT1 K x y H Q
/-- a tuple times 1 .. 1000 -/
theorem op_repA : OpR X (binaryOp .Mult) (rRepA X.K) := by
  intro pins s σ H x y v u Q I rx ry q
  rcases q with q | q
  · exact op_repT pins s σ H x y v u Q I rx ry q
  · exact op_repT1 pins s σ H x y v u Q I rx ry q
/-- // by a divisor of any sign -/
def CDivA (_ j : Int) : Prop := j ≠ 0 ∧ j.natAbs.log2 < 9000
theorem op_fdivA : OpR X (binaryOp .FloorDiv) (rI CDivA fun i j => .int (i.fdiv j)) := opI fun i j _ _ _ _ _ hc q => floordiv_int hc.1 q (.inl (PyProof.noPylong_of_log2 hc.2))
end
/-- zip of two tuples, walked -/
theorem walk_zipT {K : PySem.W.Frag} {a b : Addr} {xs ys : List V} {n : Nat} (h1 : xs.length = n) (h2 : ys.length = n) : Walk (ItzT K a b) n (fun H => SqT K H a xs ∧ SqT K H b ys) (YPair (fun i => xs[i]?) (fun i => ys[i]?)) :=
  ⟨fun i H hi hG => ⟨xs, ys, xs[i], ys[i], hG.1, hG.2, List.getElem?_eq_getElem (by omega), List.getElem?_eq_getElem (by omega)⟩, fun H hG => ⟨xs, ys, hG.1, hG.2, .inl (by omega)⟩,
    fun i H x H' hi hG y => by
      obtain ⟨T, u, v, e1, e2, e3, e4, e5⟩ := y
      exact ⟨T, u, v, e1, e2, e3, e4 _ hG.1, e5 _ hG.2⟩⟩
end HwG

/-! ### zip of a list or tuple with a list or tuple -/
namespace HwZ
open PySem PySem.Spec PyProof.Rows L2 RZ
/-- at a stands a sequence: a tuple (true) or a list -/
def Sk (K : PySem.W.Frag) (k : Bool) (H : Hp) (a : Addr) (xs : List V) : Prop := match k with
  | true => SqT K H a xs
  | false => SqL K H a xs
def AtK (k : Bool) (h : Heap) (it a : Addr) (i : Nat) : Prop := match k with
  | true => h.IsTupleIter it a i
  | false => h.IsListIter it a i
def SeqK (k : Bool) (h : Heap) (a : Addr) (its : Array Value) : Prop := match k with
  | true => h.IsTuple a its
  | false => h.IsList a its
def begK (k : Bool) (a : Addr) : Obj := match k with
  | true => { cls := .type "tuple_iterator", data := .fields #[.ref a, .int 0 0] }
  | false => { cls := .type "list_iterator", data := .fields #[.ref a, .int 0 0] }
theorem drawsK (k : Bool) {prog : Program} {w : World} {A : Around} (hh : A.handled = none) (it a : Addr) (ne : a ≠ it) (its : Array Value) :
    Draws prog w A it [it, a] its.size (fun i v => its[i]? = some v) (fun i h => AtK k h it a i ∧ SeqK k h a its) := by
  cases k with
  | true => exact Draws.tuple hh it a ne its
  | false => exact Draws.list hh it a ne its
theorem beginsK (k : Bool) (a : Addr) (its : Array Value) : Begins (.ref a) (begK k a) fun h => SeqK k h a its := by
  cases k with
  | true => exact begins_tuple a its
  | false => exact begins_list a its
theorem atK_beg {k : Bool} {h : Heap} {it a : Addr} (e : h.get? it = some (begK k a)) : AtK k h it a 0 := by
  cases k with
  | true => exact ⟨_, e, rfl, rfl⟩
  | false => exact ⟨_, e, rfl, rfl⟩
theorem atK_at {k : Bool} {h h' : Heap} {it a : Addr} {i : Nat} (x : AtK k h it a i) (f : ∀ o, h.get? it = some o → h'.get? it = some o) : AtK k h' it a i := by
  cases k with
  | true => exact Heap.IsTupleIter.at x f
  | false => exact Heap.IsListIter.at x f
theorem atK_obj {k : Bool} {h : Heap} {it a : Addr} {i : Nat} (x : AtK k h it a i) : ∃ o, h.get? it = some o ∧ ∀ v, o.data ≠ .cell v := by
  cases k with
  | true =>
    obtain ⟨o, e, _, d⟩ := x
    exact ⟨o, e, fun v q => by rw [d] at q; cases q⟩
  | false =>
    obtain ⟨o, e, _, d⟩ := x
    exact ⟨o, e, fun v q => by rw [d] at q; cases q⟩
section
variable {X : Cx} {pins : List (Addr × Obj)} {σ : L2.St} {H : Hp} {s : Shared}
theorem sk_read {k : Bool} {a : Addr} {xs : List V} (I : Inv X pins σ H s) (h : Sk X.K k H a xs) : ∃ its : List Value, Vals xs its ∧ SeqK k s.heap a its.toArray := by
  cases k with
  | true =>
    obtain ⟨its, r, p, _⟩ := I.tuple h
    exact ⟨its, r, p⟩
  | false =>
    obtain ⟨its, r, p, _⟩ := I.list h
    exact ⟨its, r, p.isList⟩
theorem sk_inj {k : Bool} {a : Addr} {xs ys : List V} (I : Inv X pins σ H s) (h : Sk X.K k H a xs) (h' : Sk X.K k H a ys) : xs = ys := by
  cases k with
  | true => exact I.tuple_inj h h'
  | false => exact I.list_inj h h'
theorem seqK_lt {k : Bool} {h : Heap} {a : Addr} {its : Array Value} (x : SeqK k h a its) : a < h.objs.size := by
  cases k with
  | true =>
    obtain ⟨o, e, _⟩ := x
    exact Heap.lt_size e
  | false =>
    obtain ⟨o, e, _⟩ := x
    exact Heap.lt_size e
end
/-- what the loop sees: new pairs -/
def ItzK (K : PySem.W.Frag) (k1 k2 : Bool) (a b : Addr) : It :=
  ⟨fun i H => ∃ (xs ys : List V) (x y : V), Sk K k1 H a xs ∧ Sk K k2 H b ys ∧ xs[i]? = some x ∧ ys[i]? = some y,
    fun i H v H' => ∃ T x y, v = .ref T ∧ H T = none ∧ H' = upd H T (.tup [x, y]) ∧ (∀ xs, Sk K k1 H a xs → xs[i]? = some x) ∧ ∀ ys, Sk K k2 H b ys → ys[i]? = some y,
    fun i H => ∃ xs ys : List V, Sk K k1 H a xs ∧ Sk K k2 H b ys ∧ xs.length = i ∧ ys.length = i⟩
/-- the cells of the zip at z -/
structure Cells (z TI TO i1 i2 a b : Addr) : Prop where
  sep : ZipSep2 z TI TO i1 i2 [i1, a] [i2, b]
  ai : a ≠ i1
  bi : b ≠ i2
theorem cells_of (N a b : Nat) (ha : a < N) (hb : b < N) : Cells (N + 4) (N + 2) (N + 3) N (N + 1) a b :=
  ⟨zip_sep2 (fun c h => by rw [List.mem_singleton.mp h]; exact ha) (fun c h => by rw [List.mem_singleton.mp h]; exact hb), show a ≠ N by omega, show b ≠ N + 1 by omega⟩
def Now (k1 k2 : Bool) (z TI TO i1 i2 a b : Addr) (i : Nat) (h : Heap) : Prop := IsZip h z TI TO .none ∧ IsTupOf2 h TI (.ref i1) (.ref i2) ∧ (∃ u v, IsTupOf2 h TO u v) ∧ AtK k1 h i1 a i ∧ AtK k2 h i2 b i
theorem five {z TI TO i1 i2 c : Addr} (h : c ∈ [z, TI, TO, i1, i2]) : c = z ∨ c = TI ∨ c = TO ∨ c = i1 ∨ c = i2 := by simpa using h
theorem turn_zipK {P : Program} {w : World} {K : PySem.W.Frag} {elts : List Expr} {kk : Nat} {tpos : Pos} {k1 k2 : Bool} {a b z TI TO i1 i2 : Addr} (D : Cells z TI TO i1 i2 a b) :
    Turn P w K (.Tuple elts kk tpos) (ItzK K k1 k2 a b) [z, TI, TO, i1, i2] z (Now k1 k2 z TI TO i1 i2 a b) where
  mem := by simp
  obj := fun i h st c hc => by
    obtain ⟨hz, hT, ⟨u, v, hO⟩, h1, h2⟩ := st
    rcases five hc with e | e | e | e | e <;> subst e
    · exact ⟨_, hz, fun v q => nomatch q⟩
    · exact ⟨_, hT, fun v q => nomatch q⟩
    · exact ⟨_, hO, fun v q => nomatch q⟩
    · exact atK_obj h1
    · exact atK_obj h2
  keep := fun i h h' st f => by
    obtain ⟨hz, hT, ⟨u, v, hO⟩, h1, h2⟩ := st
    have g : ∀ c ∈ [z, TI, TO, i1, i2], ∀ o, h.get? c = some o → h'.get? c = some o := f
    exact ⟨g z (by simp) _ hz, g TI (by simp) _ hT, ⟨u, v, g TO (by simp) _ hO⟩, atK_at h1 (g i1 (by simp)), atK_at h2 (g i2 (by simp))⟩
  item := by
    intro X hP hw hK hc i pins s σ H E I hf st go
    subst hP hw hK
    obtain ⟨hz, hT, ⟨u0, v0, hO⟩, h1, h2⟩ := st
    obtain ⟨xs, ys, x, y, qx, qy, ex, ey⟩ := go
    obtain ⟨its, r1, p1⟩ := sk_read I qx
    obtain ⟨jts, r2, p2⟩ := sk_read I qy
    have n1 : i < its.toArray.size := by rw [List.size_toArray, ← r1.length]; exact (List.getElem?_eq_some_iff.mp ex).1
    have n2 : i < jts.toArray.size := by rw [List.size_toArray, ← r2.length]; exact (List.getElem?_eq_some_iff.mp ey).1
    have hd : X.A.in1.handled = none := I.ok.hd hc
    have zlt : z < s.heap.objs.size := Heap.lt_size hz
    refine wpAny_pyNext_zipD2_item D.sep (drawsK k1 hd i1 a D.ai its.toArray) (drawsK k2 hd i2 b D.bi jts.toArray) hz hT hO ⟨h1, p1⟩ ⟨h2, p2⟩ n1 n2 fun u v h' tk eu ev z' O' t1 t2 nT sz kp => ?_
    obtain ⟨u', gu, ru⟩ := r1.get ex
    obtain ⟨v', gv, rv⟩ := r2.get ey
    have euu : u = u' := Option.some.inj (eu.symm.trans (by simpa using gu))
    have evv : v = v' := Option.some.inj (ev.symm.trans (by simpa using gv))
    subst euu evv
    refine ⟨_, rfl, wpAny_letOwnedTupleGo_zip (s := { s with heap := h', toks := tk }) z' fun h2' z2 sb => ?_⟩
    have other : ∀ c, c ≠ z → h2'.get? c = h'.get? c := fun c hc => sb.2 c hc
    have fresh : h2'.get? s.heap.objs.size = some { cls := .type "tuple", data := .seq #[u, v] } := (other _ (Nat.ne_of_gt zlt)).trans nT
    have ob : ObjOk X.prog X.w (upd H s.heap.objs.size (.tup [x, y])) h2' s.heap.objs.size (.tup [x, y]) :=
      ⟨Nat.le_of_lt (small1000 (show 2 ≤ 1000 by decide)), [u, v], .cons ru (.cons rv .nil), ⟨_, fresh, rfl, _, rfl⟩⟩
    have J : Inv X pins σ (upd H s.heap.objs.size (.tup [x, y])) { s with heap := h2', toks := tk } :=
      I.turnedNew (ch := [z, TI, TO, i1, i2]) (fun c o nc q => by
        have m : c ≠ z ∧ c ≠ TO ∧ c ≠ i1 ∧ c ≠ i2 := ⟨fun e => nc (by rw [e]; simp), fun e => nc (by rw [e]; simp), fun e => nc (by rw [e]; simp), fun e => nc (by rw [e]; simp)⟩
        exact (other c m.1).trans (kp c o m.1 m.2.1 m.2.2.1 m.2.2.2 q)) hf (Nat.le_refl _) ob
    have hTI1 : TI ≠ i1 := D.sep.TIi1
    refine ⟨.ref s.heap.objs.size, _, J, rfl, ⟨_, x, y, rfl, I.hok.fresh (Nat.le_refl _), rfl, fun l hl => by rw [sk_inj I hl qx]; exact ex, fun l hl => by rw [sk_inj I hl qy]; exact ey⟩, ⟨z2, ?_, ⟨u, v, ?_⟩, ?_, ?_⟩, fun c hcm => ?_⟩
    · exact (other _ D.sep.TIz).trans (kp _ _ D.sep.TIz D.sep.TITO D.sep.TIi1 D.sep.TIi2 hT)
    · exact (other _ D.sep.TOz).trans O'
    · exact atK_at t1.1 fun o q => (other _ D.sep.zi1.symm).trans q
    · exact atK_at t2.1 fun o q => (other _ D.sep.zi2.symm).trans q
    · have lt : c < s.heap.objs.size := by
        rcases five hcm with e | e | e | e | e <;> subst e
        · exact zlt
        · exact Heap.lt_size hT
        · exact Heap.lt_size hO
        · obtain ⟨o, e, _⟩ := atK_obj h1
          exact Heap.lt_size e
        · obtain ⟨o, e, _⟩ := atK_obj h2
          exact Heap.lt_size e
      rw [upd_ne (Nat.ne_of_lt lt)]
      exact (hf c hcm).1
  done := by
    intro X hP hw hK hc i pins s σ H E I hf st stop
    subst hP hw hK
    obtain ⟨hz, hT, ⟨u0, v0, hO⟩, h1, h2⟩ := st
    obtain ⟨xs, ys, qx, qy, ex, ey⟩ := stop
    obtain ⟨its, r1, p1⟩ := sk_read I qx
    obtain ⟨jts, r2, p2⟩ := sk_read I qy
    have n1 : i = its.toArray.size := by rw [List.size_toArray, ← r1.length]; exact ex.symm
    have n2 : i = jts.toArray.size := by rw [List.size_toArray, ← r2.length]; exact ey.symm
    have hd : X.A.in1.handled = none := I.ok.hd hc
    refine wpAny_pyNext_zipD2_end D.sep (drawsK k1 hd i1 a D.ai its.toArray) (drawsK k2 hd i2 b D.bi jts.toArray) hz hT hO ⟨h1, p1⟩ ⟨h2, p2⟩ (Nat.le_of_eq n1) (Nat.le_of_eq n2) (.inl n1) fun h' tk kp => ⟨rfl, ?_⟩
    exact I.turnedL (ch := [z, TI, TO, i1, i2]) (fun c o nc q => kp c o (fun e => nc (by rw [e]; simp)) (fun e => nc (by rw [e]; simp)) (fun e => nc (by rw [e]; simp)) (fun e => nc (by rw [e]; simp)) q) hf
  self := fun A i s Q E st h => wpAny_pyIter_zip st.1 h
def iZipK (K : PySem.W.Frag) (ta : TA) : TI := fun σ H R => ta σ H fun vs H1 => ∃ k1 k2 a b xs ys, vs = [.ref a, .ref b] ∧ Sk K k1 H1 a xs ∧ Sk K k2 H1 b ys ∧ R (ItzK K k1 k2 a b) H1
set_option maxHeartbeats 600000 in
theorem pi_zipK {X : Cx} {e e2 : Expr} {ta : TA} {p pos tpos : Pos} {elts : List Expr} {kk : Nat} (hg : Gl X "zip") (hm : X.mg "zip" = none) (ha : PA X [e, e2] ta)
    (hs : starEach [e, e2] X.env = (false, eval e X.env) :: starEach [e2] X.env := by rfl) (hpl : (backTo pos (starEach [e2] X.env)).any (·.1) = false := by rfl) :
    PI X (.Tuple elts kk tpos) (.Call (.Name "zip" p) [e, e2] [] pos) (iZipK X.K ta) := by
  constructor
  intro pins s σ H R I h
  refine Call_ (ld_blt I hg hm PyProof.Rows.boot_zip (PyProof.Rows.callWith_type1 (thn (ha.run pos pins s σ H _ I h) fun us s1 ⟨vs, H1, I1, r1, q1⟩ => ?_) hs hpl))
  obtain ⟨k1, k2, a, b, xs, ys, ev, qx, qy, q⟩ := q1
  subst ev
  obtain ⟨u1, u2, rfl, ra, rb⟩ := vals2 r1
  obtain rfl : u1 = Value.ref a := ra
  obtain rfl : u2 = Value.ref b := rb
  obtain ⟨its, _, p1⟩ := sk_read I1 qx
  obtain ⟨jts, _, p2⟩ := sk_read I1 qy
  refine zip_begins2 (beginsK k1 a its.toArray) (beginsK k2 b jts.toArray) p1 p2 fun h' hz hT hO g1 g2 _ kp => wpAny_pyIter_zip hz ?_
  have J : Inv X pins σ H1 { s1 with heap := h' } := I1.kept (t' := s1.toks) kp
  have D := cells_of s1.heap.objs.size a b (seqK_lt p1) (seqK_lt p2)
  have W : Now k1 k2 (s1.heap.objs.size + 4) (s1.heap.objs.size + 2) (s1.heap.objs.size + 3) s1.heap.objs.size (s1.heap.objs.size + 1) a b 0 h' := ⟨hz, hT, ⟨_, _, hO⟩, atK_beg g1, atK_beg g2⟩
  have F : ∀ c ∈ [s1.heap.objs.size + 4, s1.heap.objs.size + 2, s1.heap.objs.size + 3, s1.heap.objs.size, s1.heap.objs.size + 1], FpOk X pins H1 c := fun c hc => by
    have le : s1.heap.objs.size ≤ c := by
      rcases five hc with e | e | e | e | e
      · rw [e]; exact Nat.le_add_right _ _
      · rw [e]; exact Nat.le_add_right _ _
      · rw [e]; exact Nat.le_add_right _ _
      · rw [e]; exact Nat.le_refl _
      · rw [e]; exact Nat.le_add_right _ _
    exact I1.fpOk le (I1.hok.fresh le)
  exact ⟨_, _, _, _, H1, rfl, J, turn_zipK D, W, F, q⟩
theorem walk_zipK {K : PySem.W.Frag} {k1 k2 : Bool} {a b : Addr} {xs ys : List V} {n : Nat} (h1 : xs.length = n) (h2 : ys.length = n) : Walk (ItzK K k1 k2 a b) n (fun H => Sk K k1 H a xs ∧ Sk K k2 H b ys) (YPair (fun i => xs[i]?) (fun i => ys[i]?)) :=
  ⟨fun i H hi g => ⟨xs, ys, xs[i], ys[i], g.1, g.2, List.getElem?_eq_getElem (by omega), List.getElem?_eq_getElem (by omega)⟩, fun H g => ⟨xs, ys, g.1, g.2, h1, h2⟩,
    fun i H x H' _ g y => by
      obtain ⟨T, u, v, e1, e2, e3, e4, e5⟩ := y
      exact ⟨T, u, v, e1, e2, e3, e4 _ g.1, e5 _ g.2⟩⟩
end HwZ

/-! ### any of a tuple of ints; the least common multiple -/
namespace HwA
open PySem PySem.Spec PyProof.Rows L2
section
variable {X : Cx}
theorem any_bools (ns : List Int) : ∀ (bs : List Bool), bs = ns.map (fun n => n != 0) → (List.range ns.length).any (fun i => (ns.map fun n => n != 0).getD i false) = ns.any fun n => n != 0 := fun bs _ => by
  have h := any_range (ns.map fun n => n != 0)
  rw [List.length_map] at h
  rw [h, List.any_map]
  rfl
def rAnyT (K : PySem.W.Frag) : List V → Hp → VK → Prop := fun vs H Q => ∃ (a : Addr) (ns : List Int), vs = [V.ref a] ∧ SqT K H a (ns.map V.int) ∧ Q (.bl (ns.any fun n => n != 0)) H
theorem cr_anyT (hc : X.calm = true) : CallR X (.builtin "any") (rAnyT X.K) := by
  intro pins s σ H vs us Q I r h
  obtain ⟨a, ns, rfl, hs, q⟩ := h
  obtain ⟨its, rv, ht, _⟩ := I.tuple hs
  rw [Vals.ref1 r]
  have it : s.heap.IsTuple a its.toArray := ht
  have lt : a < s.heap.objs.size := by
    obtain ⟨_, e, _⟩ := it
    exact Heap.lt_size e
  refine call_any_walk (wpAny_pyIter_tuple it ⟨s.heap.objs.size, _, _, _, _, _, (fun i => (ns.map fun n => n != 0).getD i false), rfl, Walks.tuple (A := X.A.in1) (I.ok.hd hc) _ a (Nat.ne_of_lt lt) its.toArray, ⟨⟨_, Heap.get?_push_size _ rfl, rfl, rfl⟩, ?_⟩, ?_, fun h' tk hk => ?_⟩)
  · exact it.at fun o e => Heap.get?_push_of_some _ e
  · intro i v s' Q' E' hv hq
    have hv' : its[i]? = some v := by simpa using hv
    have lxs := rv.length
    have hi : i < ns.length := by
      have := (List.getElem?_eq_some_iff.mp hv').1
      rw [List.length_map] at lxs
      omega
    have g : (ns.map V.int)[i]? = some (.int ns[i]) := by
      rw [List.getElem?_map, List.getElem?_eq_getElem hi]
      rfl
    obtain ⟨u, hu, ru⟩ := rv.get g
    obtain ⟨t, eu⟩ := ru
    have ev : v = Value.int ns[i] t := (Option.some.inj (hv'.symm.trans hu)).trans eu
    subst ev
    have e2 : (ns.map fun n => n != 0).getD i false = (ns[i] != 0) := by
      rw [List.getD_eq_getElem?_getD, List.getElem?_map, List.getElem?_eq_getElem hi]
      rfl
    have hq2 : Q' ((ns.map fun n => n != 0).getD i false) s' := hq
    rw [e2] at hq2
    exact truthy_int hq2
  · refine ⟨.bl _, H, I.kept fun b o eo => hk b o (fun m => ?_) (Heap.get?_push_of_some _ eo), ?_, q⟩
    · rcases List.mem_cons.mp m with e1 | m
      · exact absurd (e1 ▸ Heap.lt_size eo) (Nat.lt_irrefl _)
      · cases m
    · show Value.bool _ = Value.bool _
      have l1 := rv.length
      rw [List.length_map] at l1
      rw [List.size_toArray, ← l1, any_bools ns _ rfl]
/-- the least common multiple -/
def rLcm : List V → Hp → VK → Prop := fun vs H Q => ∃ a b : Int, vs = [.int a, .int b] ∧ a.natAbs < 2 ^ 4000 ∧ b.natAbs < 2 ^ 4000 ∧ Q (.int ((Nat.lcm a.natAbs b.natAbs : Nat) : Int)) H
theorem lcm_lim {a b : Nat} (ha : a < 2 ^ 4000) (hb : b < 2 ^ 4000) : Nat.lcm a b < 2 ^ 8000 := by
  have h1 : Nat.lcm a b ≤ a * b := by
    unfold Nat.lcm
    exact Nat.div_le_self _ _
  have h2 : a * b < 2 ^ 4000 * 2 ^ 4000 := Nat.mul_lt_mul'' ha hb
  rw [← Nat.pow_add] at h2
  exact Nat.lt_of_le_of_lt h1 h2
theorem cr_lcm : CallR X (.builtin "math.lcm") rLcm := by
  intro pins s σ H vs us Q I r h
  obtain ⟨a, b, rfl, ha, hb, q⟩ := h
  obtain ⟨t, u, rfl⟩ := Vals.int2 r
  have lg : ∀ n : Nat, n < 2 ^ 4000 → n.log2 < 4000 := fun n hn => PySem.Flt.log2_lt_of (by decide) hn
  have one : (1 : Nat) < 2 ^ 4000 := Nat.one_lt_two_pow (by decide)
  have m1 : (max 1 a.natAbs).log2 < 4000 := lg _ (by rw [Nat.max_lt]; exact ⟨one, ha⟩)
  have m2 : (max a.natAbs b.natAbs).log2 < 4000 := lg _ (by rw [Nat.max_lt]; exact ⟨ha, hb⟩)
  have e : (Nat.lcm 1 a.natAbs).lcm b.natAbs = Nat.lcm a.natAbs b.natAbs := by rw [Nat.lcm_one_left]
  have sz : ((((Nat.lcm 1 a.natAbs).lcm b.natAbs : Nat) : Int)).natAbs.log2 < bitsLine := by
    rw [e, Int.natAbs_natCast]
    have : (Nat.lcm a.natAbs b.natAbs).log2 < 8000 := PySem.Flt.log2_lt_of (by decide) (lcm_lim ha hb)
    have b8 : (8000 : Nat) ≤ bitsLine := by decide
    omega
  refine PySem.call_function_meets PySem.W.MGF.kind_lcm PySem.W.MGF.plain_lcm PySem.W.MGF.entry_lcm (PySem.W.MGF.args_lcm _ _) (PySem.W.mg_run_lcm a t b u (by omega) (by omega) sz).meets ?_
  rw [e]
  exact ⟨.int _, H, I.tok _, ⟨_, rfl⟩, q⟩
end
end HwA

/-! ### attributes as targets, methods that may raise, list.remove of data -/
namespace HwX
open PySem PySem.Spec PyProof.Rows L2
section
variable {X : Cx} {CX : CXT} {k : Nat} {f C : Addr} {fd : FuncData} {ps : List Str} {sp : Sp} {E : L2.St → XK} {x m : Str} {p pos apos : Pos} {e o : Expr} {es : List Expr} {ta : TE} {t : TA} {fn : Str}
/-- o.f as a target -/
def gFld (K : PySem.W.Frag) (ta : TE) (f : Str) : TG := fun v σ H Q => ta σ H fun x H1 => ∃ a C dx fs, x = .ref a ∧ H1 a = some (.ins C dx fs) ∧ Cls K C ∧ NoAttr K C f ∧ fs.length < 1000 ∧ Q σ (upd H1 a (.ins C dx (putF f v fs)))
theorem pg_fld (ho : PE X o ta) : PG X (.Attribute o fn pos) (gFld X.K ta fn) := by
  refine ⟨fun pins s σ H v u Q I r h => ?_⟩
  rw [assign_Attribute]
  refine wpAny_bind (wpAny_holding (thn (ho.run pins s σ H _ I h) fun ov s1 ⟨x, H1, I1, rx, a, C, dx, fs, ex, ea, c, n, l, q⟩ => ?_))
  subst ex
  obtain rfl : ov = Value.ref a := rx
  refine wpAny_bind (wpAny_standAt (wpAny_bind (wpAny_holding (setattr_ok I1 ea c n l r fun s3 I3 => ?_))))
  exact wpAny_release ⟨σ, _, I3, q⟩
def tMethS (C : Addr) (m : Str) (sp : Sp) (E : L2.St → XK) (ta : TE) (t : TA) : TE := fun σ H Q => ta σ H fun x H1 => ∃ a dx fs, x = .ref a ∧ H1 a = some (.ins C dx fs) ∧ fs.lookup m = none ∧ t σ H1 fun vs H2 => sp (.ref a :: vs) H2 Q (E σ)
/-- o.m(e, ..) where the callee may raise -/
theorem pe_methA {pl : Sem Bool} (he : PE X o ta) (c : Cls X.K C) (hm : Meth X.K C m f) (F : FnOk X.prog X.w X.K X.mg X.base CX k f fd ps sp) (hr : Room k X.A) (hb : Binds X.K fd ps []) (hx : ∀ σ, PassesAt CX X σ (E σ)) (ha : PA X (e :: es) t)
    (hst : starEach (e :: es) X.env = (false, eval e X.env) :: starEach es X.env := by rfl) (hpl : (backTo pos (starEach es X.env)).any (·.1) = false := by rfl)
    (ht : eval (.Call (.Attribute o m apos) (e :: es) [] pos) X.env = (do
      let ov ← eval o X.env
      standAt apos.atName
      let (f, first) ← holding [ov] (getMethod ov m pl)
      callWith pos f first (backTo pos (starEach (e :: es) X.env)) (backToKw pos (keywordEach [] X.env))) := by rfl) :
    PE X (.Call (.Attribute o m apos) (e :: es) [] pos) (tMethS C m sp E ta t) := by
  refine ⟨fun pins s σ H Q I h => ?_⟩
  refine PySem.W.methodCall_KW (pl := pl) (thn (he.run pins s σ H _ I h) fun u s1 ⟨x, H1, I1, rx, a, dx, fs, ex, ea, l, q⟩ => ?_) ht
  subst ex
  obtain rfl : u = Value.ref a := rx
  refine getmeth_ok I1 ea c hm l ?_
  refine PySem.W.callWith_K (first := [.ref a]) (h₀ := X.base) I.ok.mod.kin hm.kp (thn (ha.run pos pins s1 σ H1 _ I1 q) fun us s2 ⟨vs, H2, I2, r, q2⟩ => ⟨I2.kIn, ?_⟩) hst hpl
  exact run_fnS (us := .ref a :: us) (vs := .ref a :: vs) F hr hb (hx σ) I2 (.cons rfl r) q2
end
section
variable {X : Cx}
/-- the items but the one at j -/
def rRemD (K : PySem.W.Frag) : V → List V → Hp → VK → Prop := fun x xs H Q => ∃ (a : Addr) (ys : List V) (y : V) (d : PyData) (ds : List PyData) (j : Nat) (z : PyData), x = .ref a ∧ xs = [y] ∧ H a = some (.lst ys) ∧ DpAll K H ys ds ∧ Dp K H y d ∧
  SeqAt.shaped (.list ds) = true ∧ SeqAt.shaped d = true ∧ ds[j]? = some z ∧ PyData.eqv z d = true ∧ (∀ (m : Nat) (z' : PyData), m < j → ds[m]? = some z' → PyData.eqv z' d = false) ∧ Q .non (upd H a (.lst (ys.eraseIdx j)))
theorem mt_removeD (hu : X.A.units + 65 < cLine) : MtM X "list.remove" (rRemD X.K) := by
  intro pins s σ H x xs v us Q I rx rxs h
  obtain ⟨a, ys, y, d, ds, j, z, rfl, rfl, hH, ha, hy, sl, sd, hz, hzj, hno, q⟩ := h
  cases rx
  cases rxs with
  | cons ry rt =>
    rename_i uy ut
    cases rt
    obtain ⟨bs, r1⟩ := Dp.reads I d y uy hy ry
    have hxs : PyData.canLayAll0 ds = true := SeqAt.canLay_of_shaped sl
    have hroom : X.A.units + 1 + min (PyData.depthAll ds) d.depth < cLine := room_in_shaped sd hu
    obtain ⟨zl, its, n, rv, hl, e0⟩ := I.lstM hH
    obtain ⟨as, h4⟩ := Dp.readsAll I ds _ its ha rv
    have hn : its.length = ds.length := SeqAt.ReadsAll.length ds its as h4
    have hmap : its.map (SeqAt.readOf s.heap) = ds := SeqAt.readsAll_map ds its as hxs h4
    have hsl := sizeLine_eq
    obtain ⟨hjd, _⟩ := List.getElem?_eq_some_iff.mp hz
    have hjl : j < its.length := by omega
    have hj : j < its.toArray.size := by simpa using hjl
    have at_ : ∀ (m : Nat) (hm : m < its.toArray.size) (z' : PyData), ds[m]? = some z' → SeqAt.readOf s.heap its.toArray[m] = z' := by
      intro m hm z' hz'
      have hml : m < its.length := by simpa using hm
      rw [← hmap, List.getElem?_map, List.getElem?_eq_getElem hml] at hz'
      have e1 : SeqAt.readOf s.heap its[m] = z' := Option.some.inj (show some (SeqAt.readOf s.heap its[m]) = some z' from hz')
      simpa using e1
    refine call_meets PySem.F.slot_list_remove ⟨_, e0, rfl⟩ PySem.F.entry_list_remove (PySem.F.args_list_remove_2 _ _)
      (SeqAt.list_removeAt a its.toArray n _ _ uy (fun u => PyData.eqv (SeqAt.readOf s.heap u) d) j hj ?_ ?_ (by rw [List.size_toArray]; omega)) ⟨e0, SeqAt.items_eqAt (vs := its.toArray) (show ReadsAll s.heap its.toArray.toList ds as from h4) r1 hxs (SeqAt.canLay_of_shaped sd) hroom, ?_⟩
    · show PyData.eqv (SeqAt.readOf s.heap its.toArray[j]) d = true
      rw [at_ j hj z hz]
      exact hzj
    · intro m hm hmj
      have hmd : m < ds.length := by have : m < its.length := by simpa using hm
                                     omega
      have hz' : ds[m]? = some ds[m] := List.getElem?_eq_getElem hmd
      show PyData.eqv (SeqAt.readOf s.heap its.toArray[m]) d = false
      rw [at_ m hm _ hz']
      exact hno m _ hmj hz'
    · have rr := rv.eraseIdx j
      have hll := rv.length
      refine ⟨.non, _, I.lset (its' := its.eraseIdx j) (t' := s.toks) hH e0 ?_ rr ?_, rfl, q⟩
      · show its.toArray.eraseIdxIfInBounds j = (its.eraseIdx j).toArray
        rw [List.eraseIdxIfInBounds_toArray]
      · have z2 : (ys.eraseIdx j).length ≤ ys.length := List.length_eraseIdx_le ..
        omega
end
end HwX

namespace HwP
open PySem PySem.Spec PyProof.Rows L2 Hw
open C8 (pss_cut tCut)
open HwG RZ HwZ HwA
def topS (i : Nat) : Stmt := PySem.Challenge.pw_hullwright_k60_builders_changed.main.body.getD i (.Pass ⟨0, 0, 0, 0⟩)
/-- the built-in names that the text leaves as they are, and gcd -/
structure Glb (mg : Str → Option Value) : Prop where
  m_len : mg "len" = none
  m_range : mg "range" = none
  m_int : mg "int" = none
  m_list : mg "list" = none
  m_tuple : mg "tuple" = none
  m_bool : mg "bool" = none
  m_isinstance : mg "isinstance" = none
  m_abs : mg "abs" = none
  m_sum : mg "sum" = none
  m_zip : mg "zip" = none
  m_str : mg "str" = none
  m_any : mg "any" = none
  m_all : mg "all" = none
  m_gcd : mg "gcd" = some (.builtin "math.gcd")
  m_lcm : mg "lcm" = some (.builtin "math.lcm")
/-- what a body that calls a def wants of it -/
structure Call (P : Program) (w : World) (K : PySem.W.Frag) (mg : Str → Option Value) (base : Heap) (k : Nat) (nm : Str) (ps : List Str) (sp : Sp) where
  g : Addr
  gd : FuncData
  G : FnOk P w K mg base CX0 k g gd ps sp
  m : mg nm = some (.ref g)
  kp : PySem.W.keepIn K (.ref g) = true
  b : Binds K gd ps []
section
variable {P : Program} {w : World} {K : PySem.W.Frag} {mg : Str → Option Value} {base : Heap}

/-! ### own error classes over ValueError -/
abbrev VE : List Value := [.type "ValueError", .type "Exception", .type "BaseException", .type "object"]
/-- what the written part says of the class nm at C -/
structure Er (K : PySem.W.Frag) (mg : Str → Option Value) (nm : Str) (C : Addr) : Prop where
  g : mg nm = some (.ref C)
  x : PySem.W.excIn K C VE "ValueError.__new__" = true
  k : PySem.W.keepIn K (.ref C) = true
  b : PySem.W.subIn K (.ref C) (.type "BaseException") = some true
  t : PySem.W.typeIn K (.ref C) = some (.type "type")
  d : PySem.W.hasDictIn K C = true
  s : PySem.W.subIn K (.ref C) (.ref C) = some true
theorem Er.em {K : PySem.W.Frag} {mg : Str → Option Value} {nm : Str} {C : Addr} (T : Er K mg nm C) : PySem.W.exmOne K (.ref C) (.ref C) = some true := PySem.W.exm_ref T.b T.d T.t T.s
def rE (K : PySem.W.Frag) (D a : Addr) (cls : Value) (d : Option Addr) : List V → Hp → VK → Prop := fun xs H Q => cls = .ref D ∧ d = none ∧ rIsE K D a xs H Q
section
variable {X : Cx}
/-- raise nm('..') -/
theorem raiseE {W : WX} {nm : Str} {C : Addr} {m : Str} {j : Nat} {p p2 pos pos2 : Pos} (T : Er X.K X.mg nm C) (hc : X.calm = true) (tk : Takes X W) (hg : Gl X nm) (hdb : (nm == ("__debug__" : Str)) = false := by decide) :
    PS X (.Raise (some (.Call (.Name nm p) [.Constant (.str m) j p2] [] pos)) none pos2) (fun _ σ H => W (.ref C) none σ H) :=
  ps_raise hc tk (pmk_own PySem.F.excBase_ValueError T.x T.g T.k (raises_own T.b T.t) hg hdb)
/-- isinstance of the error that the suite holds -/
theorem call_isE2 {a D : Addr} {cls : Value} {d : Option Addr} {oe : Obj} {pn : List (Addr × Obj)} (C : ExcC X.K D) (hz : Zc cls d oe) (hf : ∃ vs, oe.data = .fields vs) : CallR (X.suite a ((a, oe) :: pn)) (.builtin "isinstance") (rE X.K D a cls d) := by
  intro pins s σ H xs us Q I r h
  obtain ⟨rfl, rfl, h⟩ := h
  exact call_isE C hz hf pins s σ H xs us Q I r h
end

/-! ### Euclid's loop, by Fibonacci's numbers -/
def fb : Nat → Nat
  | 0 => 0
  | 1 => 1
  | n + 2 => fb (n + 1) + fb n
theorem fb_mono (n : Nat) : fb n ≤ fb (n + 1) ∨ n = 0 := by
  cases n with
  | zero => exact .inr rfl
  | succ n => left; rw [fb]; omega
theorem fb_grow : ∀ n : Nat, 3 * 4 ^ n ≤ fb (3 * n + 4)
  | 0 => by decide
  | n + 1 => by
    have ih := fb_grow n
    have e1 : fb (3 * (n + 1) + 4) = fb (3 * n + 6) + fb (3 * n + 5) := by rw [show 3 * (n + 1) + 4 = (3 * n + 5) + 2 by omega, fb]
    have e2 : fb (3 * n + 6) = fb (3 * n + 5) + fb (3 * n + 4) := by rw [show 3 * n + 6 = (3 * n + 4) + 2 by omega, fb]
    have e3 : fb (3 * n + 5) = fb (3 * n + 4) + fb (3 * n + 3) := by rw [show 3 * n + 5 = (3 * n + 3) + 2 by omega, fb]
    have e4 : fb (3 * n + 4) = fb (3 * n + 3) + fb (3 * n + 2) := by rw [show 3 * n + 4 = (3 * n + 2) + 2 by omega, fb]
    have e5 := (fb_mono (3 * n + 2)).resolve_right (by omega)
    have e5 : fb (3 * n + 2) ≤ fb (3 * n + 3) := e5
    rw [Nat.pow_succ]
    omega
theorem fb_600 : 2 ^ 397 ≤ fb 600 := by
  have h := fb_grow 198
  have e : fb (3 * 198 + 4) = fb 598 := rfl
  rw [e] at h
  have h1 : fb 598 ≤ fb 599 := (fb_mono 598).resolve_right (by decide)
  have h2 : fb 599 ≤ fb 600 := (fb_mono 599).resolve_right (by decide)
  have h3 : (2 : Nat) ^ 397 ≤ 3 * 4 ^ 198 := by decide +kernel
  omega
def Fit2 (i A B : Nat) : Prop := (i = 0 ∧ B < 2 ^ 395) ∨ ∃ j, i = j + 1 ∧ B < A ∧ fb (j + 1) * A + fb j * B < 2 ^ 395
theorem fit2_step {i A B : Nat} (h : Fit2 i A B) (hb : B ≠ 0) : Fit2 (i + 1) B (A % B) := by
  have hr : A % B < B := Nat.mod_lt _ (Nat.pos_of_ne_zero hb)
  rcases h with ⟨rfl, h⟩ | ⟨j, rfl, hlt, h⟩
  · refine .inr ⟨0, rfl, hr, ?_⟩
    show 1 * B + 0 * (A % B) < _
    omega
  · refine .inr ⟨j + 1, rfl, hr, ?_⟩
    have h2 : B + A % B ≤ A := by
      have e : B * (A / B) + A % B = A := Nat.div_add_mod A B
      have q : 1 ≤ A / B := Nat.div_pos (Nat.le_of_lt hlt) (Nat.pos_of_ne_zero hb)
      have m : B * 1 ≤ B * (A / B) := Nat.mul_le_mul_left _ q
      omega
    have h3 := Nat.mul_le_mul_left (fb (j + 1)) h2
    have e : fb (j + 1 + 1) * B + fb (j + 1) * (A % B) = fb (j + 1) * (B + A % B) + fb j * B := by
      rw [show fb (j + 1 + 1) = fb (j + 1) + fb j from rfl, Nat.add_mul, Nat.mul_add]
      omega
    rw [e]
    omega
theorem fit2_end {A B : Nat} (h : Fit2 600 A B) : B = 0 := by
  rcases h with ⟨h, _⟩ | ⟨j, hj, hlt, h⟩
  · omega
  · by_cases hb : B = 0
    · exact hb
    · exfalso
      have : j = 599 := by omega
      subst this
      have h1 : fb 600 * 1 ≤ fb (599 + 1) * A := Nat.mul_le_mul_left _ (by omega)
      have h2 := fb_600
      have h3 : (2 : Nat) ^ 395 < 2 ^ 397 := Nat.pow_lt_pow_right (by decide) (by decide)
      generalize fb (599 + 1) * A = X at *
      generalize fb 600 = Y at *
      generalize fb 599 * B = W at *
      omega
/-! ### the law's greatest common divisor -/
abbrev s__law_gcd : Stmt := topS 53
theorem sc__law_gcd : FnScope ["a", "b", "k", "hold"] ["a", "b"] (defScope s__law_gcd) := ⟨rfl, rfl, rfl, by decide +kernel, rfl, by decide +kernel, by decide +kernel⟩
def spGcd : Sp := fun vs H Q _ => ∃ a b : Int, vs = [.int a, .int b] ∧ b.natAbs < 2 ^ 395 ∧ Q (.int (g2 a b)) H
theorem abs_of (a : Int) : (if a < 0 then -a else a) = ((a.natAbs : Nat) : Int) := by
  split <;> omega
theorem ok_gcd {f : Addr} {fd : FuncData} {k : Nat} (F : Fun K "_law_gcd" "_law_gcd" s__law_gcd f fd) (Z : Glb mg) : FnOk P w K mg base CX0 (k + 1) f fd ["a", "b"] spGcd := by
  refine F.ok sc__law_gcd (fun vs H Q E h => ?_) (fun cdv A outer s H vs Q E hr h => ?_)
  · obtain ⟨a, b, rfl, _⟩ := h
    rfl
  · obtain ⟨a, b, rfl, hb, q⟩ := h
    refine ⟨_, (pss_cons (ps_set (i := 0) sc__law_gcd.nd rfl (.inl rfl) (pe_callB call_abs (by rfl) Z.m_abs (by decide +kernel) (pa_cons (pv 0) pa_nil)))
      (pss_cons (ps_set (i := 1) sc__law_gcd.nd rfl (.inl rfl) (pe_callB call_abs (by rfl) Z.m_abs (by decide +kernel) (pa_cons (pv 1) pa_nil)))
      (pss_cons (ps_for PassesOwn.never rfl (pi_range1 rfl Z.m_range (pa_cons pe_int pa_nil)) (pg_name (i := 2) sc__law_gcd.nd rfl (.inl rfl)) (pss_cons (ps_if (pt_cmpR op_eq (pv 1) pe_int (nomark _)) (pss_one ps_break) pss_nil)
      (pss_cons (ps_set (i := 3) sc__law_gcd.nd rfl (.inl rfl) (pe_op op_modN (pe_callTy call_int1 (by rfl) Z.m_int (by decide +kernel) (pa_cons (pv 0) pa_nil)) (pv 1)))
      (pss_cons (ps_set (i := 0) sc__law_gcd.nd rfl (.inl rfl) (pv 1))
      (pss_one (ps_set (i := 1) sc__law_gcd.nd rfl (.inl rfl) (pv 3)))))))
      (pss_one (ps_ret (pv 0)))))), ?_⟩
    refine ⟨_, rfl, a, rfl, _, rfl, b, rfl, 600, rfl, by decide, by decide, ?_⟩
    rw [abs_of, abs_of]
    refine for_range (lo := 0) (n := 600) (fun i σ H' => H' = H ∧ ∃ (A B : Nat) (y2 y3 : Option V), σ = [some (.int A), some (.int B), y2, y3] ∧ Nat.gcd A B = Nat.gcd a.natAbs b.natAbs ∧ Fit2 i A B) ⟨rfl, _, _, _, _, rfl, rfl, .inl ⟨rfl, hb⟩⟩ (fun i σ H' hi hP => ?_) (fun σ H' hP => ?_)
    · obtain ⟨rfl, A', B', y2, y3, rfl, hg, hf⟩ := hP
      refine ⟨_, rfl, rfl, _, rfl, ite2 (fun e => ?_) (fun e => ?_)⟩
      · have e0 : B' = 0 := by
          have := V.int.inj (of_decide_eq_true e)
          omega
        subst e0
        refine ⟨_, rfl, ?_⟩
        rw [Nat.gcd_zero_right] at hg
        rw [hg]
        exact q
      · have e0 : B' ≠ 0 := fun z => e (by subst z; exact decide_eq_true rfl)
        refine ⟨_, rfl, .inl ⟨_, rfl, _, rfl, _, _, rfl, rfl, by omega, ?_⟩⟩
        have em : ((A' : Int).fmod (B' : Int)) = ((A' % B' : Nat) : Int) := by
          rw [Int.fmod_eq_emod_of_nonneg _ (by omega)]
          rfl
        refine ⟨_, rfl, _, rfl, rfl, B', A' % B', some (.int (0 + (i : Int))), some (.int ((A' % B' : Nat) : Int)), ?_, ?_, fit2_step hf e0⟩
        · rw [← em]
          rfl
        · rw [gcd_turn, hg]
    · obtain ⟨rfl, A', B', y2, y3, rfl, hg, hf⟩ := hP
      have e0 := fit2_end hf
      subst e0
      rw [Nat.gcd_zero_right] at hg
      refine ⟨_, rfl, ?_⟩
      rw [hg]
      exact q

/-! ### the law's draws: what they leave is told by bounds alone -/
abbrev s__law_spread : Stmt := topS 50
theorem sc__law_spread : FnScope ["cell", "mixed", "total", "k"] ["cell"] (defScope s__law_spread) := ⟨rfl, rfl, rfl, by decide +kernel, rfl, by decide +kernel, by decide +kernel⟩
def spSpread : Sp := fun vs H Q _ => ∃ c : Int, vs = [.int c] ∧ ∀ t : Int, Q (.int t) H
theorem ok_spread {f : Addr} {fd : FuncData} {k : Nat} (F : Fun K "_law_spread" "_law_spread" s__law_spread f fd) (Z : Glb mg) : FnOk P w K mg base CX0 (k + 1) f fd ["cell"] spSpread := by
  refine F.ok sc__law_spread (fun vs H Q E h => ?_) (fun cdv A outer s H vs Q E hr h => ?_)
  · obtain ⟨c, rfl, _⟩ := h
    rfl
  · obtain ⟨c, rfl, q⟩ := h
    refine ⟨_, (pss_cons (ps_set (i := 1) sc__law_spread.nd rfl (.inl rfl) (pe_op op_modN (pe_callTy call_int1 (by rfl) Z.m_int (by decide +kernel) (pa_cons (pv 0) pa_nil)) pe_int))
      (pss_cons (ps_set (i := 2) sc__law_spread.nd rfl (.inl rfl) pe_int)
      (pss_cons (ps_for PassesOwn.never rfl (pi_range1 rfl Z.m_range (pa_cons pe_int pa_nil)) (pg_name (i := 3) sc__law_spread.nd rfl (.inl rfl)) (pss_cons (ps_set (i := 1) sc__law_spread.nd rfl (.inl rfl) (pe_op op_modN (pe_callTy call_int1 (by rfl) Z.m_int (by decide +kernel) (pa_cons (pe_op op_add (pe_op op_add (pe_op op_mul (pv 1) pe_int) pe_int) (pv 3)) pa_nil)) pe_int))
      (pss_one (ps_set (i := 2) sc__law_spread.nd rfl (.inl rfl) (pe_op op_add (pe_op op_mul (pv 2) pe_int) (pv 1))))))
      (pss_one (ps_ret (pv 2)))))), ?_⟩
    refine ⟨_, rfl, .inl ⟨_, rfl, _, _, rfl, rfl, (by show (2147483647 : Int) ≠ 0; decide), 4, rfl, by decide, by decide, ?_⟩⟩
    refine for_range (lo := 0) (n := 4) (fun i σ H' => H' = H ∧ ∃ (m t : Int) (y3 : Option V), σ = [some (.int c), some (.int m), some (.int t), y3]) ⟨rfl, _, _, _, rfl⟩ (fun i σ H' hi hP => ?_) (fun σ H' hP => ?_)
    · obtain ⟨rfl, m, t, y3, rfl⟩ := hP
      refine ⟨_, rfl, _, _, rfl, rfl, .inr ⟨by decide, by decide⟩, _, _, rfl, rfl, _, rfl, _, _, rfl, rfl, .inl ⟨_, rfl, _, _, rfl, rfl, (by show (2147483647 : Int) ≠ 0; decide), ?_⟩⟩
      exact ⟨_, rfl, _, _, rfl, rfl, .inr ⟨by decide, by decide⟩, _, rfl, _, _, rfl, rfl, rfl, _, _, _, rfl⟩
    · obtain ⟨rfl, m, t, y3, rfl⟩ := hP
      exact ⟨_, rfl, q t⟩
/-- a pool: its script's ints, then four ints -/
def Pl (H : Hp) (p : Addr) : Prop := ∃ (q : Addr) (ns : List Int) (a : Nat) (b c d : Int), H p = some (.lst [.ref q, .int a, .int b, .int c, .int d]) ∧ H q = some (.lst (ns.map V.int)) ∧ q ≠ p
/-- the head of the list at p -/
def Hd (H : Hp) (p q : Addr) : Prop := ∃ l, H p = some (.lst (.ref q :: l))
/-- all but p is as it was, and p has its head -/
def But (p : Addr) (H H' : Hp) : Prop := (∀ x, x ≠ p → H' x = H x) ∧ ∀ q, Hd H p q → Hd H' p q
theorem But.refl (p : Addr) (H : Hp) : But p H H := ⟨fun _ _ => rfl, fun _ h => h⟩
theorem But.trans {p : Addr} {H H1 H2 : Hp} (a : But p H H1) (b : But p H1 H2) : But p H H2 := ⟨fun x h => (b.1 x h).trans (a.1 x h), fun q h => b.2 q (a.2 q h)⟩
theorem But.upd {p q : Addr} {H : Hp} {l l' : List V} (hp : H p = some (.lst (.ref q :: l))) : But p H (upd H p (.lst (.ref q :: l'))) :=
  ⟨fun _ h => upd_ne h, fun q' h => by
    obtain ⟨l2, e⟩ := h
    have := hp.symm.trans e
    injection this with this
    injection this with this
    injection this with this
    injection this with this
    subst this
    exact ⟨l', upd_same⟩⟩
theorem pl_upd {H : Hp} {p q : Addr} {ns : List Int} (a : Nat) (b c d : Int) (hq : H q = some (.lst (ns.map V.int))) (ne : q ≠ p) : Pl (upd H p (.lst [.ref q, .int a, .int b, .int c, .int d])) p :=
  ⟨q, ns, a, b, c, d, upd_same, by rw [upd_ne ne]; exact hq, ne⟩
abbrev s__law_draw : Stmt := topS 51
theorem sc__law_draw : FnScope ["pool", "many", "cell", "mixed", "value"] ["pool", "many"] (defScope s__law_draw) := ⟨rfl, rfl, rfl, by decide +kernel, rfl, by decide +kernel, by decide +kernel⟩
def spDraw : Sp := fun vs H Q _ => ∃ (p : Addr) (m : Int), vs = [.ref p, .int m] ∧ 0 < m ∧ m.natAbs < 2 ^ 8000 ∧ Pl H p ∧ ∀ (v : Int) (H' : Hp), 0 ≤ v → v < m → Pl H' p → But p H H' → Q (.int v) H'
theorem ok_draw {f : Addr} {fd : FuncData} {k : Nat} (F : Fun K "_law_draw" "_law_draw" s__law_draw f fd) (Z : Glb mg)
    (C_law_spread : Call P w K mg base k "_law_spread" ["cell"] spSpread) : FnOk P w K mg base CX0 (k + 1) f fd ["pool", "many"] spDraw := by
  refine F.ok sc__law_draw (fun vs H Q E h => ?_) (fun cdv A outer s H vs Q E hr h => ?_)
  · obtain ⟨p, m, rfl, _⟩ := h
    rfl
  · obtain ⟨p, m, rfl, hm, hb, hP, q⟩ := h
    refine ⟨_, (pss_cut (ps_if (PW.pt (pw_and (pt_cmpR op_le (pe_ix (r := rIxL K) ix_list (pv 0) pe_int (fun _ _ => rfl)) pe_int (nomark _)) (pw_and1 (pt_cmpR op_lt (pe_ix (r := rIxL K) ix_list (pv 0) pe_int (fun _ _ => rfl)) (pe_callB call_len_seq (by rfl) Z.m_len PySem.boot_len (pa_cons (pe_ix (r := rIxL K) ix_list (pv 0) pe_int (fun _ _ => rfl)) pa_nil)) (nomark _))))) (pss_cons (ps_set (i := 2) sc__law_draw.nd rfl (.inl rfl) (pe_ix (r := rIxL K) ix_list (pe_ix (r := rIxL K) ix_list (pv 0) pe_int (fun _ _ => rfl)) (pe_ix (r := rIxL K) ix_list (pv 0) pe_int (fun _ _ => rfl)) (fun _ _ => rfl)))
      (pss_cons (ps_asg (pe_op op_add (pe_ix (r := rIxL K) ix_list (pv 0) pe_int (fun _ _ => rfl)) pe_int) (pg_sub (pv 0) pe_int set_list))
      (pss_cons (ps_asg (pv 2) (pg_sub (pv 0) pe_int set_list))
      (pss_one (ps_if (pt_cmpR op_lt (pv 2) pe_int (nomark _)) (pss_one (ps_asg (pe_call C_law_spread.G hr (by rfl) C_law_spread.m C_law_spread.kp C_law_spread.b .nil pass0 (pa_cons (pv 2) pa_nil)) (pg_sub (pv 0) pe_int set_list))) pss_nil))))) pss_nil)
      (pss_cons (ps_asg (pe_op op_add (pe_ix (r := rIxL K) ix_list (pv 0) pe_int (fun _ _ => rfl)) pe_int) (pg_sub (pv 0) pe_int set_list))
      (pss_cons (ps_if (pt_cmpR op_le (pe_ix (r := rIxL K) ix_list (pv 0) pe_int (fun _ _ => rfl)) pe_int (nomark _)) (pss_cons (ps_set (i := 3) sc__law_draw.nd rfl (.inl rfl) (pe_op op_modN (pe_callTy call_int1 (by rfl) Z.m_int (by decide +kernel) (pa_cons (pe_op op_add (pe_op op_add (pe_op op_mul (pe_ix (r := rIxL K) ix_list (pv 0) pe_int (fun _ _ => rfl)) pe_int) (pe_op op_mul (pe_ix (r := rIxL K) ix_list (pv 0) pe_int (fun _ _ => rfl)) pe_int)) pe_int) pa_nil)) pe_int))
      (pss_cons (ps_set (i := 3) sc__law_draw.nd rfl (.inl rfl) (pe_op op_modN (pe_callTy call_int1 (by rfl) Z.m_int (by decide +kernel) (pa_cons (pe_op op_add (pe_op op_mul (pv 3) pe_int) (pe_ix (r := rIxL K) ix_list (pv 0) pe_int (fun _ _ => rfl))) pa_nil)) pe_int))
      (pss_one (ps_ret (pe_op op_modN (pe_op op_fdivN (pv 3) pe_int) (pv 1)))))) pss_nil)
      (pss_cons (ps_set (i := 4) sc__law_draw.nd rfl (.inl rfl) (pe_op op_modN (pe_callTy call_int1 (by rfl) Z.m_int (by decide +kernel) (pa_cons (pe_ix (r := rIxL K) ix_list (pv 0) pe_int (fun _ _ => rfl)) pa_nil)) (pv 1)))
      (pss_cons (ps_asg (pe_op op_fdivW (pe_ix (r := rIxL K) ix_list (pv 0) pe_int (fun _ _ => rfl)) (pv 1)) (pg_sub (pv 0) pe_int set_list))
      (pss_one (ps_ret (pv 4)))))))), ?_⟩
    refine ⟨fun σ H' => ∃ y2 : Option V, σ = [some (.ref p), some (.int m), y2, none, none] ∧ Pl H' p ∧ But p H H', ?_, ?_⟩
    · obtain ⟨q', ns, a, b, c, d, hp, hq, ne⟩ := hP
      refine ⟨_, rfl, _, _, _, _, rfl, rfl, SqL.of hp, atI_nat (j := 2) rfl, _, _, rfl, rfl, _, rfl, ite2 (fun e1 => ?_) (fun e1 => ?_)⟩
      · refine ⟨_, rfl, _, _, _, _, rfl, rfl, SqL.of hp, atI_nat (j := 1) rfl, _, rfl, _, _, _, _, rfl, rfl, SqL.of hp, atI_nat (j := 0) rfl, _, _, rfl, .inl (SqL.of hq), _, _, rfl, rfl, _, rfl, ite2 (fun e2 => ?_) (fun e2 => ?_)⟩
        · have e3 : a < ns.length := by
            have := of_decide_eq_true e2
            rw [List.length_map] at this
            omega
          have g1 : (ns.map V.int)[a]? = some (.int ns[a]) := by
            rw [List.getElem?_map, List.getElem?_eq_getElem e3]
            rfl
          -- cell = pool[0][pool[1]]
          refine ⟨_, rfl, _, _, _, _, rfl, rfl, SqL.of hp, atI_nat (j := 0) rfl, _, rfl, _, _, _, _, rfl, rfl, SqL.of hp, atI_nat (j := 1) rfl, _, _, _, _, rfl, rfl, SqL.of hq, atI_nat g1, ?_⟩
          -- pool[1] = pool[1] + 1
          refine ⟨_, rfl, _, _, _, _, rfl, rfl, SqL.of hp, atI_nat (j := 1) rfl, _, _, rfl, rfl, _, rfl, _, _, _, 1, rfl, rfl, hp, rfl, ?_⟩
          -- pool[2] = cell
          refine ⟨_, rfl, _, rfl, _, _, _, 2, rfl, rfl, upd_same, rfl, ?_⟩
          rw [upd_upd]
          refine ⟨_, rfl, _, _, rfl, rfl, _, rfl, ite2 (fun e4 => ?_) (fun e4 => ?_)⟩
          · refine ⟨_, rfl, _, rfl, fun t => ⟨_, rfl, _, _, _, 2, rfl, rfl, upd_same, rfl, ?_⟩⟩
            rw [upd_upd]
            exact ⟨some (.int ns[a]), rfl, pl_upd (a + 1) t c d hq ne, (But.upd hp)⟩
          · exact ⟨some (.int ns[a]), rfl, pl_upd (a + 1) ns[a] c d hq ne, (But.upd hp)⟩
        · exact ⟨none, rfl, ⟨q', ns, a, b, c, d, hp, hq, ne⟩, But.refl _ _⟩
      · exact iteF ⟨none, rfl, ⟨q', ns, a, b, c, d, hp, hq, ne⟩, But.refl _ _⟩
    · intro σ H1 hW
      obtain ⟨y2, rfl, ⟨q', ns, a, b, c, d, hp, hq, ne⟩, hB⟩ := hW
      -- pool[3] = pool[3] + 1
      refine ⟨_, rfl, _, _, _, _, rfl, rfl, SqL.of hp, atI_nat (j := 3) rfl, _, _, rfl, rfl, _, rfl, _, _, _, 3, rfl, rfl, hp, rfl, ?_⟩
      have h0 : (upd H1 p (.lst [.ref q', .int a, .int b, .int (c + 1), .int d])) p = some (.lst [.ref q', .int a, .int b, .int (c + 1), .int d]) := upd_same
      refine ⟨_, rfl, _, _, _, _, rfl, rfl, SqL.of h0, atI_nat (j := 2) rfl, _, _, rfl, rfl, _, rfl, ite2 (fun e1 => ?_) (fun e1 => ?_)⟩
      · refine ⟨_, rfl, _, _, _, _, rfl, rfl, SqL.of h0, atI_nat (j := 4) rfl, _, _, rfl, rfl, .inr ⟨by decide, by decide⟩, _, rfl, _, _, _, _, rfl, rfl, SqL.of h0, atI_nat (j := 3) rfl, _, _, rfl, rfl, .inr ⟨by decide, by decide⟩, _, _, rfl, rfl, _, _, rfl, rfl, .inl ⟨_, rfl, _, _, rfl, rfl, (by show (2147483647 : Int) ≠ 0; decide), ?_⟩⟩
        refine ⟨_, rfl, _, _, rfl, rfl, .inr ⟨by decide, by decide⟩, _, rfl, _, _, _, _, rfl, rfl, SqL.of h0, atI_nat (j := 3) rfl, _, _, rfl, rfl, .inl ⟨_, rfl, _, _, rfl, rfl, (by show (2147483629 : Int) ≠ 0; decide), ?_⟩⟩
        refine ⟨_, rfl, _, _, rfl, rfl, ⟨by decide, by decide⟩, _, rfl, _, _, rfl, rfl, (by show m ≠ 0; omega), ?_⟩
        exact q _ _ (Int.fmod_nonneg_of_pos _ hm) (Int.fmod_lt_of_pos _ hm) (pl_upd a b (c + 1) d hq ne) (hB.trans (But.upd hp))
      · refine ⟨_, rfl, _, _, _, _, rfl, rfl, SqL.of h0, atI_nat (j := 2) rfl, .inl ⟨_, rfl, _, rfl, _, _, rfl, rfl, (by show m ≠ 0; omega), ?_⟩⟩
        refine ⟨_, rfl, _, _, _, _, rfl, rfl, SqL.of h0, atI_nat (j := 2) rfl, _, rfl, _, _, rfl, rfl, wide_div hm hb (by decide) (by decide), _, rfl, _, _, _, 2, rfl, rfl, h0, rfl, ?_⟩
        rw [upd_upd]
        refine ⟨_, rfl, ?_⟩
        exact q _ _ (Int.fmod_nonneg_of_pos _ hm) (Int.fmod_lt_of_pos _ hm) (pl_upd a _ (c + 1) d hq ne) (hB.trans (But.upd hp))

/-! ### the law's pool -/
abbrev s__law_pool : Stmt := topS 49
theorem sc__law_pool : FnScope ["script", "salt", "cell"] ["script"] (defScope s__law_pool) := ⟨rfl, rfl, rfl, by decide +kernel, rfl, by decide +kernel, by decide +kernel⟩
theorem same_upd {H : Hp} {p : Addr} {o : HO} (h : H p = none) : Same H (upd H p o) := fun b x e => by
  rw [upd_ne (ne_of_none e h)]
  exact e
theorem cut_int {ns : List Int} {lo hi : Option Int} {i : Nat} {x : V} (h : (cutV (ns.map V.int) lo hi)[i]? = some x) : ∃ n : Int, x = .int n := by
  have m := List.mem_of_getElem? h
  unfold cutV at m
  have m2 := List.mem_of_mem_drop (List.mem_of_mem_take m)
  obtain ⟨n, _, e⟩ := List.mem_map.mp m2
  exact ⟨n, e.symm⟩
def spPool (K : PySem.W.Frag) : Sp := fun vs H Q _ => ∃ (a : Addr) (ns : List Int), vs = [.ref a] ∧ SqL K H a (ns.map V.int) ∧ ∀ (H' : Hp) (p : Addr), Same H H' → H p = none → Pl H' p → Q (.ref p) H'
theorem ok_pool {f : Addr} {fd : FuncData} {k : Nat} (F : Fun K "_law_pool" "_law_pool" s__law_pool f fd) (Z : Glb mg) : FnOk P w K mg base CX0 (k + 1) f fd ["script"] (spPool K) := by
  refine F.ok sc__law_pool (fun vs H Q E h => ?_) (fun cdv A outer s H vs Q E hr h => ?_)
  · obtain ⟨a, ns, rfl, _⟩ := h
    rfl
  · obtain ⟨a, ns, rfl, hS, q⟩ := h
    refine ⟨_, (pss_cons (ps_set (i := 1) sc__law_pool.nd rfl (.inl rfl) pe_int)
      (pss_cons (ps_for PassesOwn.never rfl (pi_list (pe_slice (r := rSlL K) sl_list (pv 0) po_none (po_some pe_int))) (pg_name (i := 2) sc__law_pool.nd rfl (.inl rfl)) (pss_one (ps_set (i := 1) sc__law_pool.nd rfl (.inl rfl) (pe_op op_modN (pe_callTy call_int1 (by rfl) Z.m_int (by decide +kernel) (pa_cons (pe_op op_add (pe_op op_mul (pv 1) pe_int) (pv 2)) pa_nil)) pe_int))))
      (pss_one (ps_ret (pe_lst (pa_cons (pe_callTy call_list_of (by rfl) Z.m_list (by decide +kernel) (pa_cons (pv 0) pa_nil)) (pa_cons pe_int (pa_cons pe_int (pa_cons pe_int (pa_cons (pv 1) pa_nil)))))))))), ?_⟩
    refine ⟨_, rfl, _, rfl, a, ns.map V.int, rfl, hS, fun c nc => ?_⟩
    have s1 : Same H (upd H c (.lst (cutV (ns.map V.int) none (some 63)))) := same_upd nc
    refine ⟨c, rfl, ⟨_, SqL.of upd_same⟩, ?_⟩
    refine for_list (xs := cutV (ns.map V.int) none (some 63)) (fun i σ H' => H' = upd H c (.lst (cutV (ns.map V.int) none (some 63))) ∧ ∃ (m : Int) (y2 : Option V), σ = [some (.ref a), some (.int m), y2]) ⟨rfl, _, _, rfl⟩ (fun i σ H' _ hP => by obtain ⟨rfl, _⟩ := hP; exact SqL.of upd_same) (fun i x σ H' hx hP => ?_) (fun σ H' hP => ?_)
    · obtain ⟨rfl, m, y2, rfl⟩ := hP
      obtain ⟨n, rfl⟩ := cut_int hx
      exact ⟨_, rfl, _, _, rfl, rfl, .inr ⟨by decide, by decide⟩, _, rfl, _, _, rfl, rfl, .inl ⟨_, rfl, _, _, rfl, rfl, (by show (1000003 : Int) ≠ 0; decide), rfl, _, _, rfl⟩⟩
    · obtain ⟨rfl, m, y2, rfl⟩ := hP
      refine ⟨_, rfl, a, ns.map V.int, rfl, .inl (s1.seq hS), fun l nl => ⟨_, rfl, ?_, fun p np => ?_⟩⟩
      · exact Nat.le_of_lt (small1000 (show 5 ≤ 1000 by decide))
      · have s2 : Same (upd H c (.lst (cutV (ns.map V.int) none (some 63)))) (upd (upd H c (.lst (cutV (ns.map V.int) none (some 63)))) l (.lst (ns.map V.int))) := same_upd nl
        have lp : l ≠ p := ne_of_none upd_same np
        refine q _ _ ((s1.trans s2).trans (same_upd np)) ((s1.trans s2).free np) ⟨l, ns, 0, 0, 0, m, upd_same, ?_, lp⟩
        rw [upd_ne lp]
        exact upd_same

/-! ### the law's comparison of two answers: alike data is told to be the same -/
inductive Alike (H : Hp) : Nat → V → V → Prop where
  | int (n : Nat) (i : Int) : Alike H n (.int i) (.int i)
  | bl (n : Nat) (b : Bool) : Alike H n (.bl b) (.bl b)
  | non (n : Nat) : Alike H n .non .non
  | str (n : Nat) (z : Str) : Alike H n (.str z) (.str z)
  | tup {n : Nat} {a b : Addr} {xs ys : List V} (ha : H a = some (.tup xs)) (hb : H b = some (.tup ys)) (hl : xs.length = ys.length) (hm : xs.length ≤ 1000000) (h : ∀ (i : Nat) (x y : V), xs[i]? = some x → ys[i]? = some y → Alike H n x y) : Alike H (n + 1) (.ref a) (.ref b)
  | lst {n : Nat} {a b : Addr} {xs ys : List V} (ha : H a = some (.lst xs)) (hb : H b = some (.lst ys)) (hl : xs.length = ys.length) (hm : xs.length ≤ 1000000) (h : ∀ (i : Nat) (x y : V), xs[i]? = some x → ys[i]? = some y → Alike H n x y) : Alike H (n + 1) (.ref a) (.ref b)
abbrev s__law_same : Stmt := topS 52
theorem sc__law_same : FnScope ["actual", "due", "k"] ["actual", "due"] (defScope s__law_same) := ⟨rfl, rfl, rfl, by decide +kernel, rfl, by decide +kernel, by decide +kernel⟩
def spSame (n : Nat) : Sp := fun vs H Q _ => ∃ x y : V, vs = [x, y] ∧ Alike H n x y ∧ Q (.bl true) H
structure SameG (mg : Str → Option Value) : Prop where
  mIs : mg "isinstance" = none
  mT : mg "tuple" = none
  mLi : mg "list" = none
  mL : mg "len" = none
  mR : mg "range" = none
  mB : mg "bool" = none
  mI : mg "int" = none
theorem ok_same {f : Addr} {fd : FuncData} {k n : Nat} (F : Fun K "_law_same" "_law_same" s__law_same f fd) (Z : Glb mg)
    (G : ∀ m, n = m + 1 → FnOk P w K mg base CX0 k f fd ["actual", "due"] (spSame m)) (gS : mg "_law_same" = some (.ref f)) (bS : Binds K fd ["actual", "due"] []) : FnOk P w K mg base CX0 (k + 1) f fd ["actual", "due"] (spSame n) := by
  refine F.ok sc__law_same (fun vs H Q E h => ?_) (fun cdv A outer s H vs Q E hr h => ?_)
  · obtain ⟨x, y, rfl, _⟩ := h
    rfl
  · obtain ⟨x, y, rfl, hA, q⟩ := h
    have nd := sc__law_same.nd
    cases hA with
    | int n i =>
      refine ⟨_, pss_cons (ps_if (PW.pt (pw_or (pt_val (pe_callB call_isi (by rfl) Z.m_isinstance (by decide +kernel) (pa_cons (pv 1) (pa_cons (pe_bltn (u := .type "tuple") (v := .ty "tuple") (by rfl) Z.m_tuple (by decide +kernel) rfl) pa_nil)))) (pw_or1 (pt_val (pe_callB call_isi (by rfl) Z.m_isinstance (by decide +kernel) (pa_cons (pv 1) (pa_cons (pe_bltn (u := .type "list") (v := .ty "list") (by rfl) Z.m_list (by decide +kernel) rfl) pa_nil))))))) (pss_cons ps_never (pss_cons ps_never (pss_cons ps_never (pss_one ps_never)))) pss_nil)
        (pss_cons (ps_if (pt_cmp (pc_isN (pv 1))) (pss_one ps_never) pss_nil)
        (pss_cons (ps_if (pt_val (pe_callB call_isi (by rfl) Z.m_isinstance (by decide +kernel) (pa_cons (pv 1) (pa_cons (pe_bltn (u := .type "bool") (v := .ty "bool") (by rfl) Z.m_bool (by decide +kernel) rfl) pa_nil)))) (pss_one ps_never) pss_nil)
        (pss_cons (ps_if (pt_val (pe_callB call_isi (by rfl) Z.m_isinstance (by decide +kernel) (pa_cons (pv 1) (pa_cons (pe_bltn (u := .type "int") (v := .ty "int") (by rfl) Z.m_int (by decide +kernel) rfl) pa_nil))))
          (pss_one (ps_ret (pe_and (pe_callB call_isi (by rfl) Z.m_isinstance (by decide +kernel) (pa_cons (pv 0) (pa_cons (pe_bltn (u := .type "int") (v := .ty "int") (by rfl) Z.m_int (by decide +kernel) rfl) pa_nil)))
            (pe_and (pe_not (pe_callB call_isi (by rfl) Z.m_isinstance (by decide +kernel) (pa_cons (pv 0) (pa_cons (pe_bltn (u := .type "bool") (v := .ty "bool") (by rfl) Z.m_bool (by decide +kernel) rfl) pa_nil))))
            (pe_one (pe_cmpR op_eq (pv 0) (pv 1) (nomark _))))))) pss_nil)
        (pss_one ps_never)))), ?_⟩
      have ty : TyX K H (.int i) (.type "int") := .base (.int i)
      refine ⟨_, rfl, _, _, _, _, _, rfl, ClsV.ty _, ty, kit_ty (by decide +kernel), false, rfl, iteF ⟨_, rfl, _, _, _, _, _, rfl, ClsV.ty _, ty, kit_ty (by decide +kernel), false, rfl, iteF ?_⟩⟩
      refine ⟨_, rfl, false, rfl, iteF ?_⟩
      refine ⟨_, rfl, _, _, _, _, _, rfl, ClsV.ty _, ty, kit_ty (by decide +kernel), false, rfl, iteF ?_⟩
      refine ⟨_, rfl, _, _, _, _, _, rfl, ClsV.ty _, ty, kit_ty (by decide +kernel), true, rfl, iteT ?_⟩
      refine ⟨_, rfl, _, _, _, _, _, rfl, ClsV.ty _, ty, kit_ty (by decide +kernel), true, rfl, iteT ?_⟩
      refine ⟨_, rfl, _, _, _, _, _, rfl, ClsV.ty _, ty, kit_ty (b := "bool") (r := false) (by decide +kernel), false, rfl, true, rfl, iteT ?_⟩
      refine ⟨_, rfl, _, rfl, rfl, ?_⟩
      rw [decide_eq_true rfl]
      exact q
    | str n z =>
      refine ⟨_, pss_cons (ps_if (PW.pt (pw_or (pt_val (pe_callB call_isi (by rfl) Z.m_isinstance (by decide +kernel) (pa_cons (pv 1) (pa_cons (pe_bltn (u := .type "tuple") (v := .ty "tuple") (by rfl) Z.m_tuple (by decide +kernel) rfl) pa_nil)))) (pw_or1 (pt_val (pe_callB call_isi (by rfl) Z.m_isinstance (by decide +kernel) (pa_cons (pv 1) (pa_cons (pe_bltn (u := .type "list") (v := .ty "list") (by rfl) Z.m_list (by decide +kernel) rfl) pa_nil))))))) (pss_cons ps_never (pss_cons ps_never (pss_cons ps_never (pss_one ps_never)))) pss_nil)
        (pss_cons (ps_if (pt_cmp (pc_isN (pv 1))) (pss_one ps_never) pss_nil)
        (pss_cons (ps_if (pt_val (pe_callB call_isi (by rfl) Z.m_isinstance (by decide +kernel) (pa_cons (pv 1) (pa_cons (pe_bltn (u := .type "bool") (v := .ty "bool") (by rfl) Z.m_bool (by decide +kernel) rfl) pa_nil)))) (pss_one ps_never) pss_nil)
        (pss_cons (ps_if (pt_val (pe_callB call_isi (by rfl) Z.m_isinstance (by decide +kernel) (pa_cons (pv 1) (pa_cons (pe_bltn (u := .type "int") (v := .ty "int") (by rfl) Z.m_int (by decide +kernel) rfl) pa_nil)))) (pss_one ps_never) pss_nil)
        (pss_one (ps_ret (pe_and (pe_callB call_isi (by rfl) Z.m_isinstance (by decide +kernel) (pa_cons (pv 0) (pa_cons (pe_bltn (u := .type "str") (v := .ty "str") (by rfl) Z.m_str (by decide +kernel) rfl) pa_nil)))
            (pe_one (pe_cmpR op_eq (pv 0) (pv 1) (nomark _))))))))), ?_⟩
      have ty : TyX K H (.str z) (.type "str") := .base (.str z)
      refine ⟨_, rfl, _, _, _, _, _, rfl, ClsV.ty _, ty, kit_ty (by decide +kernel), false, rfl, iteF ⟨_, rfl, _, _, _, _, _, rfl, ClsV.ty _, ty, kit_ty (by decide +kernel), false, rfl, iteF ?_⟩⟩
      refine ⟨_, rfl, false, rfl, iteF ?_⟩
      refine ⟨_, rfl, _, _, _, _, _, rfl, ClsV.ty _, ty, kit_ty (by decide +kernel), false, rfl, iteF ?_⟩
      refine ⟨_, rfl, _, _, _, _, _, rfl, ClsV.ty _, ty, kit_ty (by decide +kernel), false, rfl, iteF ?_⟩
      refine ⟨_, rfl, _, _, _, _, _, rfl, ClsV.ty _, ty, kit_ty (by decide +kernel), true, rfl, iteT ?_⟩
      refine ⟨_, rfl, _, rfl, rfl, ?_⟩
      rw [decide_eq_true rfl]
      exact q
    | bl n b =>
      refine ⟨_, pss_cons (ps_if (PW.pt (pw_or (pt_val (pe_callB call_isi (by rfl) Z.m_isinstance (by decide +kernel) (pa_cons (pv 1) (pa_cons (pe_bltn (u := .type "tuple") (v := .ty "tuple") (by rfl) Z.m_tuple (by decide +kernel) rfl) pa_nil)))) (pw_or1 (pt_val (pe_callB call_isi (by rfl) Z.m_isinstance (by decide +kernel) (pa_cons (pv 1) (pa_cons (pe_bltn (u := .type "list") (v := .ty "list") (by rfl) Z.m_list (by decide +kernel) rfl) pa_nil))))))) (pss_cons ps_never (pss_cons ps_never (pss_cons ps_never (pss_one ps_never)))) pss_nil)
        (pss_cons (ps_if (pt_cmp (pc_isN (pv 1))) (pss_one ps_never) pss_nil)
        (pss_cons (ps_if (pt_val (pe_callB call_isi (by rfl) Z.m_isinstance (by decide +kernel) (pa_cons (pv 1) (pa_cons (pe_bltn (u := .type "bool") (v := .ty "bool") (by rfl) Z.m_bool (by decide +kernel) rfl) pa_nil)))) (pss_one (ps_ret (pe_and (pe_callB call_isi (by rfl) Z.m_isinstance (by decide +kernel) (pa_cons (pv 0) (pa_cons (pe_bltn (u := .type "bool") (v := .ty "bool") (by rfl) Z.m_bool (by decide +kernel) rfl) pa_nil))) (pe_one (pe_cmpR op_eq (pv 0) (pv 1) (nomark _)))))) pss_nil)
        (pss_cons ps_never (pss_one ps_never)))), ?_⟩
      have ty : TyX K H (.bl b) (.type "bool") := .base (.bl b)
      refine ⟨_, rfl, _, _, _, _, _, rfl, ClsV.ty _, ty, kit_ty (by decide +kernel), false, rfl, iteF ⟨_, rfl, _, _, _, _, _, rfl, ClsV.ty _, ty, kit_ty (by decide +kernel), false, rfl, iteF ?_⟩⟩
      refine ⟨_, rfl, false, rfl, iteF ?_⟩
      refine ⟨_, rfl, _, _, _, _, _, rfl, ClsV.ty _, ty, kit_ty (by decide +kernel), true, rfl, iteT ?_⟩
      refine ⟨_, rfl, _, _, _, _, _, rfl, ClsV.ty _, ty, kit_ty (by decide +kernel), true, rfl, iteT ?_⟩
      refine ⟨_, rfl, _, rfl, rfl, ?_⟩
      rw [decide_eq_true rfl]
      exact q
    | non n =>
      refine ⟨_, pss_cons (ps_if (PW.pt (pw_or (pt_val (pe_callB call_isi (by rfl) Z.m_isinstance (by decide +kernel) (pa_cons (pv 1) (pa_cons (pe_bltn (u := .type "tuple") (v := .ty "tuple") (by rfl) Z.m_tuple (by decide +kernel) rfl) pa_nil)))) (pw_or1 (pt_val (pe_callB call_isi (by rfl) Z.m_isinstance (by decide +kernel) (pa_cons (pv 1) (pa_cons (pe_bltn (u := .type "list") (v := .ty "list") (by rfl) Z.m_list (by decide +kernel) rfl) pa_nil))))))) (pss_cons ps_never (pss_cons ps_never (pss_cons ps_never (pss_one ps_never)))) pss_nil)
        (pss_cons (ps_if (pt_cmp (pc_isN (pv 1))) (pss_one (ps_ret (pe_cmp (pc_isN (pv 0))))) pss_nil)
        (pss_cons ps_never (pss_cons ps_never (pss_one ps_never)))), ?_⟩
      have ty : TyX K H .non (.type "NoneType") := .base .non
      refine ⟨_, rfl, _, _, _, _, _, rfl, ClsV.ty _, ty, kit_ty (by decide +kernel), false, rfl, iteF ⟨_, rfl, _, _, _, _, _, rfl, ClsV.ty _, ty, kit_ty (by decide +kernel), false, rfl, iteF ?_⟩⟩
      refine ⟨_, rfl, true, rfl, iteT ?_⟩
      exact ⟨_, rfl, q⟩
    | @tup n a b xs ys ha hb hl hm hh =>
      refine ⟨_, pss_cons (ps_if (PW.pt (pw_or (pt_val (pe_callB call_isi (by rfl) Z.m_isinstance (by decide +kernel) (pa_cons (pv 1) (pa_cons (pe_bltn (u := .type "tuple") (v := .ty "tuple") (by rfl) Z.m_tuple (by decide +kernel) rfl) pa_nil)))) (pw_or1 (pt_val (pe_callB call_isi (by rfl) Z.m_isinstance (by decide +kernel) (pa_cons (pv 1) (pa_cons (pe_bltn (u := .type "list") (v := .ty "list") (by rfl) Z.m_list (by decide +kernel) rfl) pa_nil)))))))
        (pss_cons (ps_if (PW.pt (pw_or (pt_cmpR op_ne (pe_callB call_isi (by rfl) Z.m_isinstance (by decide +kernel) (pa_cons (pv 1) (pa_cons (pe_bltn (u := .type "tuple") (v := .ty "tuple") (by rfl) Z.m_tuple (by decide +kernel) rfl) pa_nil))) (pe_callB call_isi (by rfl) Z.m_isinstance (by decide +kernel) (pa_cons (pv 0) (pa_cons (pe_bltn (u := .type "tuple") (v := .ty "tuple") (by rfl) Z.m_tuple (by decide +kernel) rfl) pa_nil))) (nomark _)) (pw_or1 (pt_cmpR op_ne (pe_callB call_isi (by rfl) Z.m_isinstance (by decide +kernel) (pa_cons (pv 1) (pa_cons (pe_bltn (u := .type "list") (v := .ty "list") (by rfl) Z.m_list (by decide +kernel) rfl) pa_nil))) (pe_callB call_isi (by rfl) Z.m_isinstance (by decide +kernel) (pa_cons (pv 0) (pa_cons (pe_bltn (u := .type "list") (v := .ty "list") (by rfl) Z.m_list (by decide +kernel) rfl) pa_nil))) (nomark _))))) (pss_one ps_never) pss_nil)
          (pss_cons (ps_if (pt_cmpR op_ne (pe_callB call_len_seq (by rfl) Z.m_len PySem.boot_len (pa_cons (pv 0) pa_nil)) (pe_callB call_len_seq (by rfl) Z.m_len PySem.boot_len (pa_cons (pv 1) pa_nil)) (nomark _)) (pss_one ps_never) pss_nil)
          (pss_cons (ps_for PassesOwn.never rfl (pi_range1 rfl Z.m_range (pa_cons (pe_callB call_len_seq (by rfl) Z.m_len PySem.boot_len (pa_cons (pv 1) pa_nil)) pa_nil)) (pg_name (i := 2) nd rfl (.inl rfl))
            (pss_one (ps_if (pt_not (pt_val (pe_call (G _ rfl) hr (by rfl) gS F.kp bS .nil pass0 (pa_cons (pe_ix ix_tup (pv 0) (pv 2) (fun _ _ => rfl)) (pa_cons (pe_ix ix_tup (pv 1) (pv 2) (fun _ _ => rfl)) pa_nil))))) (pss_one ps_never) pss_nil)))
          (pss_one (ps_ret pe_bl))))) pss_nil)
        (pss_cons ps_never (pss_cons ps_never (pss_cons ps_never (pss_one ps_never)))), ?_⟩
      have ty0 : TyX K H (.ref a) (.type "tuple") := .base (.tup ha)
      have ty1 : TyX K H (.ref b) (.type "tuple") := .base (.tup hb)
      refine ⟨_, rfl, _, _, _, _, _, rfl, ClsV.ty _, ty1, kit_ty (b := "tuple") (r := true) (by decide +kernel), true, rfl, iteT ?_⟩
      refine ⟨_, rfl, _, _, _, _, _, rfl, ClsV.ty _, ty1, kit_ty (b := "tuple") (r := true) (by decide +kernel), _, rfl, _, _, _, _, _, rfl, ClsV.ty _, ty0, kit_ty (b := "tuple") (r := true) (by decide +kernel), rfl, false, rfl, iteF ⟨_, rfl, _, _, _, _, _, rfl, ClsV.ty _, ty1, kit_ty (b := "list") (r := false) (by decide +kernel), _, rfl, _, _, _, _, _, rfl, ClsV.ty _, ty0, kit_ty (b := "list") (r := false) (by decide +kernel), rfl, false, rfl, iteF ?_⟩⟩
      refine ⟨_, rfl, _, _, rfl, .inr (SqT.of ha), _, rfl, _, _, rfl, .inr (SqT.of hb), rfl, _, rfl, ?_⟩
      rw [hl, decide_eq_true rfl]
      refine iteF ⟨_, rfl, _, _, rfl, .inr (SqT.of hb), _, rfl, by omega, by omega, ?_⟩
      refine for_range (lo := 0) (n := ys.length) (fun i σ H' => H' = H ∧ ∃ y2 : Option V, σ = [some (.ref a), some (.ref b), y2]) ⟨rfl, _, rfl⟩ (fun i σ H' hi hP => ?_) (fun σ H' hP => ?_)
      · obtain ⟨rfl, y2, rfl⟩ := hP
        have g1 : xs[i]? = some xs[i] := List.getElem?_eq_getElem (by omega)
        have g2 : ys[i]? = some ys[i] := List.getElem?_eq_getElem hi
        have e0 : (0 : Int) + (i : Int) = ((i : Nat) : Int) := Int.zero_add _
        rw [e0]
        exact ⟨_, rfl, _, rfl, _, _, _, _, rfl, rfl, SqT.of ha, atI_nat g1, _, rfl, _, rfl, _, _, _, _, rfl, rfl, SqT.of hb, atI_nat g2, _, _, rfl, hh i _ _ g1 g2, true, rfl, iteF ⟨rfl, _, rfl⟩⟩
      · obtain ⟨rfl, y2, rfl⟩ := hP
        exact q
    | @lst n a b xs ys ha hb hl hm hh =>
      refine ⟨_, pss_cons (ps_if (PW.pt (pw_or (pt_val (pe_callB call_isi (by rfl) Z.m_isinstance (by decide +kernel) (pa_cons (pv 1) (pa_cons (pe_bltn (u := .type "tuple") (v := .ty "tuple") (by rfl) Z.m_tuple (by decide +kernel) rfl) pa_nil)))) (pw_or1 (pt_val (pe_callB call_isi (by rfl) Z.m_isinstance (by decide +kernel) (pa_cons (pv 1) (pa_cons (pe_bltn (u := .type "list") (v := .ty "list") (by rfl) Z.m_list (by decide +kernel) rfl) pa_nil)))))))
        (pss_cons (ps_if (PW.pt (pw_or (pt_cmpR op_ne (pe_callB call_isi (by rfl) Z.m_isinstance (by decide +kernel) (pa_cons (pv 1) (pa_cons (pe_bltn (u := .type "tuple") (v := .ty "tuple") (by rfl) Z.m_tuple (by decide +kernel) rfl) pa_nil))) (pe_callB call_isi (by rfl) Z.m_isinstance (by decide +kernel) (pa_cons (pv 0) (pa_cons (pe_bltn (u := .type "tuple") (v := .ty "tuple") (by rfl) Z.m_tuple (by decide +kernel) rfl) pa_nil))) (nomark _)) (pw_or1 (pt_cmpR op_ne (pe_callB call_isi (by rfl) Z.m_isinstance (by decide +kernel) (pa_cons (pv 1) (pa_cons (pe_bltn (u := .type "list") (v := .ty "list") (by rfl) Z.m_list (by decide +kernel) rfl) pa_nil))) (pe_callB call_isi (by rfl) Z.m_isinstance (by decide +kernel) (pa_cons (pv 0) (pa_cons (pe_bltn (u := .type "list") (v := .ty "list") (by rfl) Z.m_list (by decide +kernel) rfl) pa_nil))) (nomark _))))) (pss_one ps_never) pss_nil)
          (pss_cons (ps_if (pt_cmpR op_ne (pe_callB call_len_seq (by rfl) Z.m_len PySem.boot_len (pa_cons (pv 0) pa_nil)) (pe_callB call_len_seq (by rfl) Z.m_len PySem.boot_len (pa_cons (pv 1) pa_nil)) (nomark _)) (pss_one ps_never) pss_nil)
          (pss_cons (ps_for PassesOwn.never rfl (pi_range1 rfl Z.m_range (pa_cons (pe_callB call_len_seq (by rfl) Z.m_len PySem.boot_len (pa_cons (pv 1) pa_nil)) pa_nil)) (pg_name (i := 2) nd rfl (.inl rfl))
            (pss_one (ps_if (pt_not (pt_val (pe_call (G _ rfl) hr (by rfl) gS F.kp bS .nil pass0 (pa_cons (pe_ix ix_list (pv 0) (pv 2) (fun _ _ => rfl)) (pa_cons (pe_ix ix_list (pv 1) (pv 2) (fun _ _ => rfl)) pa_nil))))) (pss_one ps_never) pss_nil)))
          (pss_one (ps_ret pe_bl))))) pss_nil)
        (pss_cons ps_never (pss_cons ps_never (pss_cons ps_never (pss_one ps_never)))), ?_⟩
      have ty0 : TyX K H (.ref a) (.type "list") := .base (.lst ha)
      have ty1 : TyX K H (.ref b) (.type "list") := .base (.lst hb)
      refine ⟨_, rfl, _, _, _, _, _, rfl, ClsV.ty _, ty1, kit_ty (b := "tuple") (r := false) (by decide +kernel), false, rfl, iteF ⟨_, rfl, _, _, _, _, _, rfl, ClsV.ty _, ty1, kit_ty (b := "list") (r := true) (by decide +kernel), true, rfl, iteT ?_⟩⟩
      refine ⟨_, rfl, _, _, _, _, _, rfl, ClsV.ty _, ty1, kit_ty (b := "tuple") (r := false) (by decide +kernel), _, rfl, _, _, _, _, _, rfl, ClsV.ty _, ty0, kit_ty (b := "tuple") (r := false) (by decide +kernel), rfl, false, rfl, iteF ⟨_, rfl, _, _, _, _, _, rfl, ClsV.ty _, ty1, kit_ty (b := "list") (r := true) (by decide +kernel), _, rfl, _, _, _, _, _, rfl, ClsV.ty _, ty0, kit_ty (b := "list") (r := true) (by decide +kernel), rfl, false, rfl, iteF ?_⟩⟩
      refine ⟨_, rfl, _, _, rfl, .inl (SqL.of ha), _, rfl, _, _, rfl, .inl (SqL.of hb), rfl, _, rfl, ?_⟩
      rw [hl, decide_eq_true rfl]
      refine iteF ⟨_, rfl, _, _, rfl, .inl (SqL.of hb), _, rfl, by omega, by omega, ?_⟩
      refine for_range (lo := 0) (n := ys.length) (fun i σ H' => H' = H ∧ ∃ y2 : Option V, σ = [some (.ref a), some (.ref b), y2]) ⟨rfl, _, rfl⟩ (fun i σ H' hi hP => ?_) (fun σ H' hP => ?_)
      · obtain ⟨rfl, y2, rfl⟩ := hP
        have g1 : xs[i]? = some xs[i] := List.getElem?_eq_getElem (by omega)
        have g2 : ys[i]? = some ys[i] := List.getElem?_eq_getElem hi
        have e0 : (0 : Int) + (i : Int) = ((i : Nat) : Int) := Int.zero_add _
        rw [e0]
        exact ⟨_, rfl, _, rfl, _, _, _, _, rfl, rfl, SqL.of ha, atI_nat g1, _, rfl, _, rfl, _, _, _, _, rfl, rfl, SqL.of hb, atI_nat g2, _, _, rfl, hh i _ _ g1 g2, true, rfl, iteF ⟨rfl, _, rfl⟩⟩
      · obtain ⟨rfl, y2, rfl⟩ := hP
        exact q

/-- all but p is as it was, and there may be more -/
def Keep (p : Addr) (H H' : Hp) : Prop := ∀ x o, x ≠ p → H x = some o → H' x = some o
theorem But.keep {p : Addr} {H H' : Hp} (h : But p H H') : Keep p H H' := fun x o n e => (h.1 x n).trans e
theorem Keep.trans {p : Addr} {H H1 H2 : Hp} (a : Keep p H H1) (b : Keep p H1 H2) : Keep p H H2 := fun x o n e => b x o n (a x o n e)
theorem Keep.refl (p : Addr) (H : Hp) : Keep p H H := fun _ _ _ e => e
theorem Same.keep {p : Addr} {H H' : Hp} (h : Same H H') : Keep p H H' := fun x o _ e => h x o e
theorem Pl.lst {H : Hp} {p : Addr} (h : Pl H p) : ∃ xs, H p = some (.lst xs) := by
  obtain ⟨q, ns, a, b, c, d, e, _⟩ := h
  exact ⟨_, e⟩
theorem Pl.ne {H : Hp} {p x : Addr} {ys : List V} (h : Pl H p) (hx : H x = some (.tup ys)) : x ≠ p := by
  obtain ⟨xs, e⟩ := h.lst
  exact ne_of hx e (fun z => nomatch z)
theorem Pl.same {H H' : Hp} {p : Addr} (h : Pl H p) (s : Same H H') : Pl H' p := by
  obtain ⟨q, ns, a, b, c, d, e, e2, n⟩ := h
  exact ⟨q, ns, a, b, c, d, s _ _ e, s _ _ e2, n⟩
/-- a pool whose list stands at q -/
def Plq (H : Hp) (p q : Addr) : Prop := ∃ (ns : List Int) (a : Nat) (b c d : Int), H p = some (.lst [.ref q, .int a, .int b, .int c, .int d]) ∧ H q = some (.lst (ns.map V.int)) ∧ q ≠ p
theorem Pl.q {H : Hp} {p : Addr} (h : Pl H p) : ∃ q, Plq H p q := h
theorem Plq.pl {H : Hp} {p q : Addr} (h : Plq H p q) : Pl H p := ⟨q, h⟩
theorem Plq.but {H H' : Hp} {p q : Addr} (h : Plq H p q) (hB : But p H H') (h' : Pl H' p) : Plq H' p q := by
  obtain ⟨ns, a, b, c, d, e, e2, n⟩ := h
  obtain ⟨l, hl⟩ := hB.2 q ⟨_, e⟩
  obtain ⟨q2, ns2, a2, b2, c2, d2, f, f2, n2⟩ := h'
  have := hl.symm.trans f
  injection this with this
  injection this with this
  injection this with this
  injection this with this
  subst this
  exact ⟨ns2, a2, b2, c2, d2, f, f2, n2⟩
theorem Plq.upd {H : Hp} {p q D : Addr} {o : HO} (h : Plq H p q) (h1 : p ≠ D) (h2 : q ≠ D) : Plq (upd H D o) p q := by
  obtain ⟨ns, a, b, c, d, e, e2, n⟩ := h
  exact ⟨ns, a, b, c, d, by rw [upd_ne h1]; exact e, by rw [upd_ne h2]; exact e2, n⟩
theorem Plq.same {H H' : Hp} {p q : Addr} (h : Plq H p q) (s : Same H H') : Plq H' p q := by
  obtain ⟨ns, a, b, c, d, e, e2, n⟩ := h
  exact ⟨ns, a, b, c, d, s _ _ e, s _ _ e2, n⟩
theorem Plq.ne_free {H : Hp} {p q D : Addr} (h : Plq H p q) (n : H D = none) : p ≠ D ∧ q ≠ D := by
  obtain ⟨ns, a, b, c, d, e, e2, _⟩ := h
  exact ⟨ne_of_none e n, ne_of_none e2 n⟩

theorem cmul {x y : Int} {a b : Nat} (ha : x.natAbs < 2 ^ a) (hb : y.natAbs < 2 ^ b) (h0 : 0 < a := by decide) (h1 : 0 < b := by decide) (h : a + b ≤ 1000000 := by decide) : CMulW x y := wide_mul ha hb h0 h1 h

/-! ### vectors: tuples of ints -/
/-- the greatest common divisor of a list -/
def gl (ns : List Int) : Int := ns.foldl g2 0
theorem g2_max {c x : Int} {B : Nat} (hc : c.natAbs < B) (hx : x.natAbs < B) : (g2 c x).natAbs < B := by
  by_cases h : x = 0
  · subst h
    unfold g2
    rw [show (0 : Int).natAbs = 0 from rfl, Nat.gcd_zero_right]
    omega
  · exact Nat.lt_of_le_of_lt (g2_le h) hx
theorem g2_nn (a b : Int) : 0 ≤ g2 a b := by
  unfold g2
  omega
theorem gl_step {ns : List Int} {i : Nat} {x : Int} (h : ns[i]? = some x) : gl (ns.take (i + 1)) = g2 (gl (ns.take i)) x := by
  unfold gl
  rw [List.take_add_one, h, List.foldl_append]
  rfl
theorem gl_lim {ns : List Int} {B : Nat} (h0 : 0 < B) (h : ∀ n ∈ ns, n.natAbs < B) : (gl ns).natAbs < B := by
  unfold gl
  have : ∀ (l : List Int) (c : Int), c.natAbs < B → (∀ n ∈ l, n.natAbs < B) → (l.foldl g2 c).natAbs < B := by
    intro l
    induction l with
    | nil => intro c hc _; exact hc
    | cons x r ih =>
      intro c hc hl
      exact ih _ (g2_max hc (hl x List.mem_cons_self)) fun n hn => hl n (List.mem_cons_of_mem _ hn)
  exact this ns 0 (by show 0 < B; exact h0) h
theorem gl_nn (ns : List Int) : 0 ≤ gl ns := by
  unfold gl
  have : ∀ (l : List Int) (c : Int), 0 ≤ c → 0 ≤ l.foldl g2 c := by
    intro l
    induction l with
    | nil => intro c hc; exact hc
    | cons x r ih => intro c _; exact ih _ (g2_nn _ _)
  exact this ns 0 (Int.le_refl 0)
theorem gl_take_lim {ns : List Int} {B i : Nat} (h0 : 0 < B) (h : ∀ n ∈ ns, n.natAbs < B) : (gl (ns.take i)).natAbs < B := gl_lim h0 fun n hn => h n (List.mem_of_mem_take hn)
def prim (ns : List Int) : List Int := if gl ns = 0 then ns else ns.map (· / gl ns)
def dotz (ns ms : List Int) : List Int := (ns.zip ms).map fun p => p.1 * p.2
theorem prim_len (ns : List Int) : (prim ns).length = ns.length := by
  unfold prim
  split
  · rfl
  · rw [List.length_map]
theorem map_get {ns : List Int} {i : Nat} {x : V} (h : (ns.map V.int)[i]? = some x) : ∃ n, ns[i]? = some n ∧ x = .int n := by
  rw [List.getElem?_map] at h
  cases e : ns[i]? with
  | none => rw [e] at h; cases h
  | some n => rw [e] at h; exact ⟨n, rfl, (Option.some.inj h).symm⟩
theorem get_map {ns : List Int} {i : Nat} {n : Int} (h : ns[i]? = some n) : (ns.map V.int)[i]? = some (.int n) := by
  rw [List.getElem?_map, h]
  rfl
theorem lt_of_get {α : Type} {xs : List α} {i : Nat} {x : α} (h : xs[i]? = some x) : i < xs.length := (List.getElem?_eq_some_iff.mp h).1
/-- the vector at a -/
def Vc (H : Hp) (a : Addr) (ns : List Int) : Prop := H a = some (.tup (ns.map V.int))
theorem vc_alike {H : Hp} {a b : Addr} {ns : List Int} (n : Nat) (ha : Vc H a ns) (hb : Vc H b ns) (hl : ns.length ≤ 1000) : Alike H (n + 1) (.ref a) (.ref b) :=
  .tup ha hb rfl (by rw [List.length_map]; omega) fun i x y h1 h2 => by
    have e := Option.some.inj (h1.symm.trans h2)
    subst e
    obtain ⟨m, _, rfl⟩ := map_get h1
    exact .int n m
theorem Vc.ne {H : Hp} {p a : Addr} {ns : List Int} (h : Vc H a ns) (hp : Pl H p) : a ≠ p := hp.ne h
theorem Vc.keep {H H' : Hp} {p a : Addr} {ns : List Int} (h : Vc H a ns) (hp : Pl H p) (k : Keep p H H') : Vc H' a ns := k _ _ (h.ne hp) h
theorem Vc.same {H H' : Hp} {a : Addr} {ns : List Int} (h : Vc H a ns) (k : Same H H') : Vc H' a ns := k _ _ h
theorem dotz_get {ns ms : List Int} {i : Nat} {x y : Int} (h1 : ns[i]? = some x) (h2 : ms[i]? = some y) : (dotz ns ms)[i]? = some (x * y) := by
  unfold dotz
  rw [List.getElem?_map, List.getElem?_zip_eq_some (z := (x, y)) |>.mpr ⟨h1, h2⟩]
  rfl
theorem dotz_len {ns ms : List Int} (h : ns.length = ms.length) : (dotz ns ms).length = ns.length := by
  unfold dotz
  rw [List.length_map, List.length_zip, h, Nat.min_self]
theorem take_get {α : Type} {xs : List α} {i : Nat} {x : α} (h : xs[i]? = some x) : xs.take (i + 1) = xs.take i ++ [x] := by
  rw [List.take_add_one, h]
  rfl

/-! ### walks of a list or a tuple -/
section
variable {X : Cx}
theorem PI.or {tg iter : Expr} {w1 w2 : TI} (h1 : PI X tg iter w1) (h2 : PI X tg iter w2) : PI X tg iter (fun σ H R => w1 σ H R ∨ w2 σ H R) := ⟨fun pins s σ H R I h => by
  rcases h with h | h
  · exact h1.run pins s σ H R I h
  · exact h2.run pins s σ H R I h⟩
theorem OpR.or {f : Value → Value → Sem Value} {r1 r2 : R2} (h1 : OpR X f r1) (h2 : OpR X f r2) : OpR X f (fun x y H Q => r1 x y H Q ∨ r2 x y H Q) := by
  intro pins s σ H x y v u Q I rx ry q
  rcases q with q | q
  · exact h1 pins s σ H x y v u Q I rx ry q
  · exact h2 pins s σ H x y v u Q I rx ry q
end

/-- at a stands a tuple (true) or a list -/
def Tk (k : Bool) (H : Hp) (a : Addr) (xs : List V) : Prop := match k with
  | true => H a = some (.tup xs)
  | false => H a = some (.lst xs)
theorem Tk.same {k : Bool} {H H' : Hp} {a : Addr} {xs : List V} (h : Tk k H a xs) (s : Same H H') : Tk k H' a xs := by
  cases k <;> exact s _ _ h
theorem Tk.sk {K : PySem.W.Frag} {k : Bool} {H : Hp} {a : Addr} {xs : List V} (h : Tk k H a xs) : Sk K k H a xs := by
  cases k with
  | true => exact SqT.of h
  | false => exact SqL.of h
abbrev s__law_prim : Stmt := topS 54
theorem sc__law_prim : FnScope ["v", "common", "a"] ["v"] (defScope s__law_prim) := ⟨rfl, rfl, rfl, by decide +kernel, rfl, by decide +kernel, by decide +kernel⟩
def spPrimK : Sp := fun vs H Q _ => ∃ (k : Bool) (a : Addr) (ns : List Int), vs = [.ref a] ∧ Tk k H a (ns.map V.int) ∧ ns.length ≤ 1000 ∧ (∀ n ∈ ns, n.natAbs < 2 ^ 395) ∧ ∀ (H' : Hp) (r : Addr), Same H H' → Vc H' r (prim ns) → Q (.ref r) H'
theorem ok_lprimK {f : Addr} {fd : FuncData} {k : Nat} (F : Fun K "_law_prim" "_law_prim" s__law_prim f fd) (Z : Glb mg)
    (C_law_gcd : Call P w K mg base k "_law_gcd" ["a", "b"] spGcd) : FnOk P w K mg base CX0 (k + 1) f fd ["v"] spPrimK := by
  refine F.ok sc__law_prim (fun vs H Q E h => ?_) (fun cdv A outer s H vs Q E hr h => ?_)
  · obtain ⟨kd, a, ns, rfl, _⟩ := h
    rfl
  · obtain ⟨kd, a, ns, rfl, hv, hl, hB, q⟩ := h
    refine ⟨_, (pss_cons (ps_set (i := 1) sc__law_prim.nd rfl (.inr rfl) pe_int)
      (pss_cut (ps_for PassesOwn.never rfl (PI.or (pi_list (pv 0)) (pi_tup (pv 0))) (pg_name (i := 2) sc__law_prim.nd rfl (.inl rfl)) (pss_one (ps_set (i := 1) sc__law_prim.nd rfl (.inr rfl) (pe_call C_law_gcd.G hr (by rfl) C_law_gcd.m C_law_gcd.kp C_law_gcd.b .nil pass0 (pa_cons (pv 1) (pa_cons (pv 2) pa_nil))))))
      (pss_cons (ps_if (pt_cmpR op_eq (pv 1) pe_int (nomark _)) (pss_one (ps_ret (pe_callTy call_tuple_of (by rfl) Z.m_tuple (by decide +kernel) (pa_cons (pv 0) pa_nil)))) pss_nil)
      (pss_one (ps_ret (pe_callTy call_tuple_of (by rfl) Z.m_tuple (by decide +kernel) (pa_cons (pe_lc (own := [("a", 2)]) (g := gName 2) (tt := tYes) (by rfl) sc__law_prim.nd (PI.or (pi_list (pv 0)) (pi_tup (pv 0))) (blkOk_by (own := [("a", 2)]) (N := ["v", "common", "a"]) (sc := defScope s__law_prim) (by first | decide +kernel | kernel_rfl)) (fun _ _ _ _ _ => (pg_name (i := 2) sc__law_prim.nd rfl (.inl rfl))) (fun _ _ _ _ _ => pts_nil) (fun _ _ _ _ _ => (pe_op op_fdivW (pv 2) (pv 1)))) pa_nil))))))), ?_⟩
    -- common
    refine ⟨fun σ H' => ∃ y2 : Option V, H = H' ∧ σ = [some (.ref a), some (.int (gl ns)), y2], ?_, ?_⟩
    · cases kd with
      | true =>
        refine .inr ⟨_, rfl, a, rfl, ⟨_, SqT.of hv⟩, ?_⟩
        refine for_tup (xs := ns.map V.int) (fun i σ H' => H = H' ∧ ∃ y2 : Option V, σ = [some (.ref a), some (.int (gl (ns.take i))), y2]) ⟨rfl, _, rfl⟩ (fun i σ H' _ hP => by obtain ⟨rfl, _⟩ := hP; exact SqT.of hv) (fun i x σ H' hx hP => ?_) (fun σ H' hP => ?_)
        · obtain ⟨rfl, y2, rfl⟩ := hP
          obtain ⟨n, hn, rfl⟩ := map_get hx
          refine ⟨_, rfl, _, rfl, _, _, rfl, hB n (List.mem_of_getElem? hn), rfl, some (.int n), ?_⟩
          rw [gl_step hn]
          rfl
        · obtain ⟨rfl, y2, rfl⟩ := hP
          rw [List.length_map, List.take_length]
          exact ⟨_, rfl, rfl⟩
      | false =>
        refine .inl ⟨_, rfl, a, rfl, ⟨_, SqL.of hv⟩, ?_⟩
        refine for_list (xs := ns.map V.int) (fun i σ H' => H = H' ∧ ∃ y2 : Option V, σ = [some (.ref a), some (.int (gl (ns.take i))), y2]) ⟨rfl, _, rfl⟩ (fun i σ H' _ hP => by obtain ⟨rfl, _⟩ := hP; exact SqL.of hv) (fun i x σ H' hx hP => ?_) (fun σ H' hP => ?_)
        · obtain ⟨rfl, y2, rfl⟩ := hP
          obtain ⟨n, hn, rfl⟩ := map_get hx
          refine ⟨_, rfl, _, rfl, _, _, rfl, hB n (List.mem_of_getElem? hn), rfl, some (.int n), ?_⟩
          rw [gl_step hn]
          rfl
        · obtain ⟨rfl, y2, rfl⟩ := hP
          rw [List.length_map, List.take_length]
          exact ⟨_, rfl, rfl⟩
    intro σ H' hW
    obtain ⟨y2, rfl, rfl⟩ := hW
    refine ⟨_, rfl, rfl, _, rfl, ite2 (fun e => ?_) (fun e => ?_)⟩
    · have e0 : gl ns = 0 := V.int.inj (of_decide_eq_true e)
      have ep : prim ns = ns := if_pos e0
      refine ⟨_, rfl, a, ns.map V.int, rfl, ?_⟩
      cases kd with
      | true =>
        refine .inr ⟨SqT.of hv, q _ _ (Same.refl _) ?_⟩
        rw [ep]
        exact hv
      | false =>
        refine .inl ⟨SqL.of hv, fun l nl => q _ _ (same_upd nl) ?_⟩
        rw [ep]
        exact upd_same
    · have e0 : gl ns ≠ 0 := fun z => e (decide_eq_true (by rw [z]))
      have ep : prim ns = ns.map (· / gl ns) := if_neg e0
      have cd : ∀ x : Int, CDivW x (gl ns) := fun x => wide_div (by have := gl_nn ns; omega) (gl_lim (by decide) hB) (by decide) (by decide)
      have room : ∀ i, (((prim ns).take i).map V.int).length < sizeLine := fun i => by
        rw [List.length_map, List.length_take]
        exact Nat.lt_of_le_of_lt (Nat.min_le_right _ _) (small1000 (by rw [prim_len]; exact hl))
      have next : ∀ (i : Nat) (n : Int) (H0 : Hp) (D : Addr), ns[i]? = some n → upd (upd H0 D (.lst (((prim ns).take i).map V.int))) D (.lst (((prim ns).take i).map V.int ++ [.int (n / gl ns)])) = upd H0 D (.lst (((prim ns).take (i + 1)).map V.int)) := fun i n H0 D hn => by
        have hg : (prim ns)[i]? = some (n / gl ns) := by
          rw [ep, List.getElem?_map, hn]
          rfl
        rw [upd_upd, take_get hg, List.map_append]
        rfl
      have last : ∀ (D : Addr) (H' : Hp), (∃ H0, Same H H0 ∧ H0 D = none ∧ H' = upd H0 D (.lst (((prim ns).take (ns.map V.int).length).map V.int))) →
          ∃ p ys, [V.ref D] = [.ref p] ∧ ((SqL K H' p ys ∧ ∀ l, H' l = none → Q (.ref l) (upd H' l (.tup ys))) ∨ (SqT K H' p ys ∧ Q (.ref p) H')) := fun D H' h => by
        obtain ⟨H0, s0, n0, rfl⟩ := h
        rw [List.length_map, show ns.length = (prim ns).length from (prim_len ns).symm, List.take_length]
        exact ⟨D, _, rfl, .inl ⟨SqL.of upd_same, fun l nl => q _ _ ((s0.trans (same_upd n0)).trans (same_upd nl)) upd_same⟩⟩
      cases kd with
      | true =>
        refine .inr ⟨_, rfl, a, rfl, ⟨_, SqT.of hv⟩, fun D nD => ?_⟩
        refine lc_tup (xs := ns.map V.int) (fun i H' => ∃ H0, Same H H0 ∧ H0 D = none ∧ H' = upd H0 D (.lst (((prim ns).take i).map V.int))) ⟨H, Same.refl _, nD, rfl⟩ (fun i H' _ hP => ?_) (fun i x H' hx hP => ?_) (fun H' hP => ?_)
        · obtain ⟨H0, s0, n0, rfl⟩ := hP
          exact SqT.of ((s0.trans (same_upd n0)) _ _ hv)
        · obtain ⟨H0, s0, n0, rfl⟩ := hP
          obtain ⟨n, hn, rfl⟩ := map_get hx
          refine ⟨rfl, ?_⟩
          unfold tYes
          refine iteT ?_
          exact ⟨_, rfl, _, rfl, _, _, rfl, rfl, cd n, _, upd_same, room i, H0, s0, n0, next i n H0 D hn⟩
        · exact last D H' hP
      | false =>
        refine .inl ⟨_, rfl, a, rfl, ⟨_, SqL.of hv⟩, fun D nD => ?_⟩
        refine lc_list (xs := ns.map V.int) (fun i H' => ∃ H0, Same H H0 ∧ H0 D = none ∧ H' = upd H0 D (.lst (((prim ns).take i).map V.int))) ⟨H, Same.refl _, nD, rfl⟩ (fun i H' _ hP => ?_) (fun i x H' hx hP => ?_) (fun H' hP => ?_)
        · obtain ⟨H0, s0, n0, rfl⟩ := hP
          exact SqL.of ((s0.trans (same_upd n0)) _ _ hv)
        · obtain ⟨H0, s0, n0, rfl⟩ := hP
          obtain ⟨n, hn, rfl⟩ := map_get hx
          refine ⟨rfl, ?_⟩
          unfold tYes
          refine iteT ?_
          exact ⟨_, rfl, _, rfl, _, _, rfl, rfl, cd n, _, upd_same, room i, H0, s0, n0, next i n H0 D hn⟩
        · exact last D H' hP

/-- all but p stands, and p has its head -/
structure Kp (p : Addr) (H H' : Hp) : Prop where
  k : Keep p H H'
  h : ∀ q, Hd H p q → Hd H' p q
theorem But.kp {p : Addr} {H H' : Hp} (h : But p H H') : Kp p H H' := ⟨h.keep, h.2⟩
theorem Same.kp {p : Addr} {H H' : Hp} (h : Same H H') : Kp p H H' := ⟨Same.keep h, fun q ⟨l, e⟩ => ⟨l, h _ _ e⟩⟩
theorem Kp.trans {p : Addr} {H H1 H2 : Hp} (a : Kp p H H1) (b : Kp p H1 H2) : Kp p H H2 := ⟨a.k.trans b.k, fun q h => b.h q (a.h q h)⟩
theorem Plq.hd {H : Hp} {p q : Addr} (h : Plq H p q) : Hd H p q := by
  obtain ⟨ns, a, b, c, d, e, _⟩ := h
  exact ⟨_, e⟩
theorem hd_inj {H : Hp} {p q r : Addr} (h : Hd H p q) (h' : Hd H p r) : q = r := by
  obtain ⟨l, e⟩ := h
  obtain ⟨l', e'⟩ := h'
  have := e.symm.trans e'
  injection this with this
  injection this with this
  injection this with this
  injection this
theorem Plq.kp {H H' : Hp} {p q : Addr} (h : Plq H p q) (k : Kp p H H') (h' : Pl H' p) : Plq H' p q := by
  obtain ⟨q2, e⟩ := h'.q
  rw [hd_inj (k.h _ h.hd) e.hd]
  exact e
/-- a comprehension over range whose turn draws: what it leaves -/
def Dr (p : Addr) (H : Hp) (D : Addr) (B : Nat) (i : Nat) (H' : Hp) : Prop := (∃ q, Plq H p q ∧ Plq H' p q ∧ q ≠ D) ∧ Keep p H H' ∧ ∃ ns : List Int, H' D = some (.lst (ns.map V.int)) ∧ ns.length = i ∧ ∀ n ∈ ns, n.natAbs < 2 ^ B
theorem dr0 {p D : Addr} {H : Hp} {B : Nat} (hp : Pl H p) (nD : H D = none) : Dr p H D B 0 (upd H D (.lst [])) := by
  obtain ⟨q, hq⟩ := hp.q
  exact ⟨⟨q, hq, hq.same (same_upd nD), (hq.ne_free nD).2⟩, Same.keep (same_upd nD), [], upd_same, rfl, fun n h => nomatch h⟩
theorem dr_step {p D : Addr} {H H' H2 : Hp} {B i : Nat} {n : Int} (nD : H D = none) (hP : Pl H p) (h : Dr p H D B i H') (hB : But p H' H2) (P2 : Pl H2 p) (hn : n.natAbs < 2 ^ B) :
    ∃ acc, H2 D = some (.lst acc) ∧ acc.length = i ∧ Dr p H D B (i + 1) (upd H2 D (.lst (acc ++ [.int n]))) := by
  obtain ⟨⟨q, hq0, hq, qD⟩, K1, ns, e, hl, hb⟩ := h
  have ne : D ≠ p := by
    obtain ⟨q0, h0⟩ := hP.q
    exact (h0.ne_free nD).1.symm
  refine ⟨ns.map V.int, (hB.1 D ne).trans e, by rw [List.length_map]; exact hl, ⟨q, hq0, (hq.but hB P2).upd ne.symm qD, qD⟩, ?_, ns ++ [n], ?_, ?_, ?_⟩
  · intro x o hx ho
    have hxD : x ≠ D := ne_of_none ho nD
    rw [upd_ne hxD]
    exact hB.keep _ _ hx (K1 _ _ hx ho)
  · rw [upd_same, List.map_append]
    rfl
  · rw [List.length_append, hl]
    rfl
  · intro m hm
    rcases List.mem_append.mp hm with h | h
    · exact hb m h
    · rw [List.mem_singleton.mp h]
      exact hn
theorem Dr.kp {p D : Addr} {H H' : Hp} {B i : Nat} (h : Dr p H D B i H') : Kp p H H' := by
  obtain ⟨⟨q, h1, h2, _⟩, k, _⟩ := h
  exact ⟨k, fun q' hq => by rw [hd_inj hq h1.hd]; exact h2.hd⟩

abbrev s__law_point : Stmt := topS 55
theorem sc__law_point : FnScope ["pool", "d", "most", "below", "k"] ["pool", "d", "most"] (defScope s__law_point) := ⟨rfl, rfl, rfl, by decide +kernel, rfl, by decide +kernel, by decide +kernel⟩
theorem gl_dvd {ns : List Int} {n : Int} (h : n ∈ ns) : gl ns ∣ n := by
  unfold gl
  have : ∀ (l : List Int) (c : Int), (l.foldl g2 c) ∣ c ∧ ∀ n ∈ l, (l.foldl g2 c) ∣ n := by
    intro l
    induction l with
    | nil => intro c; exact ⟨Int.dvd_refl _, fun n h => nomatch h⟩
    | cons x r ih =>
      intro c
      obtain ⟨h1, h2⟩ := ih (g2 c x)
      refine ⟨Int.dvd_trans h1 (g2_dvd_l c x), fun n hn => ?_⟩
      rcases List.mem_cons.mp hn with rfl | hn
      · exact Int.dvd_trans h1 (g2_dvd_r c n)
      · exact h2 n hn
  exact (this ns 0).2 n h
theorem gl_pos {ns : List Int} {n : Int} (h : n ∈ ns) (hn : n ≠ 0) : 0 < gl ns := by
  have h1 := gl_nn ns
  have h2 : gl ns ≠ 0 := fun z => by
    have := gl_dvd h
    rw [z] at this
    exact hn (Int.zero_dvd.mp this)
  omega
theorem prim_get {ns : List Int} {i : Nat} {n : Int} (h : ns[i]? = some n) (g : 0 < gl ns) : (prim ns)[i]? = some (n / gl ns) := by
  unfold prim
  rw [if_neg (by omega), List.getElem?_map, h]
  rfl
theorem prim_small {ns : List Int} {B : Nat} (h : ∀ n ∈ ns, n.natAbs ≤ B) : ∀ n ∈ prim ns, n.natAbs ≤ B := by
  unfold prim
  split
  · exact h
  · rename_i g
    intro n hn
    obtain ⟨m, hm, rfl⟩ := List.mem_map.mp hn
    exact Nat.le_trans (ediv_abs (by have := gl_nn ns; omega)) (h m hm)
theorem gl_cons (x : Int) (ns : List Int) : gl (x :: ns) = ((Nat.gcd x.natAbs (gl ns).natAbs : Nat) : Int) := by
  have key : ∀ (l : List Int) (c : Int), 0 ≤ c → l.foldl g2 c = ((Nat.gcd c.natAbs (l.foldl g2 0).natAbs : Nat) : Int) := by
    intro l
    induction l with
    | nil =>
      intro c hc
      show c = ((Nat.gcd c.natAbs 0 : Nat) : Int)
      rw [Nat.gcd_zero_right]
      omega
    | cons y r ih =>
      intro c hc
      show r.foldl g2 (g2 c y) = ((Nat.gcd c.natAbs (r.foldl g2 (g2 0 y)).natAbs : Nat) : Int)
      rw [ih _ (g2_nn c y), ih _ (g2_nn 0 y)]
      congr 1
      unfold g2
      simp only [Int.natAbs_natCast, Int.natAbs_zero, Nat.gcd_zero_left, Nat.gcd_assoc]
  unfold gl
  show ns.foldl g2 (g2 0 x) = _
  rw [key _ _ (g2_nn 0 x)]
  congr 1
  unfold g2
  simp only [Int.natAbs_natCast, Int.natAbs_zero, Nat.gcd_zero_left]
theorem gl_scale (a : Int) (ha : 0 ≤ a) : ∀ ns : List Int, gl (ns.map (a * ·)) = a * gl ns
  | [] => by
    show (0 : Int) = a * 0
    rw [Int.mul_zero]
  | n :: ns => by
    rw [List.map_cons, gl_cons, gl_cons, gl_scale a ha ns]
    have h := gl_nn ns
    rw [Int.natAbs_mul, Int.natAbs_mul, Nat.gcd_mul_left, Int.natCast_mul]
    rw [show ((a.natAbs : Nat) : Int) = a by omega]
theorem gl_prim {v : List Int} (g : gl v ≠ 0) : gl (prim v) = 1 := by
  have e : (prim v).map (gl v * ·) = v := by
    apply List.ext_getElem?
    intro i
    rw [List.getElem?_map]
    by_cases hi : i < v.length
    · have e1 : v[i]? = some v[i] := List.getElem?_eq_getElem hi
      have e2 : (prim v)[i]? = some (v[i] / gl v) := by
        rw [show prim v = v.map (· / gl v) from if_neg g, List.getElem?_map, e1]
        rfl
      rw [e2, e1]
      exact congrArg some (Int.mul_ediv_cancel' (gl_dvd (List.getElem_mem hi)))
    · rw [List.getElem?_eq_none (by rw [prim_len]; omega), List.getElem?_eq_none (by omega)]
      rfl
  have s := gl_scale (gl v) (gl_nn v) (prim v)
  rw [e] at s
  have n := gl_nn v
  have : gl v * (gl (prim v) - 1) = 0 := by rw [Int.mul_sub, ← s]; omega
  rcases Int.mul_eq_zero.mp this with h | h
  · exact absurd h g
  · omega
def spPoint : Sp := fun vs H Q _ => ∃ (p : Addr) (d : Nat) (m : Int), vs = [.ref p, .int d, .int m] ∧ d ≤ 10 ∧ 1 ≤ m ∧ m ≤ 5 ∧ Pl H p ∧ ∀ (H' : Hp) (r : Addr) (ns : List Int), Pl H' p → Kp p H H' → Vc H' r ns → ns.length = d + 1 → (∀ n ∈ ns, n.natAbs ≤ 3) → (∃ w, ns[0]? = some w ∧ 0 < w) → gl ns = 1 → Q (.ref r) H'
theorem ok_point {f : Addr} {fd : FuncData} {k : Nat} (F : Fun K "_law_point" "_law_point" s__law_point f fd) (Z : Glb mg)
    (C_law_draw : Call P w K mg base k "_law_draw" ["pool", "many"] spDraw)
    (C_law_prim : Call P w K mg base k "_law_prim" ["v"] spPrimK) : FnOk P w K mg base CX0 (k + 1) f fd ["pool", "d", "most"] spPoint := by
  refine F.ok sc__law_point (fun vs H Q E h => ?_) (fun cdv A outer s H vs Q E hr h => ?_)
  · obtain ⟨p, d, m, rfl, _⟩ := h
    rfl
  · obtain ⟨p, d, m, rfl, hd, m1, m5, hP, q⟩ := h
    refine ⟨_, (pss_cons (ps_set (i := 3) sc__law_point.nd rfl (.inl rfl) (pe_ix (r := rIxL K) ix_list (pe_lst (pa_cons pe_int (pa_cons pe_int (pa_cons pe_int (pa_cons pe_int (pa_cons pe_int pa_nil)))))) (pe_call C_law_draw.G hr (by rfl) C_law_draw.m C_law_draw.kp C_law_draw.b .nil pass0 (pa_cons (pv 0) (pa_cons (pv 2) pa_nil))) (fun _ _ => rfl)))
      (pss_one (ps_ret (pe_call C_law_prim.G hr (by rfl) C_law_prim.m C_law_prim.kp C_law_prim.b .nil pass0 (pa_cons (pe_op op_cat (pe_lst (pa_cons (pv 3) pa_nil)) (pe_lc (own := [("k", 4)]) (g := gName 4) (tt := tYes) (by rfl) sc__law_point.nd (pi_range1 rfl Z.m_range (pa_cons (pv 1) pa_nil)) (blkOk_by (own := [("k", 4)]) (N := ["pool", "d", "most", "below", "k"]) (sc := defScope s__law_point) (by first | decide +kernel | kernel_rfl)) (fun _ _ _ _ _ => (pg_name (i := 4) sc__law_point.nd rfl (.inl rfl))) (fun _ _ _ _ _ => pts_nil) (fun _ _ _ _ _ => (pe_op op_sub (pe_call C_law_draw.G hr (by rfl) C_law_draw.m C_law_draw.kp C_law_draw.b .nil pass0 (pa_cons (pv 0) (pa_cons pe_int pa_nil))) pe_int)))) pa_nil))))), ?_⟩
    refine ⟨Nat.le_of_lt (small1000 (show 5 ≤ 1000 by decide)), fun l nl => ?_⟩
    refine ⟨_, rfl, _, rfl, p, m, rfl, by omega, Nat.lt_of_le_of_lt (show m.natAbs ≤ 5 by omega) (by decide), hP.same (same_upd nl), fun v H1 l1 u1 P1 B1 => ?_⟩
    have lp : l ≠ p := by
      obtain ⟨q0, h0⟩ := hP.q
      exact (h0.ne_free nl).1.symm
    have hl := (B1.1 l lp).trans upd_same
    obtain ⟨b, hat, hb1, hb3⟩ : ∃ b : Int, atI [V.int 1, V.int 1, V.int 1, V.int 2, V.int 3] v = some (.int b) ∧ 0 < b ∧ b ≤ 3 := by
      have hv : v = 0 ∨ v = 1 ∨ v = 2 ∨ v = 3 ∨ v = 4 := by omega
      rcases hv with rfl | rfl | rfl | rfl | rfl
      · exact ⟨1, atI_nat (j := 0) rfl, by decide, by decide⟩
      · exact ⟨1, atI_nat (j := 1) rfl, by decide, by decide⟩
      · exact ⟨1, atI_nat (j := 2) rfl, by decide, by decide⟩
      · exact ⟨2, atI_nat (j := 3) rfl, by decide, by decide⟩
      · exact ⟨3, atI_nat (j := 4) rfl, by decide, by decide⟩
    refine ⟨_, _, _, _, rfl, rfl, SqL.of hl, hat, ?_⟩
    have K1 : Kp p H H1 := (Same.kp (same_upd nl)).trans B1.kp
    -- [below] + ..
    refine ⟨_, rfl, Nat.le_of_lt (small1000 (show 1 ≤ 1000 by decide)), fun l2 nl2 => ?_⟩
    have s2 := same_upd (o := .lst [.int b]) nl2
    have P2 := P1.same s2
    have l2p : l2 ≠ p := by
      obtain ⟨q0, h0⟩ := P1.q
      exact (h0.ne_free nl2).1.symm
    have hl2 : (upd H1 l2 (.lst [.int b])) l2 = some (.lst [.int b]) := upd_same
    generalize upd H1 l2 (.lst [.int b]) = H2 at *
    refine ⟨_, rfl, _, rfl, by omega, by omega, fun D nD => ?_⟩
    refine lc_range (lo := 0) (n := d) (Dr p H2 D 2) (dr0 P2 nD) (fun i H3 hi hW => ?_) (fun H3 hW => ?_)
    · refine ⟨rfl, ?_⟩
      unfold tYes
      refine iteT ?_
      obtain ⟨q0, _, hq0, _⟩ := hW.1
      refine ⟨_, rfl, p, _, rfl, by decide, by decide, hq0.pl, fun n H4 l4 u4 P4 B4 => ⟨_, _, rfl, rfl, ?_⟩⟩
      obtain ⟨acc, h1, h2, h3⟩ := dr_step (n := n - 3) nD P2 hW B4 P4 (by omega)
      exact ⟨acc, h1, small1000 (by omega), h3⟩
    have K3 := hW.kp
    obtain ⟨⟨q3, _, hq3, _⟩, _, xs, eD, hlen, hB⟩ := hW
    have hl3 := K3.k _ _ l2p hl2
    refine ⟨l2, D, _, _, rfl, rfl, hl3, eD, ?_, fun c nc => ?_⟩
    · rw [List.length_map]
      exact Nat.le_of_lt (small1000 (by show 1 + xs.length ≤ 1000; omega))
    have s4 := same_upd (o := .lst ([.int b] ++ xs.map V.int)) nc
    have hb2 : ∀ n ∈ b :: xs, n.natAbs ≤ 3 := fun n hn => by
      rcases List.mem_cons.mp hn with rfl | hn
      · omega
      · have := hB n hn
        omega
    refine ⟨false, c, b :: xs, rfl, upd_same, by rw [List.length_cons]; omega, fun n hn => Nat.lt_of_le_of_lt (hb2 n hn) (by decide), fun H5 r s5 R5 => ?_⟩
    have g := gl_pos (ns := b :: xs) List.mem_cons_self (show b ≠ 0 by omega)
    exact q H5 r _ ((hq3.pl.same s4).same s5) (((K1.trans (Same.kp s2)).trans K3).trans ((Same.kp s4).trans (Same.kp s5))) R5 (by rw [prim_len, List.length_cons, hlen]) (prim_small hb2)
      ⟨_, prim_get (i := 0) rfl g, Int.ediv_pos_of_pos_of_dvd hb1 (Int.le_of_lt g) (gl_dvd List.mem_cons_self)⟩ (gl_prim (by omega))

/-! ### == of tuples of ints -/
theorem eqv_ints : ∀ ns ms : List Int, PyData.eqvAll (ns.map PyData.int) (ms.map PyData.int) = decide (ns = ms)
  | [], [] => by rw [List.map_nil, PyData.eqvAll]; rfl
  | [], m :: ms => by rw [List.map_nil, List.map_cons, PyData.eqvAll]; rfl
  | n :: ns, [] => by rw [List.map_nil, List.map_cons, PyData.eqvAll]; rfl
  | n :: ns, m :: ms => by
    rw [List.map_cons, List.map_cons, PyData.eqvAll, PyData.eqv, eqv_ints ns ms]
    by_cases h : n = m
    · subst h
      by_cases h2 : ns = ms <;> simp [h2]
    · simp [h]
theorem lay_ints : ∀ ns : List Int, PyData.canLayAll0 (ns.map PyData.int) = true
  | [] => by rw [List.map_nil, PyData.canLayAll0]
  | n :: ns => by
    rw [List.map_cons, PyData.canLayAll0, lay_ints ns]
    rfl
theorem depth_ints : ∀ ns : List Int, PyData.depthAll (ns.map PyData.int) ≤ 1
  | [] => by rw [List.map_nil, PyData.depthAll]; omega
  | n :: ns => by
    have := depth_ints ns
    rw [List.map_cons, PyData.depthAll, PyData.depth]
    omega
theorem shaped_ints (ns : List Int) (h : ns.length ≤ 1000) : SeqAt.shaped (.tuple (ns.map PyData.int)) = true := by
  unfold SeqAt.shaped
  rw [Bool.and_eq_true]
  refine ⟨?_, ?_⟩
  · rw [PyData.canLay0, lay_ints]
  · rw [decide_eq_true_iff, PyData.depth]
    have := depth_ints ns
    omega
theorem dp_ints {H : Hp} : ∀ ns : List Int, DpAll K H (ns.map V.int) (ns.map PyData.int)
  | [] => .nil
  | n :: ns => .cons (.int n) (dp_ints ns)

/-! ### lists of vectors -/
def RL (H : Hp) (a : Addr) (n : Nat) (R : Nat → Addr → Prop) : Prop := ∃ rs : List Addr, H a = some (.lst (rs.map V.ref)) ∧ rs.length = n ∧ ∀ i r, rs[i]? = some r → R i r
def VL (H : Hp) (a : Addr) (vs : List (List Int)) : Prop := RL H a vs.length fun i r => ∃ v, vs[i]? = some v ∧ Vc H r v
theorem VL.same {H H' : Hp} {a : Addr} {vs : List (List Int)} (h : VL H a vs) (s : Same H H') : VL H' a vs := by
  obtain ⟨rs, e, l, g⟩ := h
  exact ⟨rs, s _ _ e, l, fun i r hr => by obtain ⟨v, h1, h2⟩ := g i r hr; exact ⟨v, h1, h2.same s⟩⟩
theorem VL.kp {H H' : Hp} {a p : Addr} {vs : List (List Int)} (h : VL H a vs) (hP : Pl H p) (ne : a ≠ p) (s : Keep p H H') : VL H' a vs := by
  obtain ⟨rs, e, l, g⟩ := h
  exact ⟨rs, s _ _ ne e, l, fun i r hr => by obtain ⟨v, h1, h2⟩ := g i r hr; exact ⟨v, h1, h2.keep hP s⟩⟩
theorem ref_get {rs : List Addr} {i : Nat} {x : V} (h : (rs.map V.ref)[i]? = some x) : ∃ r, rs[i]? = some r ∧ x = .ref r := by
  rw [List.getElem?_map] at h
  obtain ⟨r, h1, h2⟩ := Option.map_eq_some_iff.mp h
  exact ⟨r, h1, h2.symm⟩
theorem get_ref {rs : List Addr} {i : Nat} {r : Addr} (h : rs[i]? = some r) : (rs.map V.ref)[i]? = some (.ref r) := by
  rw [List.getElem?_map, h]
  rfl
theorem VL.at {H : Hp} {a : Addr} {vs : List (List Int)} {i : Nat} (h : VL H a vs) (hi : i < vs.length) : ∃ (rs : List Addr) (r : Addr), H a = some (.lst (rs.map V.ref)) ∧ rs.length = vs.length ∧ rs[i]? = some r ∧ Vc H r (vs[i]'hi) := by
  obtain ⟨rs, e, l, g⟩ := h
  have er : rs[i]? = some (rs[i]'(by omega)) := List.getElem?_eq_getElem (by omega)
  obtain ⟨v, h1, h2⟩ := g i _ er
  rw [List.getElem?_eq_getElem hi] at h1
  cases h1
  exact ⟨rs, _, e, l, er, h2⟩
theorem no_get {α : Type} {j : Nat} {r : α} {P : Prop} (h : ([] : List α)[j]? = some r) : P := by
  rw [List.getElem?_nil] at h
  cases h
theorem app_get {α : Type} {xs : List α} {x y : α} {j : Nat} (h : (xs ++ [x])[j]? = some y) : xs[j]? = some y ∨ (j = xs.length ∧ y = x) := by
  rw [List.getElem?_append] at h
  split at h
  · exact .inl h
  · have := lt_of_get h
    rw [List.length_singleton] at this
    have hj : j = xs.length := by omega
    subst hj
    rw [Nat.sub_self] at h
    cases h
    exact .inr ⟨rfl, rfl⟩
/-- a vector more at the end -/
theorem VL.push {H : Hp} {a r : Addr} {vs : List (List Int)} {v : List Int} {acc : List V} (h : VL H a vs) (hr : Vc H r v) (e : H a = some (.lst acc)) : VL (upd H a (.lst (acc ++ [.ref r]))) a (vs ++ [v]) := by
  obtain ⟨rs, e', l, g⟩ := h
  rw [e'] at e
  have e := HO.lst.inj (Option.some.inj e)
  subst e
  have tups : ∀ t (u : List Int), Vc H t u → Vc (upd H a (.lst (rs.map V.ref ++ [.ref r]))) t u := fun t u ht => by
    unfold Vc at ht ⊢
    rw [upd_ne (ne_of ht e' (fun z => nomatch z))]
    exact ht
  refine ⟨rs ++ [r], by rw [upd_same, List.map_append]; rfl, by rw [List.length_append, List.length_append, l]; rfl, fun i t ht => ?_⟩
  rcases app_get ht with h1 | ⟨h1, rfl⟩
  · obtain ⟨u, h2, h3⟩ := g i t h1
    exact ⟨u, by rw [List.getElem?_append_left (lt_of_get h2)]; exact h2, tups _ _ h3⟩
  · refine ⟨v, ?_, tups _ _ hr⟩
    rw [h1, l, List.getElem?_append_right (Nat.le_refl _), Nat.sub_self]
    rfl
theorem vl0 {H : Hp} {a : Addr} : VL (upd H a (.lst [])) a [] := ⟨[], upd_same, rfl, fun i r h => no_get h⟩

/-! ### a comprehension whose turns draw and make tuples -/
def DrR {α : Type} (R : Hp → α → Addr → Prop) (p : Addr) (H : Hp) (D : Addr) (i : Nat) (H' : Hp) : Prop := (∃ q, Plq H p q ∧ Plq H' p q ∧ q ≠ D) ∧ Keep p H H' ∧
  ∃ (rs : List Addr) (fs : List α), H' D = some (.lst (rs.map V.ref)) ∧ rs.length = i ∧ fs.length = i ∧ ∀ (j : Nat) (r : Addr) (f : α), rs[j]? = some r → fs[j]? = some f → R H' f r ∧ ∃ ys, H' r = some (.tup ys)
theorem drR0 {α : Type} {R : Hp → α → Addr → Prop} {p D : Addr} {H : Hp} (hp : Pl H p) (nD : H D = none) : DrR R p H D 0 (upd H D (.lst [])) := by
  obtain ⟨q, hq⟩ := hp.q
  exact ⟨⟨q, hq, hq.same (same_upd nD), (hq.ne_free nD).2⟩, Same.keep (same_upd nD), [], [], upd_same, rfl, rfl, fun j r f h => no_get h⟩
theorem drR_step {α : Type} {R : Hp → α → Addr → Prop} (hR : ∀ H1 H2 f r, (∀ ys, H1 r = some (.tup ys) → H2 r = some (.tup ys)) → R H1 f r → R H2 f r) {p D : Addr} {H H' H2 : Hp} {i : Nat} {r : Addr} {f : α} {ys : List V} (nD : H D = none) (hP : Pl H p) (h : DrR R p H D i H')
    (hB : Kp p H' H2) (P2 : Pl H2 p) (hr : H2 r = some (.tup ys)) (rf : R H2 f r) : ∃ acc, H2 D = some (.lst acc) ∧ acc.length = i ∧ DrR R p H D (i + 1) (upd H2 D (.lst (acc ++ [.ref r]))) := by
  obtain ⟨⟨q, hq0, hq, qD⟩, K1, rs, fs, e, l1, l2, g⟩ := h
  have ne : D ≠ p := by
    obtain ⟨q0, h0⟩ := hP.q
    exact (h0.ne_free nD).1.symm
  have e2 : H2 D = some (.lst (rs.map V.ref)) := hB.k _ _ ne e
  have P1 := hq.pl
  have tups : ∀ t zs, H2 t = some (.tup zs) → (upd H2 D (.lst (rs.map V.ref ++ [.ref r]))) t = some (.tup zs) := fun t zs ht => by
    rw [upd_ne (ne_of ht e2 (fun z => nomatch z))]
    exact ht
  refine ⟨rs.map V.ref, e2, by rw [List.length_map]; exact l1, ⟨q, hq0, (hq.kp hB P2).upd ne.symm qD, qD⟩, ?_, rs ++ [r], fs ++ [f], ?_, ?_, ?_, ?_⟩
  · intro x o hx ho
    have hxD : x ≠ D := ne_of_none ho nD
    rw [upd_ne hxD]
    exact hB.k _ _ hx (K1 _ _ hx ho)
  · rw [upd_same, List.map_append]
    rfl
  · rw [List.length_append, l1]
    rfl
  · rw [List.length_append, l2]
    rfl
  · intro j t f' h1 h2
    rcases app_get h1 with h1 | ⟨h1, rfl⟩
    · rcases app_get h2 with h2 | ⟨h2, _⟩
      · obtain ⟨a1, zs, a2⟩ := g j t f' h1 h2
        have a3 := hB.k _ _ (P1.ne a2) a2
        exact ⟨hR _ _ _ _ (fun ys hy => tups t ys (hB.k _ _ (P1.ne hy) hy)) a1, zs, tups t zs a3⟩
      · have := lt_of_get h1
        omega
    · rcases app_get h2 with h2 | ⟨h2, rfl⟩
      · have := lt_of_get h2
        omega
      · exact ⟨hR _ _ _ _ (fun ys hy => tups t ys hy) rf, ys, tups t ys hr⟩
theorem Dr.pt {p D : Addr} {H H' : Hp} {B i : Nat} (h : Dr p H D B i H') : Pl H' p := by
  obtain ⟨⟨q, _, h2, _⟩, _⟩ := h
  exact h2.pl
theorem DrR.pt {α : Type} {R : Hp → α → Addr → Prop} {p D : Addr} {H H' : Hp} {i : Nat} (h : DrR R p H D i H') : Pl H' p := by
  obtain ⟨⟨q, _, h2, _⟩, _⟩ := h
  exact h2.pl
theorem ne_pool {H : Hp} {p D : Addr} (hP : Pl H p) (nD : H D = none) : D ≠ p := by
  obtain ⟨q0, h0⟩ := hP.q
  exact (h0.ne_free nD).1.symm

/-- a call of a def that may raise -/
structure CallX (P : Program) (w : World) (K : PySem.W.Frag) (mg : Str → Option Value) (base : Heap) (k : Nat) (nm : Str) (ps : List Str) (sp : Sp) where
  g : Addr
  gd : FuncData
  G : FnOk P w K mg base (L2.CX P w) k g gd ps sp
  m : mg nm = some (.ref g)
  kp : PySem.W.keepIn K (.ref g) = true
  b : Binds K gd ps []

theorem units65 {k : Nat} {A : Around} (r : Room k A) : A.units + 65 < cLine := by
  have := r.un
  omega
/-- what a body that calls a method wants of it -/
structure MCall (P : Program) (w : World) (K : PySem.W.Frag) (mg : Str → Option Value) (base : Heap) (k : Nat) (C : Addr) (nm : Str) (ps : List Str) (sp : Sp) where
  g : Addr
  gd : FuncData
  G : FnOk P w K mg base CX0 k g gd ps sp
  cl : Cls K C
  m : Meth K C nm g
  b : Binds K gd ps []
structure MCallX (P : Program) (w : World) (K : PySem.W.Frag) (mg : Str → Option Value) (base : Heap) (k : Nat) (C : Addr) (nm : Str) (ps : List Str) (sp : Sp) where
  g : Addr
  gd : FuncData
  G : FnOk P w K mg base (L2.CX P w) k g gd ps sp
  cl : Cls K C
  m : Meth K C nm g
  b : Binds K gd ps []
/-- a class that is called -/
structure KMake (P : Program) (w : World) (K : PySem.W.Frag) (mg : Str → Option Value) (base : Heap) (k : Nat) (C : Addr) (nm : Str) (ps : List Str) (sp : Sp) where
  f : Addr
  fd : FuncData
  G : FnOk P w K mg base CX0 k f fd ps sp
  M : Mk K C f
  mg : mg nm = some (.ref C)
  b : Binds K fd ps []

/-! ### heaps with a few objects that change -/
structure Mv (S : List Addr) (H H' : Hp) : Prop where
  o : ∀ a o, a ∉ S → H a = some o → H' a = some o
  t : ∀ a xs, H a = some (.tup xs) → H' a = some (.tup xs)
  n : ∀ a, H a ≠ none → H' a ≠ none
theorem Mv.refl {S : List Addr} {H : Hp} : Mv S H H := ⟨fun _ _ _ e => e, fun _ _ e => e, fun _ e => e⟩
theorem Mv.trans {S : List Addr} {H H1 H2 : Hp} (a : Mv S H H1) (b : Mv S H1 H2) : Mv S H H2 :=
  ⟨fun x o n e => b.o x o n (a.o x o n e), fun x xs e => b.t x xs (a.t x xs e), fun x e => b.n x (a.n x e)⟩
theorem Mv.mono {S T : List Addr} {H H' : Hp} (a : Mv S H H') (h : ∀ x ∈ S, x ∈ T) : Mv T H H' := ⟨fun x o n e => a.o x o (fun z => n (h x z)) e, a.t, a.n⟩
theorem same_mv {H H' : Hp} (s : Same H H') {S : List Addr} : Mv S H H' := ⟨fun a o _ e => s a o e, fun a xs e => s a _ e, fun a e => by
  cases h : H a with
  | none => exact absurd h e
  | some o => rw [s a o h]; exact fun z => nomatch z⟩
theorem Mv.up {H : Hp} {a : Addr} {o o' : HO} (h : H a = some o) (hk : ∀ xs, o ≠ .tup xs) : Mv [a] H (upd H a o') := by
  refine ⟨fun x o n e => ?_, fun x xs e => ?_, fun x e => ?_⟩
  · rw [upd_ne (fun z => n (by rw [z]; exact List.mem_singleton.mpr rfl))]
    exact e
  · rw [upd_ne (fun z => by rw [z, h] at e; exact hk xs (Option.some.inj e))]
    exact e
  · by_cases z : x = a
    · rw [z, upd_same]; exact fun z => nomatch z
    · rw [upd_ne z]; exact e
theorem Mv.lst {H : Hp} {a : Addr} {xs : List V} {o' : HO} (h : H a = some (.lst xs)) : Mv [a] H (upd H a o') := Mv.up h fun _ z => nomatch z
theorem Mv.ins {H : Hp} {a C dx : Addr} {fs : List (Str × V)} {o' : HO} (h : H a = some (.ins C dx fs)) : Mv [a] H (upd H a o') := Mv.up h fun _ z => nomatch z
theorem But.mv {p : Addr} {H H' : Hp} (h : But p H H') (hP : Pl H p) (hP' : Pl H' p) : Mv [p] H H' := by
  have k := h.keep
  refine ⟨fun x o n e => k x o (fun z => n (by rw [z]; exact List.mem_singleton.mpr rfl)) e, fun x xs e => k x _ (hP.ne e) e, fun x e => ?_⟩
  by_cases z : x = p
  · obtain ⟨xs, hx⟩ := hP'.lst
    rw [z, hx]; exact fun z => nomatch z
  · cases hx : H x with
    | none => exact absurd hx e
    | some o => rw [k x o z hx]; exact fun z => nomatch z
theorem Kp.mv {p : Addr} {H H' : Hp} (k : Kp p H H') (hP : Pl H p) (hP' : Pl H' p) : Mv [p] H H' := by
  refine ⟨fun x o n e => k.k x o (fun z => n (by rw [z]; exact List.mem_singleton.mpr rfl)) e, fun x xs e => k.k x _ (hP.ne e) e, fun x e => ?_⟩
  by_cases z : x = p
  · obtain ⟨xs, hx⟩ := hP'.lst
    rw [z, hx]; exact fun z => nomatch z
  · cases hx : H x with
    | none => exact absurd hx e
    | some o => rw [k.k x o z hx]; exact fun z => nomatch z
theorem VL.mv {S : List Addr} {H H' : Hp} {a : Addr} {vs : List (List Int)} (h : VL H a vs) (m : Mv S H H') (n : a ∉ S) : VL H' a vs := by
  obtain ⟨rs, e, l, g⟩ := h
  exact ⟨rs, m.o _ _ n e, l, fun i r hr => by obtain ⟨v, h1, h2⟩ := g i r hr; exact ⟨v, h1, m.t _ _ h2⟩⟩
theorem VL.ne {H : Hp} {a : Addr} {vs : List (List Int)} (h : VL H a vs) : H a ≠ none := by
  obtain ⟨rs, e, _⟩ := h
  rw [e]; exact fun z => nomatch z
/-! ### lists of tuples as data -/
def tv (v : List Int) : PyData := .tuple (v.map PyData.int)
theorem refs_dp {H : Hp} : ∀ {rs : List Addr} {vs : List (List Int)}, rs.length = vs.length → (∀ (i : Nat) (r : Addr), rs[i]? = some r → ∃ v, vs[i]? = some v ∧ Vc H r v) → DpAll K H (rs.map V.ref) (vs.map tv)
  | [], [], _, _ => .nil
  | [], _ :: _, h, _ => by cases h
  | _ :: _, [], h, _ => by cases h
  | r :: rs, v :: vs, h, g => by
    obtain ⟨v', h1, h2⟩ := g 0 r rfl
    cases h1
    exact .cons (.tup (SqT.of h2) (dp_ints _)) (refs_dp (Nat.succ.inj h) fun i r' e => g (i + 1) r' e)
theorem VL.dp {H : Hp} {a : Addr} {vs : List (List Int)} (h : VL H a vs) : Dp K H (.ref a) (.list (vs.map tv)) := by
  obtain ⟨rs, e, l, g⟩ := h
  exact .lst (SqL.of e) (refs_dp l g)
theorem eqv_tv (v u : List Int) : PyData.eqv (tv v) (tv u) = decide (v = u) := by
  unfold tv
  rw [PyData.eqv, eqv_ints]
theorem any_tv (vs : List (List Int)) (u : List Int) : ((vs.map tv).any fun z => PyData.eqv z (tv u)) = decide (u ∈ vs) := by
  rw [List.any_map]
  induction vs with
  | nil => rfl
  | cons v r ih =>
    rw [List.any_cons, ih]
    show (PyData.eqv (tv v) (tv u) || decide (u ∈ r)) = _
    rw [eqv_tv]
    by_cases h : v = u
    · subst h; simp
    · have : ¬ u = v := fun z => h z.symm
      simp [h, this]
theorem lay_tv : ∀ vs : List (List Int), PyData.canLayAll0 (vs.map tv) = true
  | [] => by rw [List.map_nil, PyData.canLayAll0]
  | v :: r => by
    rw [List.map_cons, PyData.canLayAll0, lay_tv r]
    show (PyData.canLay0 (.tuple (v.map PyData.int)) && true) = true
    rw [PyData.canLay0, lay_ints]
    rfl
theorem depth_tv : ∀ vs : List (List Int), PyData.depthAll (vs.map tv) ≤ 3
  | [] => by rw [List.map_nil, PyData.depthAll]; omega
  | v :: r => by
    have := depth_tv r
    have h2 := depth_ints v
    rw [List.map_cons, PyData.depthAll]
    refine Nat.max_le.mpr ⟨?_, this⟩
    show PyData.depth (.tuple (v.map PyData.int)) ≤ 3
    rw [PyData.depth]
    omega
theorem shaped_tv (vs : List (List Int)) : SeqAt.shaped (.list (vs.map tv)) = true := by
  unfold SeqAt.shaped
  rw [Bool.and_eq_true]
  refine ⟨by rw [PyData.canLay0, lay_tv], ?_⟩
  rw [decide_eq_true_iff, PyData.depth]
  have := depth_tv vs
  omega
theorem shaped_tv1 (v : List Int) : SeqAt.shaped (tv v) = true := by
  unfold SeqAt.shaped
  rw [Bool.and_eq_true]
  refine ⟨by unfold tv; rw [PyData.canLay0, lay_ints], ?_⟩
  unfold tv
  rw [decide_eq_true_iff, PyData.depth]
  have := depth_ints v
  omega
abbrev Pr := List (List Int) × List (List Int)
def hv (h : Pr) : PyData := .tuple [.list (h.1.map tv), .list (h.2.map tv)]
theorem lay_hv : ∀ hs : List Pr, PyData.canLayAll0 (hs.map hv) = true
  | [] => by rw [List.map_nil, PyData.canLayAll0]
  | h :: r => by
    rw [List.map_cons, PyData.canLayAll0, lay_hv r]
    show (PyData.canLay0 (.tuple [.list (h.1.map tv), .list (h.2.map tv)]) && true) = true
    rw [PyData.canLay0, PyData.canLayAll0, PyData.canLayAll0, PyData.canLayAll0, PyData.canLay0, PyData.canLay0, lay_tv, lay_tv]
    rfl
theorem depth_hv : ∀ hs : List Pr, PyData.depthAll (hs.map hv) ≤ 6
  | [] => by rw [List.map_nil, PyData.depthAll]; omega
  | h :: r => by
    have := depth_hv r
    have h1 := depth_tv h.1
    have h2 := depth_tv h.2
    rw [List.map_cons, PyData.depthAll]
    refine Nat.max_le.mpr ⟨?_, this⟩
    show PyData.depth (.tuple [.list (h.1.map tv), .list (h.2.map tv)]) ≤ 6
    rw [PyData.depth, PyData.depthAll, PyData.depthAll, PyData.depthAll, PyData.depth, PyData.depth]
    omega
theorem shaped_hv (hs : List Pr) : SeqAt.shaped (.list (hs.map hv)) = true := by
  unfold SeqAt.shaped
  rw [Bool.and_eq_true]
  refine ⟨by rw [PyData.canLay0, lay_hv], ?_⟩
  rw [decide_eq_true_iff, PyData.depth]
  have := depth_hv hs
  omega
theorem eqv_nil (ds : List PyData) : PyData.eqv (.list ds) (.list []) = decide (ds = []) := by
  rw [PyData.eqv]
  cases ds with
  | nil => rw [PyData.eqvAll]; rfl
  | cons d r => rw [PyData.eqvAll]; first | rfl | (all_goals intros; nofun)

/-! ### the builder -/
def bf (d : Int) (P I E : Addr) : List (Str × V) := [("_dimension", .int d), ("_points", .ref P), ("_inequalities", .ref I), ("_earlier", .ref E)]
theorem bf_p (d : Int) (P I E : Addr) : (bf d P I E).lookup ("_points" : Str) = some (.ref P) := rfl
theorem bf_i (d : Int) (P I E : Addr) : (bf d P I E).lookup ("_inequalities" : Str) = some (.ref I) := rfl
theorem bf_e (d : Int) (P I E : Addr) : (bf d P I E).lookup ("_earlier" : Str) = some (.ref E) := rfl
theorem bf_pp (d : Int) (P I E A : Addr) : putF "_points" (.ref A) (bf d P I E) = bf d A I E := rfl
theorem bf_pi (d : Int) (P I E A : Addr) : putF "_inequalities" (.ref A) (bf d P I E) = bf d P A E := rfl
theorem bf_mk (d : Int) (P I E : Addr) : putF "_earlier" (.ref E) (putF "_inequalities" (.ref I) (putF "_points" (.ref P) (putF "_dimension" (.int d) []))) = bf d P I E := rfl
theorem bf_no (d : Int) (P I E : Addr) : (bf d P I E).lookup ("_change" : Str) = none := rfl
structure BCls (K : PySem.W.Frag) (C : Addr) : Prop where
  cl : Cls K C
  nD : NoAttr K C "_dimension"
  nP : NoAttr K C "_points"
  nI : NoAttr K C "_inequalities"
  nE : NoAttr K C "_earlier"
/-- the pairs of lists that undo may take back, the last one first -/
inductive Hs (H : Hp) (M : List Addr) : List Addr → List Pr → Prop
  | nil : Hs H M [] []
  | cons {t P I : Addr} {ts : List Addr} {h : Pr} {hs : List Pr} : H t = some (.tup [.ref P, .ref I]) → VL H P h.1 → P ∉ M → VL H I h.2 → I ∉ M → Hs H M ts hs → Hs H M (t :: ts) (h :: hs)
theorem Hs.mv {H H' : Hp} {M S : List Addr} {ts : List Addr} {hs : List Pr} (h : Hs H M ts hs) (m : Mv S H H') (hS : ∀ x ∈ S, x ∈ M) : Hs H' M ts hs := by
  induction h with
  | nil => exact .nil
  | cons e v1 n1 v2 n2 _ ih => exact .cons (m.t _ _ e) (v1.mv m fun z => n1 (hS _ z)) n1 (v2.mv m fun z => n2 (hS _ z)) n2 ih
theorem Hs.re {H : Hp} {M M' : List Addr} {ts : List Addr} {hs : List Pr} (h : Hs H M ts hs) (hM : ∀ x ∈ M', x ∈ M ∨ H x = none) : Hs H M' ts hs := by
  induction h with
  | nil => exact .nil
  | cons e v1 n1 v2 n2 _ ih => exact .cons e v1 (fun z => (hM _ z).elim n1 v1.ne) v2 (fun z => (hM _ z).elim n2 v2.ne) ih
theorem Hs.both {H H' : Hp} {M M' S : List Addr} {ts : List Addr} {hs : List Pr} (h : Hs H M ts hs) (m : Mv S H H') (hS : ∀ x ∈ S, x ∈ M) (hM : ∀ x ∈ M', x ∈ M ∨ H x = none) : Hs H' M' ts hs := by
  induction h with
  | nil => exact .nil
  | cons e v1 n1 v2 n2 _ ih => exact .cons (m.t _ _ e) (v1.mv m fun z => n1 (hS _ z)) (fun z => (hM _ z).elim n1 v1.ne) (v2.mv m fun z => n2 (hS _ z)) (fun z => (hM _ z).elim n2 v2.ne) ih
theorem dpall_snoc {H : Hp} {x : V} {d : PyData} (hx : Dp K H x d) : ∀ {xs : List V} {ds : List PyData}, DpAll K H xs ds → DpAll K H (xs ++ [x]) (ds ++ [d])
  | _, _, .nil => .cons hx .nil
  | _, _, .cons h t => .cons h (dpall_snoc hx t)
theorem Hs.dp {H : Hp} {M : List Addr} {ts : List Addr} {hs : List Pr} (h : Hs H M ts hs) : DpAll K H (ts.map V.ref).reverse (hs.reverse.map hv) := by
  induction h with
  | nil => exact .nil
  | cons e v1 n1 v2 n2 _ ih =>
    rw [List.map_cons, List.reverse_cons, List.reverse_cons, List.map_append]
    exact dpall_snoc (.tup (SqT.of e) (.cons v1.dp (.cons v2.dp .nil))) ih
theorem Hs.len {H : Hp} {M : List Addr} {ts : List Addr} {hs : List Pr} (h : Hs H M ts hs) : ts.length = hs.length := by
  induction h with
  | nil => rfl
  | cons _ _ _ _ _ _ ih => rw [List.length_cons, List.length_cons, ih]
structure BS (C : Addr) (H : Hp) (M : List Addr) (b E : Addr) (ps is : List (List Int)) (hist : List Pr) : Prop where
  st : ∃ (dx : Addr) (d : Int) (P I : Addr) (ts : List Addr), H b = some (.ins C dx (bf d P I E)) ∧ VL H P ps ∧ P ∉ M ∧ VL H I is ∧ I ∉ M ∧ H E = some (.lst (ts.map V.ref).reverse) ∧ Hs H M ts hist
  al : ∀ a ∈ M, H a ≠ none
  hb : b ∈ M
  hE : E ∈ M
/-- what the law does beside the builder -/
theorem BS.re {C : Addr} {H H' : Hp} {M M' S : List Addr} {b E : Addr} {ps is : List (List Int)} {hist : List Pr} (B : BS C H M b E ps is hist) (m : Mv S H H') (hS : ∀ x ∈ S, x ∈ M) (nb : b ∉ S) (nE : E ∉ S) (hM : ∀ x ∈ M', x ∈ M ∨ H x = none) (al : ∀ a ∈ M', H' a ≠ none) (hb : b ∈ M') (hE : E ∈ M') : BS C H' M' b E ps is hist := by
  obtain ⟨⟨dx, d, P, I, ts, e, v1, n1, v2, n2, eE, hs⟩, al0, _, _⟩ := B
  refine ⟨⟨dx, d, P, I, ts, m.o _ _ nb e, v1.mv m fun z => n1 (hS _ z), fun z => (hM _ z).elim n1 v1.ne, v2.mv m fun z => n2 (hS _ z), fun z => (hM _ z).elim n2 v2.ne, m.o _ _ nE eE, ?_⟩, al, hb, hE⟩
  exact hs.both m hS hM
abbrev s_Builder___init__ : Stmt := inClass (topS 45) 0
theorem sc_Builder___init__ : FnScope ["self", "d"] ["self", "d"] (defScope s_Builder___init__) := ⟨rfl, rfl, rfl, by decide +kernel, rfl, by decide +kernel, by decide +kernel⟩
def spInit (C : Addr) : Sp := fun vs H Q _ => ∃ (b dx : Addr) (d : Int), vs = [.ref b, .int d] ∧ H b = some (.ins C dx []) ∧ ∀ (H' : Hp) (P I E : Addr), H' b = some (.ins C dx (bf d P I E)) → H' P = some (.lst []) → H' I = some (.lst []) → H' E = some (.lst []) → H P = none → H I = none → H E = none → P ≠ E → I ≠ E → Mv [b] H H' → Q .non H'
theorem ok_init {f C : Addr} {fd : FuncData} {k : Nat} (F : Fun K "__init__" "Builder.__init__" s_Builder___init__ f fd) (T : BCls K C) : FnOk P w K mg base CX0 (k + 1) f fd ["self", "d"] (spInit C) := by
  refine F.ok sc_Builder___init__ (fun vs H Q E h => ?_) (fun cdv A outer s H vs Q E hr h => ?_)
  · obtain ⟨b, dx, d, rfl, _⟩ := h
    rfl
  · obtain ⟨b, dx, d, rfl, hb, q⟩ := h
    refine ⟨_, (pss_cons (ps_fld (pv 0) (pv 1) rfl)
      (pss_cons (ps_fld (pv 0) (pe_lst pa_nil) rfl)
      (pss_cons (ps_fld (pv 0) (pe_lst pa_nil) rfl)
      (pss_one (ps_fld (pv 0) (pe_lst pa_nil) rfl))))), ?_⟩
    have step : ∀ {H0 : Hp} {fs : List (Str × V)} {nm : Str} {v : V}, H0 b = some (.ins C dx fs) → Mv [b] H0 (upd H0 b (.ins C dx (putF nm v fs))) ∧ (upd H0 b (.ins C dx (putF nm v fs))) b = some (.ins C dx (putF nm v fs)) ∧ (∀ x o, x ≠ b → (upd H0 b (.ins C dx (putF nm v fs))) x = o → H0 x = o) ∧ ∀ x o, x ≠ b → H0 x = o → (upd H0 b (.ins C dx (putF nm v fs))) x = o := fun h =>
      ⟨Mv.ins h, upd_same, fun x o n e => by rw [upd_ne n] at e; exact e, fun x o n e => by rw [upd_ne n]; exact e⟩
    refine ⟨_, rfl, _, rfl, b, C, dx, [], rfl, hb, T.cl, T.nD, (by show 0 < 1000; decide), ?_⟩
    obtain ⟨m1, e1, f1, g1⟩ := step (nm := "_dimension") (v := .int d) hb
    generalize upd H b (.ins C dx (putF "_dimension" (.int d) [])) = H1 at *
    have nb : ∀ {H0 : Hp} {x : Addr}, (∃ o, H0 b = some o) → H0 x = none → x ≠ b := fun h n z => by
      obtain ⟨o, h⟩ := h
      rw [z, h] at n; cases n
    -- _points
    refine ⟨Nat.zero_le _, fun P nP => ?_⟩
    have Pb := nb ⟨_, e1⟩ nP
    have s2 := same_upd (o := .lst []) nP
    have p2 : (upd H1 P (.lst [])) P = some (.lst []) := upd_same
    generalize upd H1 P (.lst []) = H2 at *
    have e2 := s2 _ _ e1
    refine ⟨_, rfl, b, C, dx, _, rfl, e2, T.cl, T.nP, (by show 1 < 1000; decide), ?_⟩
    obtain ⟨m3, e3, f3, g3⟩ := step (nm := "_points") (v := .ref P) e2
    have p3 := g3 _ _ Pb p2
    generalize upd H2 b (.ins C dx (putF "_points" (.ref P) (putF "_dimension" (.int d) []))) = H3 at *
    -- _inequalities
    refine ⟨Nat.zero_le _, fun I nI => ?_⟩
    have Ib := nb ⟨_, e3⟩ nI
    have s4 := same_upd (o := .lst []) nI
    have i4 : (upd H3 I (.lst [])) I = some (.lst []) := upd_same
    generalize upd H3 I (.lst []) = H4 at *
    have e4 := s4 _ _ e3
    refine ⟨_, rfl, b, C, dx, _, rfl, e4, T.cl, T.nI, (by show 2 < 1000; decide), ?_⟩
    obtain ⟨m5, e5, f5, g5⟩ := step (nm := "_inequalities") (v := .ref I) e4
    have p5 := g5 _ _ Pb (s4 _ _ p3)
    have i5 := g5 _ _ Ib i4
    generalize upd H4 b (.ins C dx (putF "_inequalities" (.ref I) (putF "_points" (.ref P) (putF "_dimension" (.int d) [])))) = H5 at *
    -- _earlier
    refine ⟨Nat.zero_le _, fun E' nE => ?_⟩
    have Eb := nb ⟨_, e5⟩ nE
    have s6 := same_upd (o := .lst []) nE
    have x6 : (upd H5 E' (.lst [])) E' = some (.lst []) := upd_same
    generalize upd H5 E' (.lst []) = H6 at *
    have e6 := s6 _ _ e5
    refine ⟨_, rfl, b, C, dx, _, rfl, e6, T.cl, T.nE, (by show 3 < 1000; decide), ?_⟩
    obtain ⟨m7, e7, f7, g7⟩ := step (nm := "_earlier") (v := .ref E') e6
    have m15 := (m1.trans (same_mv s2)).trans (m3.trans ((same_mv s4).trans m5))
    have fr : ∀ {Ha : Hp} {x : Addr}, Mv [b] H Ha → Ha x = none → H x = none := fun m n => by
      cases h : H _ with
      | none => rfl
      | some o => exact absurd n (m.n _ (by rw [h]; exact fun z => nomatch z))
    exact q _ P I E' e7 (g7 _ _ Pb (s6 _ _ p5)) (g7 _ _ Ib (s6 _ _ i5)) (g7 _ _ Eb x6) (fr m1 nP) (fr ((m1.trans (same_mv s2)).trans m3) nI) (fr m15 nE) (ne_of_none p5 nE) (ne_of_none i5 nE) (m15.trans ((same_mv s6).trans m7))
abbrev s_Builder__change : Stmt := inClass (topS 45) 5
theorem sc_Builder__change : FnScope ["self", "points", "inequalities"] ["self", "points", "inequalities"] (defScope s_Builder__change) := ⟨rfl, rfl, rfl, by decide +kernel, rfl, by decide +kernel, by decide +kernel⟩
def spChange (C : Addr) : Sp := fun vs H Q _ => ∃ (b E P' I' : Addr) (M : List Addr) (ps is ps' is' : List (List Int)) (hist : List Pr), vs = [.ref b, .ref P', .ref I'] ∧ BS C H M b E ps is hist ∧ VL H P' ps' ∧ P' ∉ M ∧ VL H I' is' ∧ I' ∉ M ∧ hist.length ≤ 900 ∧
  ∀ H', BS C H' M b E ps' is' ((ps, is) :: hist) → Mv [b, E] H H' → Q .non H'
theorem ok_change {f C : Addr} {fd : FuncData} {k : Nat} (F : Fun K "_change" "Builder._change" s_Builder__change f fd) (T : BCls K C) : FnOk P w K mg base CX0 (k + 1) f fd ["self", "points", "inequalities"] (spChange C) := by
  refine F.ok sc_Builder__change (fun vs H Q E h => ?_) (fun cdv A outer s H vs Q E hr h => ?_)
  · obtain ⟨b, E, P', I', M, ps, is, ps', is', hist, rfl, _⟩ := h
    rfl
  · obtain ⟨b, E', P', I', M, ps, is, ps', is', hist, rfl, ⟨⟨dx, d, P0, I0, ts, e0, v1, n1, v2, n2, eE, hs⟩, al, hb, hE⟩, w1, a1, w2, a2, hl, q⟩ := h
    refine ⟨_, (pss_cons (ps_expr (pe_bm PySem.F.plainAttrs_list PySem.F.slot_list_append PySem.F.type_list_append mt_append (pe_fld (pv 0) rfl) (pa_cons (pe_tup (pa_cons (pe_fld (pv 0) rfl) (pa_cons (pe_fld (pv 0) rfl) pa_nil))) pa_nil)))
      (pss_cons (ps_fld (pv 0) (pv 1) rfl)
      (pss_one (ps_fld (pv 0) (pv 2) rfl)))), ?_⟩
    have tl := hs.len
    refine ⟨_, rfl, b, C, dx, _, _, rfl, e0, T.cl, T.nE, bf_e _ _ _ _, .inl ⟨rfl, _, SqL.of eE⟩, ?_⟩
    refine ⟨_, rfl, b, C, dx, _, _, rfl, e0, T.cl, T.nP, bf_p _ _ _ _, _, rfl, b, C, dx, _, _, rfl, e0, T.cl, T.nI, bf_i _ _ _ _, (show 2 ≤ sizeLine by decide), fun t nt => ?_⟩
    have s1 := same_upd (o := .tup [.ref P0, .ref I0]) nt
    have et : (upd H t (.tup [.ref P0, .ref I0])) t = some (.tup [.ref P0, .ref I0]) := upd_same
    generalize upd H t (.tup [.ref P0, .ref I0]) = H1 at *
    have eE1 := s1 _ _ eE
    refine ⟨E', _, _, rfl, rfl, eE1, by rw [List.length_reverse, List.length_map]; exact small1000 (by omega), ?_⟩
    have m2 := Mv.lst (o' := .lst ((ts.map V.ref).reverse ++ [.ref t])) eE1
    have e2 : (upd H1 E' (.lst ((ts.map V.ref).reverse ++ [.ref t]))) E' = some (.lst (((t :: ts).map V.ref).reverse)) := by rw [upd_same, List.map_cons, List.reverse_cons]
    generalize upd H1 E' (.lst ((ts.map V.ref).reverse ++ [.ref t])) = H2 at *
    have Eb : b ≠ E' := ne_of e0 eE (fun z => nomatch z)
    have b2 := m2.o _ _ (fun z => Eb (List.mem_singleton.mp z)) (s1 _ _ e0)
    refine ⟨_, rfl, _, rfl, b, C, dx, _, rfl, b2, T.cl, T.nP, (by show 4 < 1000; decide), ?_⟩
    rw [bf_pp]
    have m3 := Mv.ins (o' := .ins C dx (bf d P' I0 E')) b2
    have b3 : (upd H2 b (.ins C dx (bf d P' I0 E'))) b = some (.ins C dx (bf d P' I0 E')) := upd_same
    have E3 : (upd H2 b (.ins C dx (bf d P' I0 E'))) E' = some (.lst (((t :: ts).map V.ref).reverse)) := by rw [upd_ne Eb.symm]; exact e2
    generalize upd H2 b (.ins C dx (bf d P' I0 E')) = H3 at *
    refine ⟨_, rfl, _, rfl, b, C, dx, _, rfl, b3, T.cl, T.nI, (by show 4 < 1000; decide), ?_⟩
    rw [bf_pi]
    have m4 := Mv.ins (o' := .ins C dx (bf d P' I' E')) b3
    have b4 : (upd H3 b (.ins C dx (bf d P' I' E'))) b = some (.ins C dx (bf d P' I' E')) := upd_same
    have E4 : (upd H3 b (.ins C dx (bf d P' I' E'))) E' = some (.lst (((t :: ts).map V.ref).reverse)) := by rw [upd_ne Eb.symm]; exact E3
    generalize upd H3 b (.ins C dx (bf d P' I' E')) = H4 at *
    have sub1 : ∀ x ∈ [E'], x ∈ [b, E'] := fun x hx => by rw [List.mem_singleton.mp hx]; simp
    have sub2 : ∀ x ∈ [b], x ∈ [b, E'] := fun x hx => by rw [List.mem_singleton.mp hx]; simp
    have m14 : Mv [b, E'] H1 H4 := (m2.mono sub1).trans ((m3.mono sub2).trans (m4.mono sub2))
    have m04 : Mv [b, E'] H H4 := (same_mv s1).trans m14
    have sM : ∀ x ∈ [b, E'], x ∈ M := fun x hx => by
      rcases List.mem_cons.mp hx with z | z
      · rw [z]; exact hb
      · rw [List.mem_singleton.mp z]; exact hE
    refine q H4 ⟨⟨dx, d, P', I', t :: ts, b4, w1.mv m04 fun z => a1 (sM _ z), a1, w2.mv m04 fun z => a2 (sM _ z), a2, E4, ?_⟩, fun x hx => m04.n x (al x hx), hb, hE⟩ m04
    exact .cons (m14.t _ _ et) (v1.mv m04 fun z => n1 (sM _ z)) n1 (v2.mv m04 fun z => n2 (sM _ z)) n2 (hs.mv m04 sM)

/-! ### the methods of the builder -/
theorem VL.snoc {H H' : Hp} {P D r : Addr} {vs : List (List Int)} {v : List Int} {rs : List Addr} (h : VL H P vs) (e : H P = some (.lst (rs.map V.ref))) (s : Same H H') (hD : H' D = some (.lst (rs.map V.ref ++ [.ref r]))) (hr : Vc H' r v) : VL H' D (vs ++ [v]) := by
  obtain ⟨qs, e', l, g⟩ := h
  rw [e'] at e
  have e := HO.lst.inj (Option.some.inj e)
  have eq : qs = rs := by
    have := congrArg (fun l => l.map fun v => match v with | V.ref a => a | _ => 0) e
    simpa [List.map_map, Function.comp_def] using this
  subst eq
  refine ⟨qs ++ [r], by rw [hD, List.map_append]; rfl, by rw [List.length_append, List.length_append, l]; rfl, fun i t ht => ?_⟩
  rcases app_get ht with h5 | ⟨h5, h6⟩
  · obtain ⟨u, h1, h2⟩ := g i t h5
    exact ⟨u, by rw [List.getElem?_append_left (lt_of_get h1)]; exact h1, s _ _ h2⟩
  · subst h5 h6
    exact ⟨v, by rw [l, List.getElem?_append_right (Nat.le_refl _), Nat.sub_self]; rfl, hr⟩
theorem BS.sub {C : Addr} {H : Hp} {M : List Addr} {b E : Addr} {ps is : List (List Int)} {hist : List Pr} (B : BS C H M b E ps is hist) : ∀ x ∈ [b, E], x ∈ M := fun x hx => by
  rcases List.mem_cons.mp hx with z | z
  · rw [z]; exact B.hb
  · rw [List.mem_singleton.mp z]; exact B.hE
/-- what is made anew beside it -/
theorem BS.same {C : Addr} {H H' : Hp} {M : List Addr} {b E : Addr} {ps is : List (List Int)} {hist : List Pr} (B : BS C H M b E ps is hist) (s : Same H H') : BS C H' M b E ps is hist :=
  B.re (S := []) (same_mv s) (fun x h => nomatch h) (fun h => nomatch h) (fun h => nomatch h) (fun x h => .inl h) (fun a h => (same_mv (S := []) s).n a (B.al a h)) B.hb B.hE
theorem BS.fresh {C : Addr} {H : Hp} {M : List Addr} {b E x : Addr} {ps is : List (List Int)} {hist : List Pr} (B : BS C H M b E ps is hist) (n : H x = none) : x ∉ M := fun z => B.al x z n
abbrev s_Builder_add : Stmt := inClass (topS 45) 1
theorem sc_Builder_add : FnScope ["self", "point"] ["self", "point"] (defScope s_Builder_add) := ⟨rfl, rfl, rfl, by decide +kernel, rfl, by decide +kernel, by decide +kernel⟩
def sp_add (C : Addr) : Sp := fun vs H Q _ => ∃ (b E r : Addr) (v : List Int) (M : List Addr) (ps is : List (List Int)) (hist : List Pr), vs = [.ref b, .ref r] ∧ Vc H r v ∧ BS C H M b E ps is hist ∧ ps.length ≤ 900 ∧ hist.length ≤ 900 ∧
  (v ∈ ps → Q (.bl false) H) ∧ (v ∉ ps → ∀ H', BS C H' M b E (ps ++ [v]) is ((ps, is) :: hist) → Mv [b, E] H H' → Q (.bl true) H')
theorem ok_add {f C : Addr} {fd : FuncData} {k : Nat} (F : Fun K "add" "Builder.add" s_Builder_add f fd) (T : BCls K C) (M_change : MCall P w K mg base k C "_change" ["self", "points", "inequalities"] (spChange C)) : FnOk P w K mg base CX0 (k + 1) f fd ["self", "point"] (sp_add C) := by
  refine F.ok sc_Builder_add (fun vs H Q E h => ?_) (fun cdv A outer s H vs Q E hr h => ?_)
  · obtain ⟨b, E, r, v, M, ps, is, hist, rfl, _⟩ := h
    rfl
  · obtain ⟨b, E', r, v, M, ps, is, hist, rfl, hv, B, pl, hl, q1, q2⟩ := h
    refine ⟨_, (pss_cons (ps_if (pt_cmpR (r := rInD K) (op_inD (units65 hr)) (pv 1) (pe_fld (pv 0) rfl) (by rfl)) (pss_one (ps_ret pe_bl)) pss_nil)
      (pss_cons (ps_expr (pe_meth (pv 0) M_change.cl M_change.m M_change.G hr M_change.b .nil pass0 (pa_cons (pe_op op_cat (pe_fld (pv 0) rfl) (pe_lst (pa_cons (pv 1) pa_nil))) (pa_cons (pe_fld (pv 0) rfl) pa_nil))))
      (pss_one (ps_ret pe_bl)))), ?_⟩
    obtain ⟨dx, d, P0, I0, ts, e0, v1, n1, v2, n2, eE, hs⟩ := B.st
    refine ⟨_, rfl, _, rfl, b, C, dx, _, _, rfl, e0, T.cl, T.nP, bf_p _ _ _ _, tv v, ps.map tv, .tup (SqT.of hv) (dp_ints _), v1.dp, shaped_tv1 v, shaped_tv ps, ?_⟩
    rw [any_tv]
    refine ⟨_, rfl, ite2 (fun e => q1 (of_decide_eq_true e)) (fun e => ?_)⟩
    have q2 := q2 fun z => e (decide_eq_true z)
    obtain ⟨rs, eP, lP, gP⟩ := id v1
    refine ⟨_, rfl, b, dx, _, rfl, e0, bf_no _ _ _ _, ?_⟩
    refine ⟨_, rfl, b, C, dx, _, _, rfl, e0, T.cl, T.nP, bf_p _ _ _ _, _, rfl, (show 1 ≤ sizeLine by decide), fun l nl => ?_⟩
    have s1 := same_upd (o := .lst [.ref r]) nl
    have el : (upd H l (.lst [.ref r])) l = some (.lst [.ref r]) := upd_same
    generalize upd H l (.lst [.ref r]) = H1 at *
    refine ⟨P0, l, _, _, rfl, rfl, s1 _ _ eP, el, by rw [List.length_map]; exact Nat.le_of_lt (small1000 (by show rs.length + 1 ≤ 1000; omega)), fun D nD => ?_⟩
    have s2 := same_upd (o := .lst (rs.map V.ref ++ [.ref r])) nD
    have eD : (upd H1 D (.lst (rs.map V.ref ++ [.ref r]))) D = some (.lst (rs.map V.ref ++ [.ref r])) := upd_same
    generalize upd H1 D (.lst (rs.map V.ref ++ [.ref r])) = H2 at *
    have s12 := s1.trans s2
    have B2 := B.same s12
    have fD : H D = none := by
      cases h : H D with
      | none => rfl
      | some o => rw [s1 _ _ h] at nD; cases nD
    refine ⟨_, rfl, b, C, dx, _, _, rfl, s12 _ _ e0, T.cl, T.nI, bf_i _ _ _ _, b, E', D, I0, M, ps, is, ps ++ [v], is, hist, rfl, B2, v1.snoc eP s12 eD (s12 _ _ hv), B.fresh fD, v2.mv (same_mv s12 (S := [])) (fun h => nomatch h), n2, hl, fun H3 B3 m3 => ?_⟩
    exact q2 H3 B3 ((same_mv s12).trans m3)
abbrev s_Builder_cut : Stmt := inClass (topS 45) 3
theorem sc_Builder_cut : FnScope ["self", "inequality"] ["self", "inequality"] (defScope s_Builder_cut) := ⟨rfl, rfl, rfl, by decide +kernel, rfl, by decide +kernel, by decide +kernel⟩
def sp_cut (C : Addr) : Sp := fun vs H Q _ => ∃ (b E r : Addr) (v : List Int) (M : List Addr) (ps is : List (List Int)) (hist : List Pr), vs = [.ref b, .ref r] ∧ Vc H r v ∧ BS C H M b E ps is hist ∧ is.length ≤ 900 ∧ hist.length ≤ 900 ∧
  (v ∈ is → Q (.bl false) H) ∧ (v ∉ is → ∀ H', BS C H' M b E ps (is ++ [v]) ((ps, is) :: hist) → Mv [b, E] H H' → Q (.bl true) H')
theorem ok_cut {f C : Addr} {fd : FuncData} {k : Nat} (F : Fun K "cut" "Builder.cut" s_Builder_cut f fd) (T : BCls K C) (M_change : MCall P w K mg base k C "_change" ["self", "points", "inequalities"] (spChange C)) : FnOk P w K mg base CX0 (k + 1) f fd ["self", "inequality"] (sp_cut C) := by
  refine F.ok sc_Builder_cut (fun vs H Q E h => ?_) (fun cdv A outer s H vs Q E hr h => ?_)
  · obtain ⟨b, E, r, v, M, ps, is, hist, rfl, _⟩ := h
    rfl
  · obtain ⟨b, E', r, v, M, ps, is, hist, rfl, hv, B, pl, hl, q1, q2⟩ := h
    refine ⟨_, (pss_cons (ps_if (pt_cmpR (r := rInD K) (op_inD (units65 hr)) (pv 1) (pe_fld (pv 0) rfl) (by rfl)) (pss_one (ps_ret pe_bl)) pss_nil)
      (pss_cons (ps_expr (pe_meth (pv 0) M_change.cl M_change.m M_change.G hr M_change.b .nil pass0 (pa_cons (pe_fld (pv 0) rfl) (pa_cons (pe_op op_cat (pe_fld (pv 0) rfl) (pe_lst (pa_cons (pv 1) pa_nil))) pa_nil))))
      (pss_one (ps_ret pe_bl)))), ?_⟩
    obtain ⟨dx, d, P0, I0, ts, e0, v1, n1, v2, n2, eE, hs⟩ := B.st
    refine ⟨_, rfl, _, rfl, b, C, dx, _, _, rfl, e0, T.cl, T.nI, bf_i _ _ _ _, tv v, is.map tv, .tup (SqT.of hv) (dp_ints _), v2.dp, shaped_tv1 v, shaped_tv is, ?_⟩
    rw [any_tv]
    refine ⟨_, rfl, ite2 (fun e => q1 (of_decide_eq_true e)) (fun e => ?_)⟩
    have q2 := q2 fun z => e (decide_eq_true z)
    obtain ⟨rs, eP, lP, gP⟩ := id v2
    refine ⟨_, rfl, b, dx, _, rfl, e0, bf_no _ _ _ _, ?_⟩
    refine ⟨_, rfl, b, C, dx, _, _, rfl, e0, T.cl, T.nP, bf_p _ _ _ _, _, rfl, b, C, dx, _, _, rfl, e0, T.cl, T.nI, bf_i _ _ _ _, _, rfl, (show 1 ≤ sizeLine by decide), fun l nl => ?_⟩
    have s1 := same_upd (o := .lst [.ref r]) nl
    have el : (upd H l (.lst [.ref r])) l = some (.lst [.ref r]) := upd_same
    generalize upd H l (.lst [.ref r]) = H1 at *
    refine ⟨I0, l, _, _, rfl, rfl, s1 _ _ eP, el, by rw [List.length_map]; exact Nat.le_of_lt (small1000 (by show rs.length + 1 ≤ 1000; omega)), fun D nD => ?_⟩
    have s2 := same_upd (o := .lst (rs.map V.ref ++ [.ref r])) nD
    have eD : (upd H1 D (.lst (rs.map V.ref ++ [.ref r]))) D = some (.lst (rs.map V.ref ++ [.ref r])) := upd_same
    generalize upd H1 D (.lst (rs.map V.ref ++ [.ref r])) = H2 at *
    have s12 := s1.trans s2
    have B2 := B.same s12
    have fD : H D = none := by
      cases h : H D with
      | none => rfl
      | some o => rw [s1 _ _ h] at nD; cases nD
    refine ⟨b, E', P0, D, M, ps, is, ps, is ++ [v], hist, rfl, B2, v1.mv (same_mv s12 (S := [])) (fun h => nomatch h), n1, v2.snoc eP s12 eD (s12 _ _ hv), B.fresh fD, hl, fun H3 B3 m3 => ?_⟩
    exact q2 H3 B3 ((same_mv s12).trans m3)
abbrev s_Builder_remove : Stmt := inClass (topS 45) 2
theorem sc_Builder_remove : FnScope ["self", "point", "other"] ["self", "point"] (defScope s_Builder_remove) := ⟨rfl, rfl, rfl, by decide +kernel, rfl, by decide +kernel, by decide +kernel⟩
def sp_remove (C D : Addr) : Sp := fun vs H Q W => ∃ (b E r : Addr) (v : List Int) (M : List Addr) (ps is : List (List Int)) (hist : List Pr), vs = [.ref b, .ref r] ∧ Vc H r v ∧ BS C H M b E ps is hist ∧ ps.length ≤ 900 ∧ hist.length ≤ 900 ∧
  (v ∉ ps → W (.ref D) none H) ∧ (v ∈ ps → ∀ H', BS C H' M b E (ps.filter fun u => decide (u ≠ v)) is ((ps, is) :: hist) → Mv [b, E] H H' → Q .non H')
theorem ok_remove {f C D : Addr} {fd : FuncData} {k : Nat} (F : Fun K "remove" "Builder.remove" s_Builder_remove f fd) (E_NoSuch : Er K mg "NoSuch" D) (T : BCls K C) (M_change : MCall P w K mg base k C "_change" ["self", "points", "inequalities"] (spChange C)) : FnOk P w K mg base (L2.CX P w) (k + 1) f fd ["self", "point"] (sp_remove C D) := by
  refine F.okX sc_Builder_remove (fun vs H Q E h => ?_) (fun cdv A outer s H vs Q E hr h => ?_)
  · obtain ⟨b, E, r, v, M, ps, is, hist, rfl, _⟩ := h
    rfl
  · obtain ⟨b, E', r, v, M, ps, is, hist, rfl, hv, B, pl, hl, q1, q2⟩ := h
    refine ⟨_, (pss_cons (ps_if (pt_cmpR (r := rNotInD K) (op_notInD (units65 hr)) (pv 1) (pe_fld (pv 0) rfl) (by rfl)) (pss_one (raiseE E_NoSuch rfl (takes_of rfl rfl rfl rfl) (by rfl))) pss_nil)
      (pss_one (ps_expr (pe_meth (pv 0) M_change.cl M_change.m M_change.G hr M_change.b .nil pass0 (pa_cons (pe_lc (own := [("other", 2)]) (g := gName 2) (by rfl) sc_Builder_remove.nd (pi_list (pe_fld (pv 0) rfl)) (blkOk_by (own := [("other", 2)]) (N := ["self", "point", "other"]) (sc := defScope s_Builder_remove) (by first | decide +kernel | kernel_rfl)) (fun _ _ _ _ _ => (pg_name (i := 2) sc_Builder_remove.nd rfl (.inl rfl))) (fun _ _ _ _ _ => (pts_one (pt_cmpR (r := rNeD K) (op_neD hr.units) (pv 2) (pv 1) (nomark _)))) (fun _ _ _ _ _ => (pv 2))) (pa_cons (pe_fld (pv 0) rfl) pa_nil)))))), ?_⟩
    obtain ⟨dx, d, P0, I0, ts, e0, v1, n1, v2, n2, eE, hs⟩ := B.st
    refine ⟨_, rfl, _, rfl, b, C, dx, _, _, rfl, e0, T.cl, T.nP, bf_p _ _ _ _, tv v, ps.map tv, .tup (SqT.of hv) (dp_ints _), v1.dp, shaped_tv1 v, shaped_tv ps, ?_⟩
    rw [any_tv]
    refine ⟨_, rfl, ?_⟩
    by_cases hm : v ∈ ps
    · rw [decide_eq_true hm]
      refine iteF ?_
      have q2 := q2 hm
      obtain ⟨rs, eP, lP, gP⟩ := id v1
      refine ⟨_, rfl, b, dx, _, rfl, e0, bf_no _ _ _ _, ?_⟩
      refine ⟨_, rfl, b, C, dx, _, _, rfl, e0, T.cl, T.nP, bf_p _ _ _ _, P0, rfl, ⟨_, SqL.of eP⟩, fun D nD => ?_⟩
      refine lc_list (xs := rs.map V.ref) (fun i H' => Same H H' ∧ VL H' D ((ps.take i).filter fun u => decide (u ≠ v))) ⟨same_upd nD, vl0⟩ (fun i H' _ hP => SqL.of (hP.1 _ _ eP)) (fun i x H' hx hP => ?_) (fun H2 hP => ?_)
      · obtain ⟨t, ht, rfl⟩ := ref_get hx
        obtain ⟨u, hu, hc⟩ := gP i t ht
        have hc' := hP.1 _ _ hc
        refine ⟨rfl, ?_⟩
        refine ⟨_, rfl, _, rfl, tv u, tv v, .tup (SqT.of hc') (dp_ints _), .tup (SqT.of (hP.1 _ _ hv)) (dp_ints _), shaped_tv1 u, shaped_tv1 v, ?_⟩
        rw [eqv_tv]
        refine ⟨_, rfl, ?_⟩
        rw [take_get hu, List.filter_append]
        by_cases huv : u = v
        · rw [decide_eq_true huv]
          refine iteF ⟨hP.1, ?_⟩
          rw [List.filter_cons_of_neg (by simp [huv]), List.filter_nil, List.append_nil]
          exact hP.2
        · rw [decide_eq_false huv]
          obtain ⟨qs, eq, lq, _⟩ := id hP.2
          refine iteT ⟨_, rfl, _, eq, ?_, ?_, ?_⟩
          · rw [List.length_map, lq]
            exact small1000 (Nat.le_trans (List.length_filter_le _ _) (by rw [List.length_take]; omega))
          · intro y o hy
            rw [upd_ne (ne_of_none hy nD)]
            exact hP.1 _ _ hy
          · rw [List.filter_cons_of_pos (by simp [huv]), List.filter_nil]
            exact hP.2.push hc' eq
      obtain ⟨s2, w2⟩ := hP
      rw [List.length_map, lP, List.take_length] at w2
      have B2 := B.same s2
      refine ⟨_, rfl, b, C, dx, _, _, rfl, s2 _ _ e0, T.cl, T.nI, bf_i _ _ _ _, b, E', D, I0, M, ps, is, ps.filter (fun u => decide (u ≠ v)), is, hist, rfl, B2, w2, B.fresh nD, v2.mv (same_mv s2 (S := [])) (fun h => nomatch h), n2, hl, fun H3 B3 m3 => ?_⟩
      exact q2 H3 B3 ((same_mv s2).trans m3)
    · rw [decide_eq_false hm]
      exact iteT (q1 hm)
abbrev s_Builder_uncut : Stmt := inClass (topS 45) 4
theorem sc_Builder_uncut : FnScope ["self", "inequality", "other"] ["self", "inequality"] (defScope s_Builder_uncut) := ⟨rfl, rfl, rfl, by decide +kernel, rfl, by decide +kernel, by decide +kernel⟩
def sp_uncut (C D : Addr) : Sp := fun vs H Q W => ∃ (b E r : Addr) (v : List Int) (M : List Addr) (ps is : List (List Int)) (hist : List Pr), vs = [.ref b, .ref r] ∧ Vc H r v ∧ BS C H M b E ps is hist ∧ is.length ≤ 900 ∧ hist.length ≤ 900 ∧
  (v ∉ is → W (.ref D) none H) ∧ (v ∈ is → ∀ H', BS C H' M b E ps (is.filter fun u => decide (u ≠ v)) ((ps, is) :: hist) → Mv [b, E] H H' → Q .non H')
theorem ok_uncut {f C D : Addr} {fd : FuncData} {k : Nat} (F : Fun K "uncut" "Builder.uncut" s_Builder_uncut f fd) (E_NoSuch : Er K mg "NoSuch" D) (T : BCls K C) (M_change : MCall P w K mg base k C "_change" ["self", "points", "inequalities"] (spChange C)) : FnOk P w K mg base (L2.CX P w) (k + 1) f fd ["self", "inequality"] (sp_uncut C D) := by
  refine F.okX sc_Builder_uncut (fun vs H Q E h => ?_) (fun cdv A outer s H vs Q E hr h => ?_)
  · obtain ⟨b, E, r, v, M, ps, is, hist, rfl, _⟩ := h
    rfl
  · obtain ⟨b, E', r, v, M, ps, is, hist, rfl, hv, B, pl, hl, q1, q2⟩ := h
    refine ⟨_, (pss_cons (ps_if (pt_cmpR (r := rNotInD K) (op_notInD (units65 hr)) (pv 1) (pe_fld (pv 0) rfl) (by rfl)) (pss_one (raiseE E_NoSuch rfl (takes_of rfl rfl rfl rfl) (by rfl))) pss_nil)
      (pss_one (ps_expr (pe_meth (pv 0) M_change.cl M_change.m M_change.G hr M_change.b .nil pass0 (pa_cons (pe_fld (pv 0) rfl) (pa_cons (pe_lc (own := [("other", 2)]) (g := gName 2) (by rfl) sc_Builder_uncut.nd (pi_list (pe_fld (pv 0) rfl)) (blkOk_by (own := [("other", 2)]) (N := ["self", "inequality", "other"]) (sc := defScope s_Builder_uncut) (by first | decide +kernel | kernel_rfl)) (fun _ _ _ _ _ => (pg_name (i := 2) sc_Builder_uncut.nd rfl (.inl rfl))) (fun _ _ _ _ _ => (pts_one (pt_cmpR (r := rNeD K) (op_neD hr.units) (pv 2) (pv 1) (nomark _)))) (fun _ _ _ _ _ => (pv 2))) pa_nil)))))), ?_⟩
    obtain ⟨dx, d, P0, I0, ts, e0, v1, n1, v2, n2, eE, hs⟩ := B.st
    refine ⟨_, rfl, _, rfl, b, C, dx, _, _, rfl, e0, T.cl, T.nI, bf_i _ _ _ _, tv v, is.map tv, .tup (SqT.of hv) (dp_ints _), v2.dp, shaped_tv1 v, shaped_tv is, ?_⟩
    rw [any_tv]
    refine ⟨_, rfl, ?_⟩
    by_cases hm : v ∈ is
    · rw [decide_eq_true hm]
      refine iteF ?_
      have q2 := q2 hm
      obtain ⟨rs, eP, lP, gP⟩ := id v2
      refine ⟨_, rfl, b, dx, _, rfl, e0, bf_no _ _ _ _, ?_⟩
      refine ⟨_, rfl, b, C, dx, _, _, rfl, e0, T.cl, T.nP, bf_p _ _ _ _, _, rfl, b, C, dx, _, _, rfl, e0, T.cl, T.nI, bf_i _ _ _ _, I0, rfl, ⟨_, SqL.of eP⟩, fun D nD => ?_⟩
      refine lc_list (xs := rs.map V.ref) (fun i H' => Same H H' ∧ VL H' D ((is.take i).filter fun u => decide (u ≠ v))) ⟨same_upd nD, vl0⟩ (fun i H' _ hP => SqL.of (hP.1 _ _ eP)) (fun i x H' hx hP => ?_) (fun H2 hP => ?_)
      · obtain ⟨t, ht, rfl⟩ := ref_get hx
        obtain ⟨u, hu, hc⟩ := gP i t ht
        have hc' := hP.1 _ _ hc
        refine ⟨rfl, ?_⟩
        refine ⟨_, rfl, _, rfl, tv u, tv v, .tup (SqT.of hc') (dp_ints _), .tup (SqT.of (hP.1 _ _ hv)) (dp_ints _), shaped_tv1 u, shaped_tv1 v, ?_⟩
        rw [eqv_tv]
        refine ⟨_, rfl, ?_⟩
        rw [take_get hu, List.filter_append]
        by_cases huv : u = v
        · rw [decide_eq_true huv]
          refine iteF ⟨hP.1, ?_⟩
          rw [List.filter_cons_of_neg (by simp [huv]), List.filter_nil, List.append_nil]
          exact hP.2
        · rw [decide_eq_false huv]
          obtain ⟨qs, eq, lq, _⟩ := id hP.2
          refine iteT ⟨_, rfl, _, eq, ?_, ?_, ?_⟩
          · rw [List.length_map, lq]
            exact small1000 (Nat.le_trans (List.length_filter_le _ _) (by rw [List.length_take]; omega))
          · intro y o hy
            rw [upd_ne (ne_of_none hy nD)]
            exact hP.1 _ _ hy
          · rw [List.filter_cons_of_pos (by simp [huv]), List.filter_nil]
            exact hP.2.push hc' eq
      obtain ⟨s2, w2⟩ := hP
      rw [List.length_map, lP, List.take_length] at w2
      have B2 := B.same s2
      refine ⟨b, E', P0, D, M, ps, is, ps, is.filter (fun u => decide (u ≠ v)), hist, rfl, B2, v1.mv (same_mv s2 (S := [])) (fun h => nomatch h), n1, w2, B.fresh nD, hl, fun H3 B3 m3 => ?_⟩
      exact q2 H3 B3 ((same_mv s2).trans m3)
    · rw [decide_eq_false hm]
      exact iteT (q1 hm)
abbrev s_Builder_undo : Stmt := inClass (topS 45) 6
theorem sc_Builder_undo : FnScope ["self"] ["self"] (defScope s_Builder_undo) := ⟨rfl, rfl, rfl, by decide +kernel, rfl, by decide +kernel, by decide +kernel⟩
def sp_undo (C : Addr) : Sp := fun vs H Q _ => ∃ (b E : Addr) (M : List Addr) (ps is : List (List Int)) (hist : List Pr), vs = [.ref b] ∧ BS C H M b E ps is hist ∧ hist.length ≤ 900 ∧
  (hist = [] → ∀ H', Same H H' → Q (.bl false) H') ∧ (∀ h hs, hist = h :: hs → ∀ H', BS C H' M b E h.1 h.2 hs → Mv [b, E] H H' → Q (.bl true) H')
theorem ok_undo {f C : Addr} {fd : FuncData} {k : Nat} (F : Fun K "undo" "Builder.undo" s_Builder_undo f fd) (T : BCls K C) : FnOk P w K mg base CX0 (k + 1) f fd ["self"] (sp_undo C) := by
  refine F.ok sc_Builder_undo (fun vs H Q E h => ?_) (fun cdv A outer s H vs Q E hr h => ?_)
  · obtain ⟨b, E, M, ps, is, hist, rfl, _⟩ := h
    rfl
  · obtain ⟨b, E', M, ps, is, hist, rfl, B, hl, q1, q2⟩ := h
    refine ⟨_, (pss_cons (ps_if (pt_cmpR (r := rEqD K) (op_eqD hr.units) (pe_fld (pv 0) rfl) (pe_lst pa_nil) (nomark _)) (pss_one (ps_ret pe_bl)) pss_nil)
      (pss_cons (ps_asg (pe_bm0 PySem.F.plainAttrs_list PySem.F.slot_list_pop PySem.F.type_list_pop mt_pop (pe_fld (pv 0) rfl)) (pg_tup rfl (pgs_cons (HwX.pg_fld (pv 0)) (pgs_cons (HwX.pg_fld (pv 0)) pgs_nil))))
      (pss_one (ps_ret pe_bl)))), ?_⟩
    obtain ⟨dx, d, P0, I0, ts, e0, v1, n1, v2, n2, eE, hs⟩ := B.st
    refine ⟨_, rfl, b, C, dx, _, _, rfl, e0, T.cl, T.nE, bf_e _ _ _ _, Nat.zero_le _, fun l nl => ?_⟩
    have s1 := same_upd (o := .lst []) nl
    have el : (upd H l (.lst [])) l = some (.lst []) := upd_same
    generalize upd H l (.lst []) = H1 at *
    have B1 := B.same s1
    have eE1 := s1 _ _ eE
    have hs1 : Hs H1 M ts hist := hs.mv (same_mv s1 (S := [])) fun x h => nomatch h
    refine ⟨_, _, .lst (SqL.of eE1) hs1.dp, .lst (SqL.of el) .nil, shaped_hv _, shaped_tv [], ?_⟩
    rw [eqv_nil]
    refine ⟨_, rfl, ?_⟩
    cases hs1 with
    | nil => exact iteT (q1 rfl H1 s1)
    | @cons t P I ts h hrest et w1 a1 w2 a2 hs2 =>
      rw [decide_eq_false (by simp)]
      refine iteF ?_
      have q2 := q2 h hrest rfl
      have e01 := s1 _ _ e0
      have ex : (((t :: ts).map V.ref).reverse) = (ts.map V.ref).reverse ++ [.ref t] := by rw [List.map_cons, List.reverse_cons]
      rw [ex] at eE1
      refine ⟨_, rfl, b, C, dx, _, _, rfl, e01, T.cl, T.nE, bf_e _ _ _ _, .inl ⟨rfl, _, SqL.of eE1⟩, E', _, .ref t, rfl, rfl, eE1, ?_, ?_⟩
      · rw [List.length_append, List.length_singleton, Nat.add_sub_cancel, List.getElem?_append_right (Nat.le_refl _), Nat.sub_self]
        rfl
      rw [List.dropLast_concat]
      have m2 := Mv.lst (o' := .lst (ts.map V.ref).reverse) eE1
      have e2 : (upd H1 E' (.lst (ts.map V.ref).reverse)) E' = some (.lst (ts.map V.ref).reverse) := upd_same
      generalize upd H1 E' (.lst (ts.map V.ref).reverse) = H2 at *
      have Eb : b ≠ E' := ne_of e0 eE (fun z => nomatch z)
      have b2 := m2.o _ _ (fun z => Eb (List.mem_singleton.mp z)) e01
      have et2 := m2.t _ _ et
      refine ⟨t, _, rfl, SqT.of et2, rfl, _, _, rfl, _, rfl, b, C, dx, _, rfl, b2, T.cl, T.nP, (by show 4 < 1000; decide), ?_⟩
      rw [bf_pp]
      have m3 := Mv.ins (o' := .ins C dx (bf d P I0 E')) b2
      have b3 : (upd H2 b (.ins C dx (bf d P I0 E'))) b = some (.ins C dx (bf d P I0 E')) := upd_same
      have E3 : (upd H2 b (.ins C dx (bf d P I0 E'))) E' = some (.lst (ts.map V.ref).reverse) := by rw [upd_ne Eb.symm]; exact e2
      generalize upd H2 b (.ins C dx (bf d P I0 E')) = H3 at *
      refine ⟨_, _, rfl, _, rfl, b, C, dx, _, rfl, b3, T.cl, T.nI, (by show 4 < 1000; decide), rfl, ?_⟩
      rw [bf_pi]
      have m4 := Mv.ins (o' := .ins C dx (bf d P I E')) b3
      have b4 : (upd H3 b (.ins C dx (bf d P I E'))) b = some (.ins C dx (bf d P I E')) := upd_same
      have E4 : (upd H3 b (.ins C dx (bf d P I E'))) E' = some (.lst (ts.map V.ref).reverse) := by rw [upd_ne Eb.symm]; exact E3
      generalize upd H3 b (.ins C dx (bf d P I E')) = H4 at *
      have sub1 : ∀ x ∈ [E'], x ∈ [b, E'] := fun x hx => by rw [List.mem_singleton.mp hx]; simp
      have sub2 : ∀ x ∈ [b], x ∈ [b, E'] := fun x hx => by rw [List.mem_singleton.mp hx]; simp
      have m14 : Mv [b, E'] H1 H4 := (m2.mono sub1).trans ((m3.mono sub2).trans (m4.mono sub2))
      exact q2 H4 ⟨⟨dx, d, P, I, ts, b4, w1.mv m14 fun z => a1 (B.sub _ z), a1, w2.mv m14 fun z => a2 (B.sub _ z), a2, E4, hs2.mv m14 B.sub⟩, fun x hx => m14.n x (B1.al x hx), B.hb, B.hE⟩ ((same_mv s1).trans m14)
abbrev s_Builder_points : Stmt := inClass (topS 45) 7
theorem sc_Builder_points : FnScope ["self"] ["self"] (defScope s_Builder_points) := ⟨rfl, rfl, rfl, by decide +kernel, rfl, by decide +kernel, by decide +kernel⟩
def sp_points (C : Addr) : Sp := fun vs H Q _ => ∃ (b E : Addr) (M : List Addr) (ps is : List (List Int)) (hist : List Pr), vs = [.ref b] ∧ BS C H M b E ps is hist ∧ ∀ (H' : Hp) (l : Addr), Same H H' → H l = none → VL H' l ps → Q (.ref l) H'
def sp_inequalities (C : Addr) : Sp := fun vs H Q _ => ∃ (b E : Addr) (M : List Addr) (ps is : List (List Int)) (hist : List Pr), vs = [.ref b] ∧ BS C H M b E ps is hist ∧ ∀ (H' : Hp) (l : Addr), Same H H' → H l = none → VL H' l is → Q (.ref l) H'
theorem ok_points {f C : Addr} {fd : FuncData} {k : Nat} (F : Fun K "points" "Builder.points" s_Builder_points f fd) (Z : Glb mg) (T : BCls K C) : FnOk P w K mg base CX0 (k + 1) f fd ["self"] (sp_points C) := by
  refine F.ok sc_Builder_points (fun vs H Q E h => ?_) (fun cdv A outer s H vs Q E hr h => ?_)
  · obtain ⟨b, E, M, ps, is, hist, rfl, _⟩ := h
    rfl
  · obtain ⟨b, E', M, ps, is, hist, rfl, B, q⟩ := h
    refine ⟨_, (pss_one (ps_ret (pe_callTy call_list_of (by rfl) Z.m_list (by decide +kernel) (pa_cons (pe_fld (pv 0) rfl) pa_nil)))), ?_⟩
    obtain ⟨dx, d, P0, I0, ts, e0, v1, n1, v2, n2, eE, hs⟩ := B.st
    obtain ⟨rs, eP, lP, gP⟩ := id v1
    refine ⟨_, rfl, b, C, dx, _, _, rfl, e0, T.cl, T.nP, bf_p _ _ _ _, P0, _, rfl, .inl (SqL.of eP), fun l nl => ?_⟩
    exact q _ l (same_upd nl) nl ⟨rs, upd_same, lP, fun i r hr => by obtain ⟨v, h1, h2⟩ := gP i r hr; exact ⟨v, h1, h2.same (same_upd nl)⟩⟩
abbrev s_Builder_inequalities : Stmt := inClass (topS 45) 8
theorem sc_Builder_inequalities : FnScope ["self"] ["self"] (defScope s_Builder_inequalities) := ⟨rfl, rfl, rfl, by decide +kernel, rfl, by decide +kernel, by decide +kernel⟩
theorem ok_inequalities {f C : Addr} {fd : FuncData} {k : Nat} (F : Fun K "inequalities" "Builder.inequalities" s_Builder_inequalities f fd) (Z : Glb mg) (T : BCls K C) : FnOk P w K mg base CX0 (k + 1) f fd ["self"] (sp_inequalities C) := by
  refine F.ok sc_Builder_inequalities (fun vs H Q E h => ?_) (fun cdv A outer s H vs Q E hr h => ?_)
  · obtain ⟨b, E, M, ps, is, hist, rfl, _⟩ := h
    rfl
  · obtain ⟨b, E', M, ps, is, hist, rfl, B, q⟩ := h
    refine ⟨_, (pss_one (ps_ret (pe_callTy call_list_of (by rfl) Z.m_list (by decide +kernel) (pa_cons (pe_fld (pv 0) rfl) pa_nil)))), ?_⟩
    obtain ⟨dx, d, P0, I0, ts, e0, v1, n1, v2, n2, eE, hs⟩ := B.st
    obtain ⟨rs, eP, lP, gP⟩ := id v2
    refine ⟨_, rfl, b, C, dx, _, _, rfl, e0, T.cl, T.nI, bf_i _ _ _ _, I0, _, rfl, .inl (SqL.of eP), fun l nl => ?_⟩
    exact q _ l (same_upd nl) nl ⟨rs, upd_same, lP, fun i r hr => by obtain ⟨v, h1, h2⟩ := gP i r hr; exact ⟨v, h1, h2.same (same_upd nl)⟩⟩

abbrev s__law_some_row : Stmt := topS 56
theorem sc__law_some_row : FnScope ["pool", "d", "row", "k"] ["pool", "d"] (defScope s__law_some_row) := ⟨rfl, rfl, rfl, by decide +kernel, rfl, by decide +kernel, by decide +kernel⟩
theorem shapedL_ints (ns : List Int) (h : ns.length ≤ 1000) : SeqAt.shaped (.list (ns.map PyData.int)) = true := by
  unfold SeqAt.shaped
  rw [Bool.and_eq_true]
  refine ⟨?_, ?_⟩
  · rw [PyData.canLay0, lay_ints]
  · rw [decide_eq_true_iff, PyData.depth]
    have := depth_ints ns
    omega
theorem flat_rep0 : ∀ n : Nat, (List.replicate n [V.int 0]).flatten = (List.replicate n (0 : Int)).map V.int
  | 0 => rfl
  | n + 1 => by
    rw [List.replicate_succ, List.replicate_succ, List.flatten_cons, flat_rep0 n]
    rfl
def spSomeRow : Sp := fun vs H Q _ => ∃ (p : Addr) (d : Nat), vs = [.ref p, .int d] ∧ 1 ≤ d ∧ d ≤ 10 ∧ Pl H p ∧ ∀ (H' : Hp) (r : Addr) (ns : List Int), Pl H' p → Kp p H H' → Vc H' r ns → ns.length = d + 1 → Q (.ref r) H'
theorem ok_srow {f : Addr} {fd : FuncData} {k : Nat} (F : Fun K "_law_some_row" "_law_some_row" s__law_some_row f fd) (Z : Glb mg)
    (C_law_draw : Call P w K mg base k "_law_draw" ["pool", "many"] spDraw)
    (C_law_prim : Call P w K mg base k "_law_prim" ["v"] spPrimK) : FnOk P w K mg base CX0 (k + 1) f fd ["pool", "d"] spSomeRow := by
  refine F.ok sc__law_some_row (fun vs H Q E h => ?_) (fun cdv A outer s H vs Q E hr h => ?_)
  · obtain ⟨p, d, rfl, _⟩ := h
    rfl
  · obtain ⟨p, d, rfl, d1, d2, hP, q⟩ := h
    refine ⟨_, (pss_cons (ps_setLc (i := 2) (own := [("k", 3)]) (g := gName 3) (tt := tYes) (by rfl) sc__law_some_row.nd rfl rfl (sw_true rfl rfl rfl (by decide +kernel)) (pi_range1 rfl Z.m_range (pa_cons (pv 1) pa_nil)) (blkOk_by (own := [("k", 3)]) (N := ["pool", "d", "row", "k"]) (sc := defScope s__law_some_row) (by first | decide +kernel | kernel_rfl)) (fun _ _ _ _ _ => (pg_name (i := 3) sc__law_some_row.nd rfl (.inl rfl))) (fun _ _ _ _ _ => pts_nil) (fun _ _ _ _ _ => (pe_op op_sub (pe_call C_law_draw.G hr (by rfl) C_law_draw.m C_law_draw.kp C_law_draw.b .nil pass0 (pa_cons (pv 0) (pa_cons pe_int pa_nil))) pe_int)))
      (pss_cut (ps_if (pt_cmpR (r := rEqD K) (op_eqD hr.units) (pv 2) (pe_op op_rep (pe_lst (pa_cons pe_int pa_nil)) (pv 1)) (nomark _)) (pss_one (ps_asg pe_int (pg_sub (pv 2) pe_int set_list))) pss_nil)
      (pss_one (ps_ret (pe_call C_law_prim.G hr (by rfl) C_law_prim.m C_law_prim.kp C_law_prim.b .nil pass0 (pa_cons (pe_op op_cat (pe_lst (pa_cons (pe_op op_sub (pe_call C_law_draw.G hr (by rfl) C_law_draw.m C_law_draw.kp C_law_draw.b .nil pass0 (pa_cons (pv 0) (pa_cons pe_int pa_nil))) pe_int) pa_nil)) (pv 2)) pa_nil)))))), ?_⟩
    refine ⟨_, rfl, d, rfl, by omega, by omega, fun D nD => ?_⟩
    refine lc_range (lo := 0) (n := d) (fun i H' => Dr p H D 4 i H') (dr0 hP nD) (fun i H' hi hW => ?_) (fun H3 hW => ?_)
    · refine ⟨rfl, ?_⟩
      unfold tYes
      refine iteT ?_
      have P5 := hW.1.choose_spec.2.1.pl
      refine ⟨_, rfl, p, _, rfl, by decide, by decide, P5, fun z H6 l6 u6 P6 B6 => ⟨_, _, rfl, rfl, ?_⟩⟩
      obtain ⟨acc, h1, h2, h3⟩ := dr_step (n := z - 3) nD hP hW B6 P6 (by omega)
      exact ⟨acc, h1, small1000 (by omega), h3⟩
    have K3 := hW.kp
    have Dp : D ≠ p := ne_pool hP nD
    obtain ⟨⟨q3, _, hq3, qD⟩, _, xs, eD, lx, bX⟩ := hW
    have P3 := hq3.pl
    refine ⟨fun σ H' => ∃ (ns : List Int) (y3 : Option V), σ = [some (.ref p), some (.int (d : Int)), some (.ref D), y3] ∧ H' D = some (.lst (ns.map V.int)) ∧ ns.length = d ∧ (∀ n ∈ ns, n.natAbs < 2 ^ 4) ∧ Pl H' p ∧ Kp p H H', ?_, ?_⟩
    · refine ⟨_, rfl, (show 1 ≤ sizeLine by decide), fun a2 na2 => ?_⟩
      have s13 := same_upd (o := .lst [.int 0]) na2
      refine ⟨_, rfl, a2, _, _, rfl, rfl, upd_same, by omega, by omega, Nat.le_of_lt (small1000 (by rw [Int.toNat_natCast]; show 1 * d ≤ 1000; omega)), fun a3 na3 => ?_⟩
      rw [Int.toNat_natCast, flat_rep0]
      have s14 := same_upd (o := .lst ((List.replicate d (0 : Int)).map V.int)) na3
      have ha3 : (upd (upd H3 a2 (.lst [.int 0])) a3 (.lst ((List.replicate d (0 : Int)).map V.int))) a3 = some (.lst ((List.replicate d (0 : Int)).map V.int)) := upd_same
      have s24 := s13.trans s14
      generalize upd (upd H3 a2 (.lst [.int 0])) a3 (.lst ((List.replicate d (0 : Int)).map V.int)) = H4 at *
      have eD4 := s24 _ _ eD
      refine ⟨_, _, .lst (SqL.of eD4) (dp_ints _), .lst (SqL.of ha3) (dp_ints _), shapedL_ints _ (by omega), shapedL_ints _ (by rw [List.length_replicate]; omega), ?_⟩
      refine ⟨_, rfl, ite2 (fun _ => ?_) (fun _ => ⟨xs, _, rfl, eD4, lx, bX, P3.same s24, K3.trans (Same.kp s24)⟩)⟩
      have x0 : ixN (xs.map V.int).length 0 = some 0 := by
        rw [List.length_map, lx]
        unfold ixN
        simp
        omega
      refine ⟨_, rfl, D, _, 0, 0, rfl, rfl, eD4, x0, ?_⟩
      have Dp' : p ≠ D := Dp.symm
      obtain ⟨q4, h4⟩ := (P3.same s24).q
      have hq4 : q4 ≠ D := by
        have e := hd_inj (h4.hd) ((hq3.same s24).hd)
        rw [e]
        exact qD
      refine ⟨xs.set 0 1, _, rfl, by rw [upd_same, List.map_set], by rw [List.length_set]; exact lx, fun n hn => ?_, (h4.upd Dp' hq4).pl, ⟨fun x o hx ho => ?_, fun q5 h5 => ?_⟩⟩
      · rcases List.mem_or_eq_of_mem_set hn with h | h
        · exact bX n h
        · rw [h]; decide
      · rw [upd_ne (ne_of_none ho nD)]
        exact s24 _ _ (K3.k _ _ hx ho)
      · obtain ⟨l, hl⟩ := h5
        obtain ⟨l', hl'⟩ := K3.h q5 ⟨l, hl⟩
        exact ⟨l', by rw [upd_ne Dp']; exact s24 _ _ hl'⟩
    · intro σ H4 hW
      obtain ⟨ns, y3, rfl, eD4, ln, bN, P4, K4⟩ := hW
      refine ⟨_, rfl, p, _, rfl, by decide, by decide, P4, fun v5 H5 l5 u5 P5 B5 => ⟨_, _, rfl, rfl, (show 1 ≤ sizeLine by decide), fun D2 nD2 => ?_⟩⟩
      have eD5 := B5.keep _ _ Dp eD4
      have s6 := same_upd (o := .lst [.int (v5 - 4)]) nD2
      have e6 : (upd H5 D2 (.lst [.int (v5 - 4)])) D2 = some (.lst [.int (v5 - 4)]) := upd_same
      generalize upd H5 D2 (.lst [.int (v5 - 4)]) = H6 at *
      refine ⟨_, rfl, D2, D, _, _, rfl, rfl, e6, s6 _ _ eD5, by rw [List.length_map]; exact Nat.le_of_lt (small1000 (by show 1 + ns.length ≤ 1000; omega)), fun D3 nD3 => ?_⟩
      have s7 := same_upd (o := .lst ([.int (v5 - 4)] ++ ns.map V.int)) nD3
      have e7 : (upd H6 D3 (.lst ([.int (v5 - 4)] ++ ns.map V.int))) D3 = some (.lst (((v5 - 4) :: ns).map V.int)) := upd_same
      generalize upd H6 D3 (.lst ([.int (v5 - 4)] ++ ns.map V.int)) = H7 at *
      have b16 : ∀ n ∈ (v5 - 4) :: ns, n.natAbs < 2 ^ 395 := fun n hn => by
        rcases List.mem_cons.mp hn with h | h
        · rw [h]; exact Nat.lt_of_le_of_lt (show (v5 - 4).natAbs ≤ 16 by omega) (by decide +kernel)
        · exact up_pow (bN n h) (by decide)
      refine ⟨false, D3, (v5 - 4) :: ns, rfl, e7, by rw [List.length_cons]; omega, b16, fun H8 r s8 hr8 => ?_⟩
      have s68 := (s6.trans s7).trans s8
      exact q H8 r _ (P5.same s68) ((K4.trans B5.kp).trans (Same.kp s68)) hr8 (by rw [prim_len, List.length_cons, ln])
abbrev s__law_call : Stmt := topS 57
theorem sc__law_call : FnScope ["builder", "way", "value", "e"] ["builder", "way", "value"] (defScope s__law_call) := ⟨rfl, rfl, rfl, by decide +kernel, rfl, by decide +kernel, by decide +kernel⟩
/-- what the five calls give -/
def spCall (C : Addr) : Sp := fun vs H Q _ => ∃ (b E : Addr) (way : Int) (x : V) (M : List Addr) (ps is : List (List Int)) (hist : List Pr), vs = [.ref b, .int way, x] ∧ BS C H M b E ps is hist ∧ ps.length ≤ 900 ∧ is.length ≤ 900 ∧ hist.length ≤ 900 ∧
  ((way = 0 ∧ ∃ r v, x = .ref r ∧ Vc H r v ∧ (v ∈ ps → Q (.bl false) H) ∧ (v ∉ ps → ∀ H', BS C H' M b E (ps ++ [v]) is ((ps, is) :: hist) → Mv [b, E] H H' → Q (.bl true) H')) ∨
   (way = 1 ∧ ∃ r v, x = .ref r ∧ Vc H r v ∧ (v ∉ ps → Q (.str "no") H) ∧ (v ∈ ps → ∀ H', BS C H' M b E (ps.filter fun u => decide (u ≠ v)) is ((ps, is) :: hist) → Mv [b, E] H H' → Q .non H')) ∨
   (way = 2 ∧ ∃ r v, x = .ref r ∧ Vc H r v ∧ (v ∈ is → Q (.bl false) H) ∧ (v ∉ is → ∀ H', BS C H' M b E ps (is ++ [v]) ((ps, is) :: hist) → Mv [b, E] H H' → Q (.bl true) H')) ∨
   (way = 3 ∧ ∃ r v, x = .ref r ∧ Vc H r v ∧ (v ∉ is → Q (.str "no") H) ∧ (v ∈ is → ∀ H', BS C H' M b E ps (is.filter fun u => decide (u ≠ v)) ((ps, is) :: hist) → Mv [b, E] H H' → Q .non H')) ∨
   (3 < way ∧ (hist = [] → ∀ H', Same H H' → Q (.bl false) H') ∧ (∀ h hs, hist = h :: hs → ∀ H', BS C H' M b E h.1 h.2 hs → Mv [b, E] H H' → Q (.bl true) H')))
theorem bf_at (d : Int) (P I E : Addr) : (bf d P I E).lookup ("add" : Str) = none ∧ (bf d P I E).lookup ("remove" : Str) = none ∧ (bf d P I E).lookup ("cut" : Str) = none ∧ (bf d P I E).lookup ("uncut" : Str) = none ∧ (bf d P I E).lookup ("undo" : Str) = none ∧ (bf d P I E).lookup ("points" : Str) = none ∧ (bf d P I E).lookup ("inequalities" : Str) = none := ⟨rfl, rfl, rfl, rfl, rfl, rfl, rfl⟩
theorem ok_call {f C D_NoSuch D_Empty : Addr} {fd : FuncData} {k : Nat} (F : Fun K "_law_call" "_law_call" s__law_call f fd) (Z : Glb mg)
    (E_NoSuch : Er K mg "NoSuch" D_NoSuch) (X_NoSuch : ExcC K D_NoSuch) (E_Empty : mg "Empty" = some (.ref D_Empty)) (I1 : PySem.W.kitOne K (.ref D_NoSuch) (.ref D_Empty) = some false)
    (Madd : MCall P w K mg base k C "add" ["self", "point"] (sp_add C)) (Mremove : MCallX P w K mg base k C "remove" ["self", "point"] (sp_remove C D_NoSuch))
    (Mcut : MCall P w K mg base k C "cut" ["self", "inequality"] (sp_cut C)) (Muncut : MCallX P w K mg base k C "uncut" ["self", "inequality"] (sp_uncut C D_NoSuch))
    (Mundo : MCall P w K mg base k C "undo" ["self"] (sp_undo C)) : FnOk P w K mg base CX0 (k + 1) f fd ["builder", "way", "value"] (spCall C) := by
  refine F.ok sc__law_call (fun vs H Q E h => ?_) (fun cdv A outer s H vs Q E hr h => ?_)
  · obtain ⟨b, E, way, x, M, ps, is, hist, rfl, _⟩ := h
    rfl
  · obtain ⟨b, E', way, x, M, ps, is, hist, rfl, B, lp, li, lh, hw⟩ := h
    refine ⟨_, (pss_one (ps_try_as (i := 3) rfl rfl sc__law_call.nd rfl rfl ⟨rfl, by decide, .inl E_NoSuch.g⟩ takes0 (fun W pn xe tk _ => (pss_cons (ps_if (pt_cmpR op_eq (pv 1) pe_int (nomark _)) (pss_one (ps_ret (pe_meth (pv 0) Madd.cl Madd.m Madd.G hr Madd.b .nil pass0 (pa_cons (pv 2) pa_nil)))) pss_nil)
      (pss_cons (ps_if (pt_cmpR op_eq (pv 1) pe_int (nomark _)) (pss_one (ps_ret (HwX.pe_methA (pv 0) Mremove.cl Mremove.m Mremove.G hr Mremove.b (fun σ => passAt tk σ) (pa_cons (pv 2) pa_nil)))) pss_nil)
      (pss_cons (ps_if (pt_cmpR op_eq (pv 1) pe_int (nomark _)) (pss_one (ps_ret (pe_meth (pv 0) Mcut.cl Mcut.m Mcut.G hr Mcut.b .nil pass0 (pa_cons (pv 2) pa_nil)))) pss_nil)
      (pss_cons (ps_if (pt_cmpR op_eq (pv 1) pe_int (nomark _)) (pss_one (ps_ret (HwX.pe_methA (pv 0) Muncut.cl Muncut.m Muncut.G hr Muncut.b (fun σ => passAt tk σ) (pa_cons (pv 2) pa_nil)))) pss_nil)
      (pss_one (ps_ret (pe_meth0 (pv 0) Mundo.cl Mundo.m Mundo.G hr Mundo.b .nil pass0))))))))
      (fun a oe cls d pn hz hf => (pss_one (ps_ret (pe_ifExp (pt_val (pe_callB (r := rE K D_NoSuch a cls d) (call_isE2 X_NoSuch hz hf) (by rfl) Z.m_isinstance (by decide +kernel) (pa_cons (pv 3) (pa_cons (pe_glob (v := .ref D_Empty) rfl E_Empty rfl) pa_nil)))) pe_str pe_str)))))), ?_⟩
    obtain ⟨dx, d, P0, I0, ts, e0, _⟩ := B.st
    obtain ⟨na, nr, nc, nu, nd, _, _⟩ := bf_at d P0 I0 E'
    have skip : ∀ {A : Prop} {c z : Int}, c ≠ z → (decide (V.int c = V.int z) = true → A) := fun h e => absurd (V.int.inj (of_decide_eq_true e)) h
    rcases hw with ⟨rfl, r, v, rfl, hv, q1, q2⟩ | ⟨rfl, r, v, rfl, hv, q1, q2⟩ | ⟨rfl, r, v, rfl, hv, q1, q2⟩ | ⟨rfl, r, v, rfl, hv, q1, q2⟩ | ⟨h3, q1, q2⟩
    · refine ⟨_, rfl, rfl, _, rfl, iteT ?_⟩
      exact ⟨_, rfl, b, dx, _, rfl, e0, na, _, rfl, b, E', r, v, M, ps, is, hist, rfl, hv, B, lp, lh, q1, q2⟩
    · refine ⟨_, rfl, rfl, _, rfl, ite2 (skip (by decide)) fun _ => ?_⟩
      refine ⟨_, rfl, rfl, _, rfl, iteT ?_⟩
      refine ⟨_, rfl, b, dx, _, rfl, e0, nr, _, rfl, b, E', r, v, M, ps, is, hist, rfl, hv, B, lp, lh, fun hm => ?_, q2⟩
      refine ⟨true, E_NoSuch.em, fun _ e ne => ?_, fun z => nomatch z⟩
      exact ⟨_, rfl, rfl, rfl, _, _, _, rfl, fun u hu => hu, I1, _, rfl, iteF (q1 hm)⟩
    · refine ⟨_, rfl, rfl, _, rfl, ite2 (skip (by decide)) fun _ => ?_⟩
      refine ⟨_, rfl, rfl, _, rfl, ite2 (skip (by decide)) fun _ => ?_⟩
      refine ⟨_, rfl, rfl, _, rfl, iteT ?_⟩
      exact ⟨_, rfl, b, dx, _, rfl, e0, nc, _, rfl, b, E', r, v, M, ps, is, hist, rfl, hv, B, li, lh, q1, q2⟩
    · refine ⟨_, rfl, rfl, _, rfl, ite2 (skip (by decide)) fun _ => ?_⟩
      refine ⟨_, rfl, rfl, _, rfl, ite2 (skip (by decide)) fun _ => ?_⟩
      refine ⟨_, rfl, rfl, _, rfl, ite2 (skip (by decide)) fun _ => ?_⟩
      refine ⟨_, rfl, rfl, _, rfl, iteT ?_⟩
      refine ⟨_, rfl, b, dx, _, rfl, e0, nu, _, rfl, b, E', r, v, M, ps, is, hist, rfl, hv, B, li, lh, fun hm => ?_, q2⟩
      refine ⟨true, E_NoSuch.em, fun _ e ne => ?_, fun z => nomatch z⟩
      exact ⟨_, rfl, rfl, rfl, _, _, _, rfl, fun u hu => hu, I1, _, rfl, iteF (q1 hm)⟩
    · refine ⟨_, rfl, rfl, _, rfl, ite2 (skip (by omega)) fun _ => ?_⟩
      refine ⟨_, rfl, rfl, _, rfl, ite2 (skip (by omega)) fun _ => ?_⟩
      refine ⟨_, rfl, rfl, _, rfl, ite2 (skip (by omega)) fun _ => ?_⟩
      refine ⟨_, rfl, rfl, _, rfl, ite2 (skip (by omega)) fun _ => ?_⟩
      exact ⟨_, rfl, b, dx, _, rfl, e0, nd, b, E', M, ps, is, hist, rfl, B, lh, q1, q2⟩

/-! ### the law's own lists -/
abbrev Fm := Addr × Addr × Addr
inductive Frs (H : Hp) (M : List Addr) : List Fm → List Pr → Prop
  | nil : Frs H M [] []
  | cons {l a c : Addr} {fr : List Fm} {h : Pr} {hs : List Pr} : H l = some (.lst [.ref a, .ref c]) → l ∉ M → VL H a h.1 → VL H c h.2 → Frs H M fr hs → Frs H M ((l, a, c) :: fr) (h :: hs)
def mutL : List Fm → List Addr
  | [] => []
  | f :: r => f.2.1 :: f.2.2 :: mutL r
def Mu (p b E bf : Addr) (fr : List Fm) : List Addr := p :: b :: E :: bf :: mutL fr
theorem Frs.mv {H H' : Hp} {M S : List Addr} {fr : List Fm} {hs : List Pr} (h : Frs H M fr hs) (m : Mv S H H') (hS : ∀ x ∈ S, x ∈ M) (hm : ∀ x ∈ mutL fr, x ∉ S) : Frs H' M fr hs := by
  induction h with
  | nil => exact .nil
  | @cons l a c fr h hs e n v1 v2 _ ih =>
    exact .cons (m.o _ _ (fun z => n (hS _ z)) e) n (v1.mv m (hm a List.mem_cons_self)) (v2.mv m (hm c (List.mem_cons_of_mem _ List.mem_cons_self))) (ih fun x hx => hm x (List.mem_cons_of_mem _ (List.mem_cons_of_mem _ hx)))
theorem Frs.re {H : Hp} {M M' : List Addr} {fr : List Fm} {hs : List Pr} (h : Frs H M fr hs) (hM : ∀ x ∈ M', x ∈ M ∨ H x = none) : Frs H M' fr hs := by
  induction h with
  | nil => exact .nil
  | cons e n v1 v2 _ ih => exact .cons e (fun z => (hM _ z).elim n (fun w => by rw [e] at w; cases w)) v1 v2 ih
theorem Frs.al {H : Hp} {M : List Addr} {fr : List Fm} {hs : List Pr} (h : Frs H M fr hs) : ∀ x ∈ mutL fr, H x ≠ none := by
  induction h with
  | nil => intro x hx; cases hx
  | cons e n v1 v2 _ ih =>
    intro x hx
    rcases List.mem_cons.mp hx with rfl | hx
    · exact v1.ne
    · rcases List.mem_cons.mp hx with rfl | hx
      · exact v2.ne
      · exact ih x hx
theorem Frs.dp {H : Hp} {M : List Addr} {fr : List Fm} {hs : List Pr} (h : Frs H M fr hs) : DpAll K H (fr.map fun f => V.ref f.1).reverse (hs.reverse.map fun h => .list [.list (h.1.map tv), .list (h.2.map tv)]) := by
  induction h with
  | nil => exact .nil
  | cons e n v1 v2 _ ih =>
    rw [List.map_cons, List.reverse_cons, List.reverse_cons, List.map_append]
    exact dpall_snoc (.lst (SqL.of e) (.cons v1.dp (.cons v2.dp .nil))) ih
theorem Frs.len {H : Hp} {M : List Addr} {fr : List Fm} {hs : List Pr} (h : Frs H M fr hs) : fr.length = hs.length := by
  induction h with
  | nil => rfl
  | cons _ _ _ _ _ ih => rw [List.length_cons, List.length_cons, ih]
def lv (h : Pr) : PyData := .list [.list (h.1.map tv), .list (h.2.map tv)]
theorem lay_lv : ∀ hs : List Pr, PyData.canLayAll0 (hs.map lv) = true
  | [] => by rw [List.map_nil, PyData.canLayAll0]
  | h :: r => by
    rw [List.map_cons, PyData.canLayAll0, lay_lv r]
    show (PyData.canLay0 (.list [.list (h.1.map tv), .list (h.2.map tv)]) && true) = true
    rw [PyData.canLay0, PyData.canLayAll0, PyData.canLayAll0, PyData.canLayAll0, PyData.canLay0, PyData.canLay0, lay_tv, lay_tv]
    rfl
theorem depth_lv : ∀ hs : List Pr, PyData.depthAll (hs.map lv) ≤ 6
  | [] => by rw [List.map_nil, PyData.depthAll]; omega
  | h :: r => by
    have := depth_lv r
    have h1 := depth_tv h.1
    have h2 := depth_tv h.2
    rw [List.map_cons, PyData.depthAll]
    refine Nat.max_le.mpr ⟨?_, this⟩
    show PyData.depth (.list [.list (h.1.map tv), .list (h.2.map tv)]) ≤ 6
    rw [PyData.depth, PyData.depthAll, PyData.depthAll, PyData.depthAll, PyData.depth, PyData.depth]
    omega
theorem shaped_lv (hs : List Pr) : SeqAt.shaped (.list (hs.map lv)) = true := by
  unfold SeqAt.shaped
  rw [Bool.and_eq_true]
  refine ⟨by rw [PyData.canLay0, lay_lv], ?_⟩
  rw [decide_eq_true_iff, PyData.depth]
  have := depth_lv hs
  omega
structure LS (H : Hp) (p q b E bf fa ra : Addr) (few rws : List (List Int)) (fr : List Fm) (dat : List Pr) : Prop where
  pl : Plq H p q
  nd : (Mu p b E bf fr).Nodup
  qn : q ∉ Mu p b E bf fr
  fe : VL H fa few
  fn : fa ∉ Mu p b E bf fr
  re : VL H ra rws
  rn : ra ∉ Mu p b E bf fr
  be : H bf = some (.lst ((fr.tail.map fun f => V.ref f.1).reverse))
  fk : Frs H (Mu p b E bf fr) fr dat
section
variable {H H' : Hp} {p q b E bf fa ra C : Addr} {few rws : List (List Int)} {fr : List Fm} {dat : List Pr}
theorem mu_p : p ∈ Mu p b E bf fr := List.mem_cons_self
theorem mu_b : b ∈ Mu p b E bf fr := List.mem_cons_of_mem _ List.mem_cons_self
theorem mu_E : E ∈ Mu p b E bf fr := List.mem_cons_of_mem _ (List.mem_cons_of_mem _ List.mem_cons_self)
theorem mu_bf : bf ∈ Mu p b E bf fr := List.mem_cons_of_mem _ (List.mem_cons_of_mem _ (List.mem_cons_of_mem _ List.mem_cons_self))
theorem mu_m {x : Addr} (h : x ∈ mutL fr) : x ∈ Mu p b E bf fr := List.mem_cons_of_mem _ (List.mem_cons_of_mem _ (List.mem_cons_of_mem _ (List.mem_cons_of_mem _ h)))
/-- what changes the pool and the builder alone -/
theorem LS.mv {S : List Addr} (L : LS H p q b E bf fa ra few rws fr dat) (m : Mv S H H') (hS : ∀ x ∈ S, x = p ∨ x = b ∨ x = E) (pl : Plq H' p q) : LS H' p q b E bf fa ra few rws fr dat := by
  have sM : ∀ x ∈ S, x ∈ Mu p b E bf fr := fun x hx => by
    rcases hS x hx with z | z | z
    · rw [z]; exact mu_p
    · rw [z]; exact mu_b
    · rw [z]; exact mu_E
  obtain ⟨n1, n2⟩ := List.nodup_cons.mp L.nd
  obtain ⟨n3, n4⟩ := List.nodup_cons.mp n2
  obtain ⟨n5, n6⟩ := List.nodup_cons.mp n4
  have out : ∀ x ∈ bf :: mutL fr, x ∉ S := fun x hx z => by
    rcases hS x z with y | y | y
    · exact n1 (y ▸ List.mem_cons_of_mem _ (List.mem_cons_of_mem _ hx))
    · exact n3 (y ▸ List.mem_cons_of_mem _ hx)
    · exact n5 (y ▸ hx)
  exact ⟨pl, L.nd, L.qn, L.fe.mv m fun z => L.fn (sM _ z), L.fn, L.re.mv m fun z => L.rn (sM _ z), L.rn, m.o _ _ (out bf List.mem_cons_self) L.be, L.fk.mv m sM fun x hx => out x (List.mem_cons_of_mem _ hx)⟩
theorem LS.same (L : LS H p q b E bf fa ra few rws fr dat) (s : Same H H') : LS H' p q b E bf fa ra few rws fr dat := L.mv (S := []) (same_mv s) (fun x h => nomatch h) (L.pl.same s)
theorem LS.meth (L : LS H p q b E bf fa ra few rws fr dat) (m : Mv [b, E] H H') : LS H' p q b E bf fa ra few rws fr dat := by
  obtain ⟨n1, n2⟩ := List.nodup_cons.mp L.nd
  refine L.mv m (fun x h => .inr (by rcases List.mem_cons.mp h with z | z; exact .inl z; exact .inr (List.mem_singleton.mp z))) ?_
  obtain ⟨ns, a, b', c, d, e1, e2, ne⟩ := L.pl
  have sub : ∀ x ∈ [b, E], x ∈ Mu p b E bf fr := fun x h => by
    rcases List.mem_cons.mp h with z | z
    · rw [z]; exact mu_b
    · rw [List.mem_singleton.mp z]; exact mu_E
  refine ⟨ns, a, b', c, d, m.o _ _ (fun z => ?_) e1, m.o _ _ (fun z => L.qn (sub _ z)) e2, ne⟩
  rcases List.mem_cons.mp z with y | y
  · exact n1 (y ▸ List.mem_cons_self)
  · exact n1 ((List.mem_singleton.mp y) ▸ List.mem_cons_of_mem _ List.mem_cons_self)
theorem LS.pool (L : LS H p q b E bf fa ra few rws fr dat) (hB : But p H H') (P2 : Pl H' p) : LS H' p q b E bf fa ra few rws fr dat :=
  L.mv (hB.mv L.pl.pl P2) (fun x h => .inl (List.mem_singleton.mp h)) (L.pl.but hB P2)
theorem BS.pool {ps is : List (List Int)} {hist : List Pr} {M : List Addr} (B : BS C H M b E ps is hist) (hp : p ∈ M) (nb : b ≠ p) (nE : E ≠ p) (hP : Pl H p) (hB : But p H H') (P2 : Pl H' p) : BS C H' M b E ps is hist := by
  have m := hB.mv hP P2
  exact B.re m (fun x h => by rw [List.mem_singleton.mp h]; exact hp) (fun z => nb (List.mem_singleton.mp z)) (fun z => nE (List.mem_singleton.mp z)) (fun x h => .inl h) (fun a h => m.n a (B.al a h)) B.hb B.hE
theorem LS.ne (L : LS H p q b E bf fa ra few rws fr dat) : b ≠ p ∧ E ≠ p ∧ bf ≠ p ∧ b ≠ bf ∧ E ≠ bf ∧ b ∉ mutL fr ∧ E ∉ mutL fr ∧ bf ∉ mutL fr ∧ p ∉ mutL fr ∧ (mutL fr).Nodup := by
  obtain ⟨n1, n2⟩ := List.nodup_cons.mp L.nd
  obtain ⟨n3, n4⟩ := List.nodup_cons.mp n2
  obtain ⟨n5, n6⟩ := List.nodup_cons.mp n4
  obtain ⟨n7, n8⟩ := List.nodup_cons.mp n6
  refine ⟨fun z => n1 (z ▸ List.mem_cons_self), fun z => n1 (z ▸ List.mem_cons_of_mem _ List.mem_cons_self), fun z => n1 (z ▸ List.mem_cons_of_mem _ (List.mem_cons_of_mem _ List.mem_cons_self)), fun z => n3 (z ▸ List.mem_cons_of_mem _ List.mem_cons_self), fun z => n5 (z ▸ List.mem_cons_self), fun z => n3 (List.mem_cons_of_mem _ (List.mem_cons_of_mem _ z)), fun z => n5 (List.mem_cons_of_mem _ z), n7, fun z => n1 (List.mem_cons_of_mem _ (List.mem_cons_of_mem _ (List.mem_cons_of_mem _ z))), n8⟩
end
/-- the first place of an item, and what is left without it -/
theorem erase_filter {v : List Int} : ∀ {l : List (List Int)}, l.Nodup → v ∈ l → ∃ j, l[j]? = some v ∧ (∀ (m : Nat) (z : List Int), m < j → l[m]? = some z → z ≠ v) ∧ l.eraseIdx j = l.filter fun u => decide (u ≠ v)
  | [], _, h => nomatch h
  | a :: r, n, h => by
    obtain ⟨n1, n2⟩ := List.nodup_cons.mp n
    by_cases e : a = v
    · refine ⟨0, by rw [e]; rfl, fun m z hm => absurd hm (Nat.not_lt_zero m), ?_⟩
      rw [List.eraseIdx_cons_zero, List.filter_cons_of_neg (by simp [e])]
      refine (List.filter_eq_self.mpr fun u hu => ?_).symm
      simp
      intro z
      exact n1 (by rw [e, ← z]; exact hu)
    · rcases List.mem_cons.mp h with h | h
      · exact absurd h.symm e
      · obtain ⟨j, h1, h2, h3⟩ := erase_filter n2 h
        refine ⟨j + 1, h1, fun m z hm hz => ?_, by rw [List.eraseIdx_cons_succ, h3, List.filter_cons_of_pos (by simp [e])]⟩
        cases m with
        | zero => cases hz; exact e
        | succ m => exact h2 m z (by omega) hz
/-- the data of i turns -/
def DatOk (i : Nat) (dat : List Pr) : Prop := dat.length ≤ i + 1 ∧ ∀ h ∈ dat, (h.1.Nodup ∧ h.1.length ≤ i ∧ ∀ v ∈ h.1, v.length ≤ 20) ∧ (h.2.Nodup ∧ h.2.length ≤ i ∧ ∀ v ∈ h.2, v.length ≤ 20)
/-- what a turn is to do: the way, the value, the lists before and after, and what is told -/
inductive Out : Int → List Int → Pr → List Pr → V → List Pr → Prop
  | a0 {v : List Int} {h : Pr} {hs : List Pr} : v ∈ h.1 → Out 0 v h hs (.bl false) (h :: hs)
  | a1 {v : List Int} {h : Pr} {hs : List Pr} : v ∉ h.1 → Out 0 v h hs (.bl true) ((h.1 ++ [v], h.2) :: h :: hs)
  | r0 {v : List Int} {h : Pr} {hs : List Pr} : v ∉ h.1 → Out 1 v h hs (.str "no") (h :: hs)
  | r1 {v : List Int} {h : Pr} {hs : List Pr} : v ∈ h.1 → Out 1 v h hs .non ((h.1.filter fun u => decide (u ≠ v), h.2) :: h :: hs)
  | c0 {v : List Int} {h : Pr} {hs : List Pr} : v ∈ h.2 → Out 2 v h hs (.bl false) (h :: hs)
  | c1 {v : List Int} {h : Pr} {hs : List Pr} : v ∉ h.2 → Out 2 v h hs (.bl true) ((h.1, h.2 ++ [v]) :: h :: hs)
  | u0 {v : List Int} {h : Pr} {hs : List Pr} : v ∉ h.2 → Out 3 v h hs (.str "no") (h :: hs)
  | u1 {v : List Int} {h : Pr} {hs : List Pr} : v ∈ h.2 → Out 3 v h hs .non ((h.1, h.2.filter fun u => decide (u ≠ v)) :: h :: hs)
  | n0 {w : Int} {v : List Int} {h : Pr} : 3 < w → Out w v h [] (.bl false) [h]
  | n1 {w : Int} {v : List Int} {h h' : Pr} {hs : List Pr} : 3 < w → Out w v h (h' :: hs) (.bl true) (h' :: hs)
theorem nodup_snoc {v : List Int} {l : List (List Int)} (n : l.Nodup) (h : v ∉ l) : (l ++ [v]).Nodup := by
  rw [List.nodup_append]
  refine ⟨n, by simp, fun a ha b hb => ?_⟩
  rw [List.mem_singleton.mp hb]
  exact fun z => h (z ▸ ha)
theorem Out.ok {i : Nat} {w : Int} {v : List Int} {h : Pr} {hs dat' : List Pr} {dv : V} (o : Out w v h hs dv dat') (d : DatOk i (h :: hs)) (hv : v.length ≤ 20) : DatOk (i + 1) dat' := by
  obtain ⟨dl, d⟩ := d
  have up : ∀ x ∈ h :: hs, (x.1.Nodup ∧ x.1.length ≤ i + 1 ∧ ∀ v ∈ x.1, v.length ≤ 20) ∧ (x.2.Nodup ∧ x.2.length ≤ i + 1 ∧ ∀ v ∈ x.2, v.length ≤ 20) := fun x hx => by
    obtain ⟨⟨a, b, c⟩, ⟨e, f, g⟩⟩ := d x hx
    exact ⟨⟨a, by omega, c⟩, ⟨e, by omega, g⟩⟩
  have hh := d h List.mem_cons_self
  rw [List.length_cons] at dl
  have snoc : ∀ {l : List (List Int)}, (l.Nodup ∧ l.length ≤ i ∧ ∀ v ∈ l, v.length ≤ 20) → v ∉ l → (l ++ [v]).Nodup ∧ (l ++ [v]).length ≤ i + 1 ∧ ∀ u ∈ l ++ [v], u.length ≤ 20 := fun ⟨a, b, c⟩ n => by
    refine ⟨nodup_snoc a n, by rw [List.length_append]; show _ + 1 ≤ _; omega, fun u hu => ?_⟩
    rcases List.mem_append.mp hu with z | z
    · exact c u z
    · rw [List.mem_singleton.mp z]; exact hv
  have filt : ∀ {l : List (List Int)}, (l.Nodup ∧ l.length ≤ i ∧ ∀ v ∈ l, v.length ≤ 20) → (l.filter fun u => decide (u ≠ v)).Nodup ∧ (l.filter fun u => decide (u ≠ v)).length ≤ i + 1 ∧ ∀ u ∈ l.filter (fun u => decide (u ≠ v)), u.length ≤ 20 := fun ⟨a, b, c⟩ =>
    ⟨a.sublist List.filter_sublist, Nat.le_trans (List.length_filter_le _ _) (by omega), fun u hu => c u ((List.mem_filter.mp hu).1)⟩
  have two : ∀ {x : Pr}, ((x.1.Nodup ∧ x.1.length ≤ i + 1 ∧ ∀ v ∈ x.1, v.length ≤ 20) ∧ (x.2.Nodup ∧ x.2.length ≤ i + 1 ∧ ∀ v ∈ x.2, v.length ≤ 20)) → DatOk (i + 1) (x :: h :: hs) := fun hx =>
    ⟨by rw [List.length_cons, List.length_cons]; omega, fun y hy => by rcases List.mem_cons.mp hy with z | z; rw [z]; exact hx; exact up y z⟩
  have hu := up h List.mem_cons_self
  cases o with
  | a0 _ => exact ⟨by rw [List.length_cons]; omega, up⟩
  | a1 n => exact two ⟨snoc hh.1 n, hu.2⟩
  | r0 _ => exact ⟨by rw [List.length_cons]; omega, up⟩
  | r1 _ => exact two ⟨filt hh.1, hu.2⟩
  | c0 _ => exact ⟨by rw [List.length_cons]; omega, up⟩
  | c1 n => exact two ⟨hu.1, snoc hh.2 n⟩
  | u0 _ => exact ⟨by rw [List.length_cons]; omega, up⟩
  | u1 _ => exact two ⟨hu.1, filt hh.2⟩
  | n0 _ => exact ⟨by rw [List.length_cons]; omega, up⟩
  | n1 _ => exact ⟨by rw [List.length_cons] at dl ⊢; omega, fun y hy => up y (List.mem_cons_of_mem _ hy)⟩

theorem ref_erase : ∀ (rs : List Addr) (j : Nat), (rs.map V.ref).eraseIdx j = (rs.eraseIdx j).map V.ref
  | [], j => by simp
  | a :: r, 0 => by simp
  | a :: r, j + 1 => by
    have ih := ref_erase r j
    simp [ih]
theorem VL.erase {H : Hp} {a : Addr} {vs : List (List Int)} {rs : List Addr} (e : H a = some (.lst (rs.map V.ref))) (l : rs.length = vs.length) (g : ∀ (i : Nat) (r : Addr), rs[i]? = some r → ∃ v, vs[i]? = some v ∧ Vc H r v) (j : Nat) : VL (upd H a (.lst ((rs.map V.ref).eraseIdx j))) a (vs.eraseIdx j) := by
  have tups : ∀ t (u : List Int), Vc H t u → Vc (upd H a (.lst ((rs.map V.ref).eraseIdx j))) t u := fun t u ht => by
    unfold Vc at ht ⊢
    rw [upd_ne (ne_of ht e (fun z => nomatch z))]
    exact ht
  refine ⟨rs.eraseIdx j, by rw [upd_same, ref_erase], ?_, fun i r hr => ?_⟩
  · by_cases h : j < rs.length
    · rw [List.length_eraseIdx_of_lt h, List.length_eraseIdx_of_lt (by omega), l]
    · rw [List.eraseIdx_of_length_le (by omega), List.eraseIdx_of_length_le (by omega), l]
  · rw [List.getElem?_eraseIdx] at hr ⊢
    split at hr
    · rename_i h
      rw [if_pos h]
      obtain ⟨v, h1, h2⟩ := g i r hr
      exact ⟨v, h1, tups _ _ h2⟩
    · rename_i h
      rw [if_neg h]
      obtain ⟨v, h1, h2⟩ := g (i + 1) r hr
      exact ⟨v, h1, tups _ _ h2⟩
theorem Out.split {w : Nat} {v : List Int} {h : Pr} {hs dat' : List Pr} {dv : V} (w4 : w < 4) (o : Out (w : Int) v h hs dv dat') : flatV dv = true ∧ ((inV dv [.bl true, .non] = false ∧ Out (w : Int) v h hs dv (h :: hs)) ∨ (inV dv [.bl true, .non] = true ∧
    ((w = 0 ∧ dv = .bl true ∧ v ∉ h.1) ∨ (w = 1 ∧ dv = .non ∧ v ∈ h.1) ∨ (w = 2 ∧ dv = .bl true ∧ v ∉ h.2) ∨ (w = 3 ∧ dv = .non ∧ v ∈ h.2)))) := by
  generalize hw : (w : Int) = W at o
  cases o with
  | a0 n => exact ⟨rfl, .inl ⟨rfl, .a0 n⟩⟩
  | a1 n => exact ⟨rfl, .inr ⟨rfl, .inl ⟨by omega, rfl, n⟩⟩⟩
  | r0 n => exact ⟨rfl, .inl ⟨rfl, .r0 n⟩⟩
  | r1 n => exact ⟨rfl, .inr ⟨rfl, .inr (.inl ⟨by omega, rfl, n⟩)⟩⟩
  | c0 n => exact ⟨rfl, .inl ⟨rfl, .c0 n⟩⟩
  | c1 n => exact ⟨rfl, .inr ⟨rfl, .inr (.inr (.inl ⟨by omega, rfl, n⟩))⟩⟩
  | u0 n => exact ⟨rfl, .inl ⟨rfl, .u0 n⟩⟩
  | u1 n => exact ⟨rfl, .inr ⟨rfl, .inr (.inr (.inr ⟨by omega, rfl, n⟩))⟩⟩
  | n0 n => omega
  | n1 n => omega
section
variable {H H' : Hp} {p q b E bf fa ra C : Addr} {few rws : List (List Int)} {fr : List Fm} {dat : List Pr}
theorem LS.al (L : LS H p q b E bf fa ra few rws fr dat) (hb : H b ≠ none) (hE : H E ≠ none) : ∀ x ∈ Mu p b E bf fr, H x ≠ none := fun x hx => by
  rcases List.mem_cons.mp hx with z | hx
  · obtain ⟨xs, h⟩ := L.pl.pl.lst
    rw [z, h]; exact fun z => nomatch z
  rcases List.mem_cons.mp hx with z | hx
  · rw [z]; exact hb
  rcases List.mem_cons.mp hx with z | hx
  · rw [z]; exact hE
  rcases List.mem_cons.mp hx with z | hx
  · rw [z, L.be]; exact fun z => nomatch z
  · exact L.fk.al x hx
/-- what changes one of the law's lists, and keeps the other facts -/
theorem LS.keep3 {S : List Addr} (L : LS H p q b E bf fa ra few rws fr dat) (m : Mv S H H') (hS : ∀ x ∈ S, x ∈ bf :: mutL fr) : Plq H' p q ∧ VL H' fa few ∧ VL H' ra rws := by
  have n := L.ne
  obtain ⟨n1, n2⟩ := List.nodup_cons.mp L.nd
  have sM : ∀ x ∈ S, x ∈ Mu p b E bf fr := fun x hx => List.mem_cons_of_mem _ (List.mem_cons_of_mem _ (List.mem_cons_of_mem _ (hS x hx)))
  refine ⟨?_, L.fe.mv m fun z => L.fn (sM _ z), L.re.mv m fun z => L.rn (sM _ z)⟩
  obtain ⟨ns, a, b', c, d, e1, e2, ne⟩ := L.pl
  exact ⟨ns, a, b', c, d, m.o _ _ (fun z => n1 (List.mem_cons_of_mem _ (List.mem_cons_of_mem _ (hS _ z)))) e1, m.o _ _ (fun z => L.qn (sM _ z)) e2, ne⟩
theorem mutL_ne {l : Fm} : ∀ x ∈ mutL fr, x ∈ mutL (l :: fr) := fun x h => List.mem_cons_of_mem _ (List.mem_cons_of_mem _ h)
theorem mu_sub {f : Fm} : ∀ x ∈ Mu p b E bf fr, x ∈ Mu p b E bf (f :: fr) := fun x hx => by
  show x ∈ p :: b :: E :: bf :: (f.2.1 :: f.2.2 :: mutL fr)
  have hx : x ∈ p :: b :: E :: bf :: mutL fr := hx
  simp only [List.mem_cons] at hx ⊢
  rcases hx with h | h | h | h | h
  · exact .inl h
  · exact .inr (.inl h)
  · exact .inr (.inr (.inl h))
  · exact .inr (.inr (.inr (.inl h)))
  · exact .inr (.inr (.inr (.inr (.inr (.inr h)))))
/-- the last change is taken back -/
theorem LS.pop {f : Fm} {d : Pr} (L : LS H p q b E bf fa ra few rws (f :: fr) (d :: dat)) : LS (upd H bf (.lst ((fr.tail.map fun f => V.ref f.1).reverse))) p q b E bf fa ra few rws fr dat := by
  have m : Mv [bf] H (upd H bf (.lst ((fr.tail.map fun f => V.ref f.1).reverse))) := Mv.lst L.be
  obtain ⟨h1, h2, h3⟩ := L.keep3 m fun x hx => by rw [List.mem_singleton.mp hx]; exact List.mem_cons_self
  have sub : ∀ x ∈ Mu p b E bf fr, x ∈ Mu p b E bf (f :: fr) := fun x hx => by
    show x ∈ p :: b :: E :: bf :: (f.2.1 :: f.2.2 :: mutL fr)
    have hx : x ∈ p :: b :: E :: bf :: mutL fr := hx
    simp only [List.mem_cons] at hx ⊢
    rcases hx with h | h | h | h | h
    · exact .inl h
    · exact .inr (.inl h)
    · exact .inr (.inr (.inl h))
    · exact .inr (.inr (.inr (.inl h)))
    · exact .inr (.inr (.inr (.inr (.inr (.inr h)))))
  have nd : (Mu p b E bf fr).Nodup := by
    refine L.nd.sublist ?_
    show (p :: b :: E :: bf :: mutL fr).Sublist (p :: b :: E :: bf :: f.2.1 :: f.2.2 :: mutL fr)
    exact (((((List.sublist_cons_self f.2.2 (mutL fr)).cons f.2.1).cons₂ _).cons₂ _).cons₂ _).cons₂ _
  have n := L.ne
  have fk := L.fk
  cases fk with
  | cons e0 n0 v1 v2 fk =>
    have fk2 := fk.re (M' := Mu p b E bf fr) fun x hx => .inl (sub x hx)
    exact ⟨h1, nd, fun z => L.qn (sub _ z), h2, fun z => L.fn (sub _ z), h3, fun z => L.rn (sub _ z), upd_same, fk2.mv m (fun x hx => by rw [List.mem_singleton.mp hx]; exact mu_bf) fun x hx z => n.2.2.2.2.2.2.2.1 ((List.mem_singleton.mp z) ▸ mutL_ne x hx)⟩
/-- one list of the present pair changes -/
theorem LS.setA {l a c : Addr} {h : Pr} {xs xs' : List V} {us : List (List Int)} (L : LS H p q b E bf fa ra few rws ((l, a, c) :: fr) (h :: dat)) (ha : H a = some (.lst xs')) (hv : VL (upd H a (.lst xs)) a us) : LS (upd H a (.lst xs)) p q b E bf fa ra few rws ((l, a, c) :: fr) ((us, h.2) :: dat) ∧ Mv [a] H (upd H a (.lst xs)) := by
  have m : Mv [a] H (upd H a (.lst xs)) := Mv.lst ha
  obtain ⟨h1, h2, h3⟩ := L.keep3 m fun x hx => by rw [List.mem_singleton.mp hx]; exact List.mem_cons_of_mem _ List.mem_cons_self
  have n := L.ne
  have nd := n.2.2.2.2.2.2.2.2.2
  obtain ⟨na, nd2⟩ := List.nodup_cons.mp nd
  have fk := L.fk
  refine ⟨⟨h1, L.nd, L.qn, h2, L.fn, h3, L.rn, m.o _ _ (fun z => ?_) L.be, ?_⟩, m⟩
  · exact n.2.2.2.2.2.2.2.1 ((List.mem_singleton.mp z) ▸ List.mem_cons_self)
  · cases fk with
    | cons e0 n0 v1 v2 fk =>
      have sM : ∀ x ∈ [a], x ∈ Mu p b E bf ((l, a, c) :: fr) := fun x hx => by rw [List.mem_singleton.mp hx]; exact mu_m List.mem_cons_self
      refine .cons (m.o _ _ (fun z => n0 (sM _ z)) e0) n0 hv (v2.mv m fun z => na ((List.mem_singleton.mp z) ▸ List.mem_cons_self)) (fk.mv m sM fun x hx z => na ((List.mem_singleton.mp z) ▸ List.mem_cons_of_mem _ hx))
theorem LS.setC {l a c : Addr} {h : Pr} {xs xs' : List V} {us : List (List Int)} (L : LS H p q b E bf fa ra few rws ((l, a, c) :: fr) (h :: dat)) (ha : H c = some (.lst xs')) (hv : VL (upd H c (.lst xs)) c us) : LS (upd H c (.lst xs)) p q b E bf fa ra few rws ((l, a, c) :: fr) ((h.1, us) :: dat) ∧ Mv [c] H (upd H c (.lst xs)) := by
  have m : Mv [c] H (upd H c (.lst xs)) := Mv.lst ha
  obtain ⟨h1, h2, h3⟩ := L.keep3 m fun x hx => by rw [List.mem_singleton.mp hx]; exact List.mem_cons_of_mem _ (List.mem_cons_of_mem _ List.mem_cons_self)
  have n := L.ne
  have nd := n.2.2.2.2.2.2.2.2.2
  obtain ⟨na, nd2⟩ := List.nodup_cons.mp nd
  obtain ⟨nc, nd3⟩ := List.nodup_cons.mp nd2
  have fk := L.fk
  refine ⟨⟨h1, L.nd, L.qn, h2, L.fn, h3, L.rn, m.o _ _ (fun z => ?_) L.be, ?_⟩, m⟩
  · exact n.2.2.2.2.2.2.2.1 ((List.mem_singleton.mp z) ▸ List.mem_cons_of_mem _ List.mem_cons_self)
  · cases fk with
    | cons e0 n0 v1 v2 fk =>
      have sM : ∀ x ∈ [c], x ∈ Mu p b E bf ((l, a, c) :: fr) := fun x hx => by rw [List.mem_singleton.mp hx]; exact mu_m (List.mem_cons_of_mem _ List.mem_cons_self)
      refine .cons (m.o _ _ (fun z => n0 (sM _ z)) e0) n0 (v1.mv m fun z => na ((List.mem_singleton.mp z).symm ▸ List.mem_cons_self)) hv (fk.mv m sM fun x hx z => nc ((List.mem_singleton.mp z) ▸ hx))
theorem mu_push {l a c L' A' C' : Addr} : ∀ x ∈ Mu p b E bf ((l, a, c) :: (L', A', C') :: fr), x ∈ Mu p b E bf ((l, a, c) :: fr) ∨ x = A' ∨ x = C' := fun x hx => by
  have hx : x ∈ p :: b :: E :: bf :: a :: c :: A' :: C' :: mutL fr := hx
  show x ∈ p :: b :: E :: bf :: a :: c :: mutL fr ∨ _
  simp only [List.mem_cons] at hx ⊢
  rcases hx with h | h | h | h | h | h | h | h | h
  · exact .inl (.inl h)
  · exact .inl (.inr (.inl h))
  · exact .inl (.inr (.inr (.inl h)))
  · exact .inl (.inr (.inr (.inr (.inl h))))
  · exact .inl (.inr (.inr (.inr (.inr (.inl h)))))
  · exact .inl (.inr (.inr (.inr (.inr (.inr (.inl h))))))
  · exact .inr (.inl h)
  · exact .inr (.inr h)
  · exact .inl (.inr (.inr (.inr (.inr (.inr (.inr h))))))
/-- a copy of the present pair is kept -/
theorem LS.push {l a c L' A' C' : Addr} {h : Pr} (L : LS H p q b E bf fa ra few rws ((l, a, c) :: fr) (h :: dat)) (hb : H b ≠ none) (hE : H E ≠ none) (s : Same H H') (nA : H A' = none) (nC : H C' = none) (nL : H L' = none) (AC : A' ≠ C') (LA : L' ≠ A') (LC : L' ≠ C')
    (eL : H' L' = some (.lst [.ref A', .ref C'])) (vA : VL H' A' h.1) (vC : VL H' C' h.2) : LS (upd H' bf (.lst ((fr.map fun f => V.ref f.1).reverse ++ [.ref L']))) p q b E bf fa ra few rws ((l, a, c) :: (L', A', C') :: fr) (h :: h :: dat) ∧ Mv [bf] H' (upd H' bf (.lst ((fr.map fun f => V.ref f.1).reverse ++ [.ref L']))) := by
  have Ls := L.same s
  have al := L.al hb hE
  have m : Mv [bf] H' (upd H' bf (.lst ((fr.map fun f => V.ref f.1).reverse ++ [.ref L']))) := Mv.lst Ls.be
  obtain ⟨h1, h2, h3⟩ := Ls.keep3 m fun x hx => by rw [List.mem_singleton.mp hx]; exact List.mem_cons_self
  have fresh : ∀ x, H x = none → x ∉ Mu p b E bf ((l, a, c) :: fr) := fun x n z => al x z n
  have nA' := fresh A' nA
  have nC' := fresh C' nC
  have sub : ∀ x ∈ Mu p b E bf ((l, a, c) :: (L', A', C') :: fr), x ∈ Mu p b E bf ((l, a, c) :: fr) ∨ x = A' ∨ x = C' := mu_push
  have subX : ∀ x ∈ Mu p b E bf ((l, a, c) :: (L', A', C') :: fr), x ∈ Mu p b E bf ((l, a, c) :: fr) ∨ x = A' ∨ x = C' := fun x hx => by
    have hx : x ∈ p :: b :: E :: bf :: a :: c :: A' :: C' :: mutL fr := hx
    show x ∈ p :: b :: E :: bf :: a :: c :: mutL fr ∨ _
    simp only [List.mem_cons] at hx ⊢
    rcases hx with h | h | h | h | h | h | h | h | h
    · exact .inl (.inl h)
    · exact .inl (.inr (.inl h))
    · exact .inl (.inr (.inr (.inl h)))
    · exact .inl (.inr (.inr (.inr (.inl h))))
    · exact .inl (.inr (.inr (.inr (.inr (.inl h)))))
    · exact .inl (.inr (.inr (.inr (.inr (.inr (.inl h))))))
    · exact .inr (.inl h)
    · exact .inr (.inr h)
    · exact .inl (.inr (.inr (.inr (.inr (.inr (.inr h))))))
  have nd : (Mu p b E bf ((l, a, c) :: (L', A', C') :: fr)).Nodup := by
    have e : (Mu p b E bf ((l, a, c) :: (L', A', C') :: fr)) = [p, b, E, bf, a, c] ++ ([A', C'] ++ mutL fr) := rfl
    have n0 : ([p, b, E, bf, a, c] ++ mutL fr).Nodup := L.nd
    have a0 : A' ∉ [p, b, E, bf, a, c] ++ mutL fr := nA'
    have c0 : C' ∉ [p, b, E, bf, a, c] ++ mutL fr := nC'
    rw [e]
    rw [List.nodup_append] at n0 ⊢
    rw [List.mem_append, not_or] at a0 c0
    obtain ⟨u1, u2, u3⟩ := n0
    refine ⟨u1, ?_, fun x hx y hy => ?_⟩
    · show (A' :: C' :: mutL fr).Nodup
      rw [List.nodup_cons, List.nodup_cons]
      refine ⟨fun z => ?_, c0.2, u2⟩
      rcases List.mem_cons.mp z with z | z
      · exact AC z
      · exact a0.2 z
    · rcases List.mem_cons.mp hy with z | hy
      · intro w; exact a0.1 (by rw [← z, ← w]; exact hx)
      · rcases List.mem_cons.mp hy with z | hy
        · intro w; exact c0.1 (by rw [← z, ← w]; exact hx)
        · exact u3 x hx y hy
  have off : ∀ x, H x ≠ none → x ∉ Mu p b E bf ((l, a, c) :: fr) → x ∉ Mu p b E bf ((l, a, c) :: (L', A', C') :: fr) := fun x hx n z => by
    rcases sub x z with w | w | w
    · exact n w
    · rw [w] at hx; exact hx nA
    · rw [w] at hx; exact hx nC
  have qa : H q ≠ none := by
    obtain ⟨ns', a', b'', c', d', _, e2', _⟩ := L.pl
    rw [e2']; exact fun z => nomatch z
  have bfA : A' ≠ bf := fun z => nA' (by rw [z]; exact mu_bf)
  have bfC : C' ≠ bf := fun z => nC' (by rw [z]; exact mu_bf)
  have bfL : L' ≠ bf := fun z => fresh L' nL (by rw [z]; exact mu_bf)
  have lm : L' ∉ Mu p b E bf ((l, a, c) :: (L', A', C') :: fr) := fun z => by
    rcases sub L' z with w | w | w
    · exact fresh L' nL w
    · exact LA w
    · exact LC w
  refine ⟨⟨h1, nd, off q qa L.qn, h2, off fa L.fe.ne L.fn, h3, off ra L.re.ne L.rn, ?_, ?_⟩, m⟩
  · rw [upd_same]
    show some (HO.lst ((fr.map fun f => V.ref f.1).reverse ++ [.ref L'])) = some (HO.lst (((L', A', C') :: fr).map fun f => V.ref f.1).reverse)
    rw [List.map_cons, List.reverse_cons]
  · have n := L.ne
    have out : ∀ x ∈ mutL ((l, a, c) :: fr), x ∉ [bf] := fun x hx z => n.2.2.2.2.2.2.2.1 ((List.mem_singleton.mp z) ▸ hx)
    have sM : ∀ x ∈ [bf], x ∈ Mu p b E bf ((l, a, c) :: fr) := fun x hx => by rw [List.mem_singleton.mp hx]; exact mu_bf
    have fk0 := L.fk
    have fk := L.fk.re (M' := Mu p b E bf ((l, a, c) :: (L', A', C') :: fr)) fun x hx => (sub x hx).imp id fun w => by
      rcases w with w | w
      · rw [w]; exact nA
      · rw [w]; exact nC
    have fks : Frs H' (Mu p b E bf ((l, a, c) :: (L', A', C') :: fr)) ((l, a, c) :: fr) (h :: dat) := fk.mv (same_mv s (S := [])) (fun x h => nomatch h) fun x _ h => nomatch h
    have fkm := fks.mv m (fun x hx => by rw [List.mem_singleton.mp hx]; exact mu_bf) out
    cases fkm with
    | cons e0 n0 v1 v2 fk2 =>
      exact .cons e0 n0 v1 v2 (.cons (m.o _ _ (fun z => bfL (List.mem_singleton.mp z)) eL) lm (vA.mv m fun z => bfA (List.mem_singleton.mp z)) (vC.mv m fun z => bfC (List.mem_singleton.mp z)) fk2)
end

section
variable {H H' : Hp} {p q b E bf fa ra C : Addr} {few rws : List (List Int)} {fr : List Fm} {dat : List Pr}
theorem call_out {Q : VK} {W : XK} {M : List Addr} {w : Nat} {x dv : V} {v : List Int} {ps is : List (List Int)} {hist : List Pr} (o : Out (w : Int) v (ps, is) hist dv dat) (B : BS C H M b E ps is hist) (h1 : ps.length ≤ 900) (h2 : is.length ≤ 900) (h3 : hist.length ≤ 900) (hx : w < 4 → ∃ r, x = .ref r ∧ Vc H r v)
    (fin : ∀ H' ps' is' hist', BS C H' M b E ps' is' hist' → Mv [b, E] H H' → dat = (ps', is') :: hist' → Q dv H') : spCall C [.ref b, .int (w : Int), x] H Q W := by
  refine ⟨b, E, (w : Int), x, M, ps, is, hist, rfl, B, h1, h2, h3, ?_⟩
  generalize hw : (w : Int) = W at o
  cases o with
  | a0 n =>
    obtain ⟨r, rfl, hv⟩ := hx (by omega)
    exact .inl ⟨rfl, r, v, rfl, hv, fun _ => fin H ps is hist B Mv.refl rfl, fun z => absurd n z⟩
  | a1 n =>
    obtain ⟨r, rfl, hv⟩ := hx (by omega)
    exact .inl ⟨rfl, r, v, rfl, hv, fun z => absurd z n, fun _ H' B' m => fin H' _ _ _ B' m rfl⟩
  | r0 n =>
    obtain ⟨r, rfl, hv⟩ := hx (by omega)
    exact .inr (.inl ⟨rfl, r, v, rfl, hv, fun _ => fin H ps is hist B Mv.refl rfl, fun z => absurd z n⟩)
  | r1 n =>
    obtain ⟨r, rfl, hv⟩ := hx (by omega)
    exact .inr (.inl ⟨rfl, r, v, rfl, hv, fun z => absurd n z, fun _ H' B' m => fin H' _ _ _ B' m rfl⟩)
  | c0 n =>
    obtain ⟨r, rfl, hv⟩ := hx (by omega)
    exact .inr (.inr (.inl ⟨rfl, r, v, rfl, hv, fun _ => fin H ps is hist B Mv.refl rfl, fun z => absurd n z⟩))
  | c1 n =>
    obtain ⟨r, rfl, hv⟩ := hx (by omega)
    exact .inr (.inr (.inl ⟨rfl, r, v, rfl, hv, fun z => absurd z n, fun _ H' B' m => fin H' _ _ _ B' m rfl⟩))
  | u0 n =>
    obtain ⟨r, rfl, hv⟩ := hx (by omega)
    exact .inr (.inr (.inr (.inl ⟨rfl, r, v, rfl, hv, fun _ => fin H ps is hist B Mv.refl rfl, fun z => absurd z n⟩)))
  | u1 n =>
    obtain ⟨r, rfl, hv⟩ := hx (by omega)
    exact .inr (.inr (.inr (.inl ⟨rfl, r, v, rfl, hv, fun z => absurd n z, fun _ H' B' m => fin H' _ _ _ B' m rfl⟩)))
  | n0 n => exact .inr (.inr (.inr (.inr ⟨n, fun _ H' s => fin H' _ _ _ (B.same s) (same_mv s) rfl, fun h hs e => nomatch e⟩)))
  | n1 n => exact .inr (.inr (.inr (.inr ⟨n, (fun e => nomatch e), fun h hs e H' B' m => by
      obtain ⟨rfl, rfl⟩ := List.cons.inj e
      exact fin H' _ _ _ B' m rfl⟩)))
theorem vl_alike {a c : Addr} {vs : List (List Int)} (n : Nat) (ha : VL H a vs) (hc : VL H c vs) (hl : vs.length ≤ 1000) (hv : ∀ v ∈ vs, v.length ≤ 1000) : Alike H (n + 2) (.ref a) (.ref c) := by
  obtain ⟨rs, e, l, g⟩ := ha
  obtain ⟨ts, e', l', g'⟩ := hc
  refine .lst e e' (by rw [List.length_map, List.length_map]; omega) (by rw [List.length_map]; omega) fun i x y h1 h2 => ?_
  obtain ⟨r, h3, rfl⟩ := ref_get h1
  obtain ⟨t, h4, rfl⟩ := ref_get h2
  obtain ⟨v, k1, k2⟩ := g i r h3
  obtain ⟨v', k3, k4⟩ := g' i t h4
  have := Option.some.inj (k1.symm.trans k3)
  subst this
  exact vc_alike n k2 k4 (hv v (List.mem_of_getElem? k1))
theorem Out.flat {w : Nat} {v : List Int} {h : Pr} {hs dat' : List Pr} {dv : V} (o : Out (w : Int) v h hs dv dat') (n : Nat) (H : Hp) : Alike H n dv dv := by
  cases o with
  | a0 _ => exact .bl _ _
  | a1 _ => exact .bl _ _
  | r0 _ => exact .str _ _
  | r1 _ => exact .non _
  | c0 _ => exact .bl _ _
  | c1 _ => exact .bl _ _
  | u0 _ => exact .str _ _
  | u1 _ => exact .non _
  | n0 _ => exact .bl _ _
  | n1 _ => exact .bl _ _
end

/-! ### the law -/
def PtV (n : Nat) (H : Hp) (v : List Int) (r : Addr) : Prop := Vc H r v ∧ v.length = n
theorem drR_vl {n i : Nat} {p D : Addr} {H H' : Hp} (h : DrR (PtV n) p H D i H') : ∃ vs : List (List Int), VL H' D vs ∧ vs.length = i ∧ ∀ v ∈ vs, v.length = n := by
  obtain ⟨_, _, rs, fs, e, l1, l2, g⟩ := h
  refine ⟨fs, ⟨rs, e, by omega, fun j r hr => ?_⟩, l2, fun v hv => ?_⟩
  · have hj := lt_of_get hr
    have hf : fs[j]? = some (fs[j]'(by omega)) := List.getElem?_eq_getElem (by omega)
    exact ⟨_, hf, (g j r _ hr hf).1.1⟩
  · obtain ⟨j, hj⟩ := List.getElem?_of_mem hv
    have hl := lt_of_get hj
    have hr : rs[j]? = some (rs[j]'(by omega)) := List.getElem?_eq_getElem (by omega)
    exact (g j _ v hr hj).1.2
theorem drR_kp {n i : Nat} {p D q0 : Addr} {H H' : Hp} (h : DrR (PtV n) p H D i H') (hq : Plq H p q0) : Kp p H H' ∧ Plq H' p q0 ∧ q0 ≠ D := by
  obtain ⟨⟨q, h1, h2, h3⟩, K1, _⟩ := h
  have e := hd_inj hq.hd h1.hd
  subst e
  refine ⟨⟨K1, fun q5 h5 => ?_⟩, h2, h3⟩
  have := hd_inj h1.hd h5
  subst this
  exact h2.hd
abbrev s_law : Stmt := topS 58
theorem sc_law : FnScope ["script", "pool", "d", "builder", "few", "rows", "lists", "before", "turn", "way", "value", "there", "due", "k"] ["script"] (defScope s_law) := ⟨rfl, rfl, rfl, by decide +kernel, rfl, by decide +kernel, by decide +kernel⟩
theorem half_lo {w : Nat} (h : w < 2) : ((w : Int).fdiv 2) = ((0 : Nat) : Int) := by
  match w, h with
  | 0, _ => rfl
  | 1, _ => rfl
  | w + 2, h => exact absurd h (by omega)
theorem half_hi {w : Nat} (h : 2 ≤ w) (h4 : w < 4) : ((w : Int).fdiv 2) = ((1 : Nat) : Int) := by
  match w, h, h4 with
  | 2, _, _ => rfl
  | 3, _, _ => rfl
  | 0, h, _ => exact absurd h (by omega)
  | 1, h, _ => exact absurd h (by omega)
  | w + 4, _, h => exact absurd h (by omega)
def W61 (C sa p q0 b E0 bf fa ra : Addr) (dn : Nat) (few rws : List (List Int)) (i w : Nat) (R : List Int → List (List Int) → List (List Int) → List Pr → V → List Pr → Prop) (σ : L2.St) (H' : Hp) : Prop :=
  ∃ (l0 a c : Addr) (rest : List Fm) (d0 : Pr) (ds : List Pr) (ps is : List (List Int)) (hist : List Pr) (x : V) (v : List Int) (dv : V) (y8 y11 : Option V), σ = [some (.ref sa), some (.ref p), some (.int ((dn + 1 : Nat) : Int)), some (.ref b), some (.ref fa), some (.ref ra), some (.ref l0), some (.ref bf), y8, some (.int (w : Int)), some x, y11, some dv, none] ∧
    LS H' p q0 b E0 bf fa ra few rws ((l0, a, c) :: rest) (d0 :: ds) ∧ BS C H' (Mu p b E0 bf ((l0, a, c) :: rest)) b E0 ps is hist ∧ DatOk i ((ps, is) :: hist) ∧ v.length ≤ 20 ∧ (w < 4 → ∃ r, x = .ref r ∧ Vc H' r v) ∧ R v ps is hist dv (d0 :: ds)
/-- lists[way // 2] -/
theorem side {w : Nat} {a c : Addr} (h : w < 4) : ∃ y : Addr, atI ([V.ref a, .ref c] : List V) ((w : Int).fdiv 2) = some (.ref y) ∧ ((w < 2 ∧ y = a) ∨ (2 ≤ w ∧ y = c)) := by
  by_cases h2 : w < 2
  · exact ⟨a, by rw [half_lo h2]; exact atI_nat (j := 0) rfl, .inl ⟨h2, rfl⟩⟩
  · exact ⟨c, by rw [half_hi (by omega) h]; exact atI_nat (j := 1) rfl, .inr ⟨by omega, rfl⟩⟩
def W60 (C sa p q0 b E0 bf fa ra : Addr) (dn : Nat) (few rws : List (List Int)) (i : Nat) (R : Addr → List (List Int) → List (List Int) → List Pr → Option V → Option V → Option V → Option V → Option V → Hp → Prop) (σ : L2.St) (H' : Hp) : Prop :=
  ∃ (l0 a c : Addr) (rest : List Fm) (ps is : List (List Int)) (hist : List Pr) (y8 y9 y10 y11 y12 : Option V), σ = [some (.ref sa), some (.ref p), some (.int ((dn + 1 : Nat) : Int)), some (.ref b), some (.ref fa), some (.ref ra), some (.ref l0), some (.ref bf), y8, y9, y10, y11, y12, none] ∧
    LS H' p q0 b E0 bf fa ra few rws ((l0, a, c) :: rest) ((ps, is) :: hist) ∧ BS C H' (Mu p b E0 bf ((l0, a, c) :: rest)) b E0 ps is hist ∧ DatOk i ((ps, is) :: hist) ∧ R l0 ps is hist y8 y9 y10 y11 y12 H'
theorem menu {H : Hp} {fa ra z1 z2 : Addr} {few rws : List (List Int)} {n w : Nat} (hw : w < 6) (vf : VL H fa few) (lf : few.length = 3) (nf : ∀ v ∈ few, v.length = n) (vr : VL H ra rws) (lr : rws.length = 3) (nr : ∀ v ∈ rws, v.length = n) (h1 : H z1 = some (.lst [.int 0])) (h2 : H z2 = some (.lst [.int 0])) :
    ∃ x : Addr, ([V.ref fa, .ref fa, .ref ra, .ref ra, .ref z1, .ref z2] : List V)[w]? = some (.ref x) ∧ ((w < 4 ∧ ∃ vs, VL H x vs ∧ vs.length = 3 ∧ ∀ v ∈ vs, v.length = n) ∨ (4 ≤ w ∧ H x = some (.lst [.int 0]))) := by
  match w, hw with
  | 0, _ => exact ⟨_, rfl, .inl ⟨by decide, few, vf, lf, nf⟩⟩
  | 1, _ => exact ⟨_, rfl, .inl ⟨by decide, few, vf, lf, nf⟩⟩
  | 2, _ => exact ⟨_, rfl, .inl ⟨by decide, rws, vr, lr, nr⟩⟩
  | 3, _ => exact ⟨_, rfl, .inl ⟨by decide, rws, vr, lr, nr⟩⟩
  | 4, _ => exact ⟨_, rfl, .inr ⟨by decide, h1⟩⟩
  | 5, _ => exact ⟨_, rfl, .inr ⟨by decide, h2⟩⟩
  | w + 6, h => exact absurd h (by omega)
def spLaw (K : PySem.W.Frag) : Sp := fun vs H Q _ => ∃ (a : Addr) (ns : List Int), vs = [.ref a] ∧ SqL K H a (ns.map V.int) ∧ ∀ H', Q (.bl true) H'
theorem ok_law {f C : Addr} {fd : FuncData} {k : Nat} (F : Fun K "law" "law" s_law f fd) (Z : Glb mg) 
    (C_law_pool : Call P w K mg base (k + 1) "_law_pool" ["script"] (spPool K))
    (C_law_draw : Call P w K mg base (k + 1) "_law_draw" ["pool", "many"] spDraw)
    (C_law_same : Call P w K mg base (k + 1) "_law_same" ["actual", "due"] (spSame 3))
    (C_law_point : Call P w K mg base (k + 1) "_law_point" ["pool", "d", "most"] spPoint)
    (C_law_some_row : Call P w K mg base (k + 1) "_law_some_row" ["pool", "d"] spSomeRow)
    (C_law_call : Call P w K mg base (k + 1) "_law_call" ["builder", "way", "value"] (spCall C))
    (KBuilder : KMake P w K mg base k C "Builder" ["self", "d"] (spInit C))
    (Mpoints : MCall P w K mg base (k + 1) C "points" ["self"] (sp_points C))
    (Minequalities : MCall P w K mg base (k + 1) C "inequalities" ["self"] (sp_inequalities C)) : FnOk P w K mg base CX0 (k + 2) f fd ["script"] (spLaw K) := by
  refine F.ok sc_law (fun vs H Q E h => ?_) (fun cdv A outer s H vs Q E hr h => ?_)
  · obtain ⟨a, ns, rfl, _⟩ := h
    rfl
  · obtain ⟨sa, ns, rfl, hS, q⟩ := h
    refine ⟨_, (pss_cons (ps_set (i := 1) sc_law.nd rfl (.inr rfl) (pe_call C_law_pool.G hr (by rfl) C_law_pool.m C_law_pool.kp C_law_pool.b .nil pass0 (pa_cons (pv 0) pa_nil)))
      (pss_cons (ps_set (i := 2) sc_law.nd rfl (.inr rfl) (pe_op op_add pe_int (pe_call C_law_draw.G hr (by rfl) C_law_draw.m C_law_draw.kp C_law_draw.b .nil pass0 (pa_cons (pv 1) (pa_cons pe_int pa_nil)))))
      (pss_cons (ps_set (i := 3) sc_law.nd rfl (.inl rfl) (pe_make KBuilder.M KBuilder.G hr (by rfl) KBuilder.mg KBuilder.b .nil pass0 (pa_cons (pv 2) pa_nil)))
      (pss_cut (ps_setLc (i := 4) (own := [("k", 13)]) (g := gName 13) (tt := tYes) (by rfl) sc_law.nd rfl rfl (sw_true rfl rfl rfl (by decide +kernel)) (pi_range1 rfl Z.m_range (pa_cons pe_int pa_nil)) (blkOk_by (own := [("k", 13)]) (N := ["script", "pool", "d", "builder", "few", "rows", "lists", "before", "turn", "way", "value", "there", "due", "k"]) (sc := defScope s_law) (by first | decide +kernel | kernel_rfl)) (fun _ _ _ _ _ => (pg_name (i := 13) sc_law.nd rfl (.inl rfl))) (fun _ _ _ _ _ => pts_nil) (fun _ _ _ _ _ => (pe_call C_law_point.G hr (by rfl) C_law_point.m C_law_point.kp C_law_point.b .nil pass0 (pa_cons (pv 1) (pa_cons (pv 2) (pa_cons pe_int pa_nil))))))
      (pss_cut (ps_setLc (i := 5) (own := [("k", 13)]) (g := gName 13) (tt := tYes) (by rfl) sc_law.nd rfl rfl (sw_true rfl rfl rfl (by decide +kernel)) (pi_range1 rfl Z.m_range (pa_cons pe_int pa_nil)) (blkOk_by (own := [("k", 13)]) (N := ["script", "pool", "d", "builder", "few", "rows", "lists", "before", "turn", "way", "value", "there", "due", "k"]) (sc := defScope s_law) (by first | decide +kernel | kernel_rfl)) (fun _ _ _ _ _ => (pg_name (i := 13) sc_law.nd rfl (.inl rfl))) (fun _ _ _ _ _ => pts_nil) (fun _ _ _ _ _ => (pe_call C_law_some_row.G hr (by rfl) C_law_some_row.m C_law_some_row.kp C_law_some_row.b .nil pass0 (pa_cons (pv 1) (pa_cons (pv 2) pa_nil)))))
      (pss_cons (ps_set (i := 6) sc_law.nd rfl (.inl rfl) (pe_lst (pa_cons (pe_lst pa_nil) (pa_cons (pe_lst pa_nil) pa_nil))))
      (pss_cons (ps_set (i := 7) sc_law.nd rfl (.inl rfl) (pe_lst pa_nil))
      (pss_cut (ps_for PassesOwn.never rfl (pi_range1 rfl Z.m_range (pa_cons (pe_op op_add pe_int (pe_call C_law_draw.G hr (by rfl) C_law_draw.m C_law_draw.kp C_law_draw.b .nil pass0 (pa_cons (pv 1) (pa_cons pe_int pa_nil)))) pa_nil)) (pg_name (i := 8) sc_law.nd rfl (.inl rfl)) (pss_cons (ps_set (i := 9) sc_law.nd rfl (.inl rfl) (pe_call C_law_draw.G hr (by rfl) C_law_draw.m C_law_draw.kp C_law_draw.b .nil pass0 (pa_cons (pv 1) (pa_cons pe_int pa_nil))))
      (pss_cut (ps_set (i := 10) sc_law.nd rfl (.inl rfl) (pe_ix (r := rIxL K) ix_list (pe_ix (r := rIxL K) ix_list (pe_lst (pa_cons (pv 4) (pa_cons (pv 4) (pa_cons (pv 5) (pa_cons (pv 5) (pa_cons (pe_lst (pa_cons pe_int pa_nil)) (pa_cons (pe_lst (pa_cons pe_int pa_nil)) pa_nil))))))) (pv 9) (fun _ _ => rfl)) (pe_op op_mulW (pe_call C_law_draw.G hr (by rfl) C_law_draw.m C_law_draw.kp C_law_draw.b .nil pass0 (pa_cons (pv 1) (pa_cons pe_int pa_nil))) (pe_callTy call_int1 (by rfl) Z.m_int (by decide +kernel) (pa_cons (pe_cmpR op_lt (pv 9) pe_int (nomark _)) pa_nil))) (fun _ _ => rfl)))
      (pss_cut (ps_set (i := 11) sc_law.nd rfl (.inl rfl) (pe_and (pe_cmpR op_lt (pv 9) pe_int (nomark _)) (pe_one (pe_cmpR (r := rInD K) (op_inD (units65 hr)) (pv 10) (pe_ix (r := rIxL K) ix_list (pv 6) (pe_op op_fdivN (pv 9) pe_int) (fun _ _ => rfl)) (by rfl)))))
      (pss_cons (ps_set (i := 12) sc_law.nd rfl (.inl rfl) pe_bl)
      (pss_cut (ps_if (pt_cmpR op_gt (pv 9) pe_int (nomark _)) (pss_cons (ps_set (i := 12) sc_law.nd rfl (.inl rfl) (pe_cmpR (r := rNeD K) (op_neD hr.units) (pv 7) (pe_lst pa_nil) (nomark _)))
      (pss_one (ps_if (pt_truth (pv 12) (fun _ => rfl)) (pss_one (ps_set (i := 6) sc_law.nd rfl (.inl rfl) (pe_bm0 PySem.F.plainAttrs_list PySem.F.slot_list_pop PySem.F.type_list_pop mt_pop (pv 7)))) pss_nil))) (pss_one (ps_if (pt_cmpR (r := rIn K false) op_in_seq (pv 9) (pe_tup (pa_cons pe_int (pa_cons pe_int pa_nil))) (by rfl)) (pss_one (ps_set (i := 12) sc_law.nd rfl (.inl rfl) (pe_not (pv 11)))) (pss_one (ps_set (i := 12) sc_law.nd rfl (.inl rfl) (pe_ifExp (pt_val (pv 11)) pe_non pe_str))))))
      (pss_cut (ps_if (PW.pt (pw_and (pt_cmpR op_lt (pv 9) pe_int (nomark _)) (pw_and1 (pt_cmpR (r := rIn K false) op_in_seq (pv 12) (pe_tup (pa_cons pe_bl (pa_cons pe_non pa_nil))) (by rfl))))) (pss_cons (ps_expr (pe_bm PySem.F.plainAttrs_list PySem.F.slot_list_append PySem.F.type_list_append mt_append (pv 7) (pa_cons (pe_lst (pa_cons (pe_callTy call_list_of (by rfl) Z.m_list (by decide +kernel) (pa_cons (pe_ix (r := rIxL K) ix_list (pv 6) pe_int (fun _ _ => rfl)) pa_nil)) (pa_cons (pe_callTy call_list_of (by rfl) Z.m_list (by decide +kernel) (pa_cons (pe_ix (r := rIxL K) ix_list (pv 6) pe_int (fun _ _ => rfl)) pa_nil)) pa_nil))) pa_nil)))
      (pss_one (ps_if (pt_truth (pv 12) (fun _ => rfl)) (pss_one (ps_expr (pe_bm PySem.F.plainAttrs_list PySem.F.slot_list_append PySem.F.type_list_append mt_append (pe_ix (r := rIxL K) ix_list (pv 6) (pe_op op_fdivN (pv 9) pe_int) (fun _ _ => rfl)) (pa_cons (pv 10) pa_nil)))) (pss_one (ps_expr (pe_bm PySem.F.plainAttrs_list PySem.F.slot_list_remove PySem.F.type_list_remove (HwX.mt_removeD (units65 hr)) (pe_ix (r := rIxL K) ix_list (pv 6) (pe_op op_fdivN (pv 9) pe_int) (fun _ _ => rfl)) (pa_cons (pv 10) pa_nil))))))) pss_nil)
      (pss_cons (ps_if (pt_not (pt_val (pe_call C_law_same.G hr (by rfl) C_law_same.m C_law_same.kp C_law_same.b .nil pass0 (pa_cons (pe_call C_law_call.G hr (by rfl) C_law_call.m C_law_call.kp C_law_call.b .nil pass0 (pa_cons (pv 3) (pa_cons (pv 9) (pa_cons (pv 10) pa_nil)))) (pa_cons (pv 12) pa_nil))))) (pss_one ps_never) pss_nil)
      (pss_cons (ps_expr (pe_bm PySem.F.plainAttrs_list PySem.F.slot_list_append PySem.F.type_list_append mt_append (pe_meth0 (pv 3) Mpoints.cl Mpoints.m Mpoints.G hr Mpoints.b .nil pass0) (pa_cons pe_int pa_nil)))
      (pss_one (ps_if (pt_not (pt_val (pe_call C_law_same.G hr (by rfl) C_law_same.m C_law_same.kp C_law_same.b .nil pass0 (pa_cons (pe_lst (pa_cons (pe_meth0 (pv 3) Mpoints.cl Mpoints.m Mpoints.G hr Mpoints.b .nil pass0) (pa_cons (pe_meth0 (pv 3) Minequalities.cl Minequalities.m Minequalities.G hr Minequalities.b .nil pass0) pa_nil))) (pa_cons (pv 6) pa_nil))))) (pss_one ps_never) pss_nil)))))))))))
      (pss_one (ps_ret pe_bl)))))))))), ?_⟩
    refine ⟨_, rfl, sa, ns, rfl, hS, fun H1 p s1 np hP1 => ?_⟩
    -- d
    refine ⟨_, rfl, p, _, rfl, by decide, by decide, hP1, fun v0 H2 l0 u0 P2 B2 => ⟨_, _, rfl, rfl, ?_⟩⟩
    obtain ⟨dn, rfl⟩ := Int.eq_ofNat_of_zero_le l0
    have ed : (1 + (dn : Int)) = ((dn + 1 : Nat) : Int) := by omega
    show gName 2 (V.int (1 + (dn : Int))) _ _ _
    rw [ed]
    have d4 : dn + 1 ≤ 4 := by omega
    -- the builder
    refine ⟨_, rfl, fun b dx nb ndx nex => ⟨b, dx, _, rfl, upd_same, fun H3 P0 I0 E0 hb hP hI hE nP nI nE PE IE m3 => ⟨rfl, ?_⟩⟩⟩
    have sb : Same H2 (upd (upd H2 dx (.own b)) b (.ins C dx [])) := fun x o e => by
      rw [upd_ne (ne_of_none e nb), upd_ne (ne_of_none e ndx)]
      exact e
    generalize upd (upd H2 dx (.own b)) b (.ins C dx []) = Hb at *
    obtain ⟨q0, hq2⟩ := P2.q
    have plq : ∀ {H' : Hp}, Mv [b] Hb H' → Plq H' p q0 := fun {H'} m => by
      obtain ⟨ns, a, b', c, d, e1, e2, ne⟩ := hq2.same sb
      have pb : p ≠ b := by
        obtain ⟨ns', a', b'', c', d', e1', _⟩ := hq2
        exact ne_of_none e1' nb
      have qb : q0 ≠ b := by
        obtain ⟨ns', a', b'', c', d', _, e2', _⟩ := hq2
        exact ne_of_none e2' nb
      exact ⟨ns, a, b', c, d, m.o _ _ (fun z => pb (List.mem_singleton.mp z)) e1, m.o _ _ (fun z => qb (List.mem_singleton.mp z)) e2, ne⟩
    have hq3 := plq m3
    obtain ⟨xp, hpl⟩ := (P2.same sb).lst
    have pE : p ≠ E0 := ne_of_none hpl nE
    have pb : p ≠ b := by
      obtain ⟨xs, h⟩ := P2.lst
      exact ne_of_none h nb
    have bE : b ≠ E0 := ne_of hb hE (fun z => nomatch z)
    have qE : q0 ≠ E0 := by
      obtain ⟨ns', a', b'', c', d', _, e2', _⟩ := hq2.same sb
      exact ne_of_none e2' nE
    have qb : q0 ≠ b := by
      obtain ⟨ns', a', b'', c', d', _, e2', _⟩ := hq3
      exact ne_of e2' hb (fun z => nomatch z)
    have qp : q0 ≠ p := hq3.choose_spec.choose_spec.choose_spec.choose_spec.choose_spec.2.2
    have Bs : BS C H3 [p, b, E0] b E0 [] [] [] := by
      refine ⟨⟨dx, _, P0, I0, [], hb, ⟨[], hP, rfl, fun i r h => no_get h⟩, fun z => ?_, ⟨[], hI, rfl, fun i r h => no_get h⟩, fun z => ?_, hE, .nil⟩, fun a ha => ?_, by simp, by simp⟩
      · rcases List.mem_cons.mp z with y | z
        · rw [y, hpl] at nP; cases nP
        · rcases List.mem_cons.mp z with y | z
          · rw [y, hb] at hP; cases hP
          · exact PE (List.mem_singleton.mp z)
      · rcases List.mem_cons.mp z with y | z
        · rw [y, hpl] at nI; cases nI
        · rcases List.mem_cons.mp z with y | z
          · rw [y, hb] at hI; cases hI
          · exact IE (List.mem_singleton.mp z)
      · rcases List.mem_cons.mp ha with y | z
        · obtain ⟨xs, h⟩ := hq3.pl.lst
          rw [y, h]; exact fun z => nomatch z
        · rcases List.mem_cons.mp z with y | z
          · rw [y, hb]; exact fun z => nomatch z
          · rw [List.mem_singleton.mp z, hE]; exact fun z => nomatch z
    have moveB : ∀ {H' H'' : Hp}, BS C H' [p, b, E0] b E0 [] [] [] → Pl H' p → Kp p H' H'' → Pl H'' p → BS C H'' [p, b, E0] b E0 [] [] [] := fun B hP' k hP'' => by
      have m := k.mv hP' hP''
      exact B.re m (fun x h => by rw [List.mem_singleton.mp h]; simp) (fun z => pb (List.mem_singleton.mp z).symm) (fun z => pE (List.mem_singleton.mp z).symm) (fun x h => .inl h) (fun a h => m.n a (B.al a h)) (by simp) (by simp)
    -- few
    refine ⟨fun σ H' => ∃ (fa : Addr) (few : List (List Int)), σ = [some (.ref sa), some (.ref p), some (.int ((dn + 1 : Nat) : Int)), some (.ref b), some (.ref fa), none, none, none, none, none, none, none, none, none] ∧ VL H' fa few ∧ few.length = 3 ∧ (∀ v ∈ few, v.length = dn + 2) ∧ Plq H' p q0 ∧ BS C H' [p, b, E0] b E0 [] [] [] ∧ fa ∉ [p, b, E0] ∧ fa ≠ q0, ?_, ?_⟩
    · refine ⟨3, rfl, by decide, by decide, fun D nD => ?_⟩
      refine lc_range (lo := 0) (n := 3) (DrR (PtV (dn + 2)) p H3 D) (drR0 hq3.pl nD) (fun i H4 hi hW => ?_) (fun H4 hW => ?_)
      · refine ⟨rfl, ?_⟩
        unfold tYes
        refine iteT ?_
        refine ⟨_, rfl, _, rfl, p, dn + 1, 5, rfl, by omega, by decide, by decide, hW.pt, fun H5 r ns5 P5 K5 V5 L5 S5 W5 G5 => ?_⟩
        obtain ⟨acc, h1, h2, h3⟩ := drR_step (R := PtV (dn + 2)) (fun A1 A2 f r h g => ⟨h _ g.1, g.2⟩) nD hq3.pl hW K5 P5 V5 (f := ns5) ⟨V5, L5⟩
        exact ⟨acc, h1, small1000 (by omega), h3⟩
      · obtain ⟨few, vf, lf, ln⟩ := drR_vl hW
        obtain ⟨K4, hq4, qD⟩ := drR_kp hW hq3
        refine ⟨D, few, rfl, vf, lf, ln, hq4, moveB Bs hq3.pl K4 hq4.pl, fun z => ?_, qD.symm⟩
        have : ∃ o, H3 D = some o := by
          rcases List.mem_cons.mp z with y | z
          · obtain ⟨xs, h⟩ := hq3.pl.lst
            exact ⟨_, by rw [y]; exact h⟩
          · rcases List.mem_cons.mp z with y | z
            · exact ⟨_, by rw [y]; exact hb⟩
            · exact ⟨_, by rw [List.mem_singleton.mp z]; exact hE⟩
        obtain ⟨o, h⟩ := this
        rw [nD] at h; cases h
    · intro σ H4 hW
      obtain ⟨fa, few, rfl, vf, lf, nf, hq4, B4, fm, fq⟩ := hW
      -- rows
      refine ⟨fun σ H' => ∃ (ra : Addr) (rws : List (List Int)), σ = [some (.ref sa), some (.ref p), some (.int ((dn + 1 : Nat) : Int)), some (.ref b), some (.ref fa), some (.ref ra), none, none, none, none, none, none, none, none] ∧ VL H' fa few ∧ VL H' ra rws ∧ rws.length = 3 ∧ (∀ v ∈ rws, v.length = dn + 2) ∧ Plq H' p q0 ∧ BS C H' [p, b, E0] b E0 [] [] [] ∧ ra ∉ [p, b, E0] ∧ ra ≠ q0, ?_, ?_⟩
      · refine ⟨3, rfl, by decide, by decide, fun D nD => ?_⟩
        refine lc_range (lo := 0) (n := 3) (DrR (PtV (dn + 2)) p H4 D) (drR0 hq4.pl nD) (fun i H5 hi hW => ?_) (fun H5 hW => ?_)
        · refine ⟨rfl, ?_⟩
          unfold tYes
          refine iteT ?_
          refine ⟨_, rfl, _, rfl, p, dn + 1, rfl, by omega, by omega, hW.pt, fun H6 r ns6 P6 K6 V6 L6 => ?_⟩
          obtain ⟨acc, h1, h2, h3⟩ := drR_step (R := PtV (dn + 2)) (fun A1 A2 f r h g => ⟨h _ g.1, g.2⟩) nD hq4.pl hW K6 P6 V6 (f := ns6) ⟨V6, L6⟩
          exact ⟨acc, h1, small1000 (by omega), h3⟩
        · obtain ⟨rws, vr, lr, ln⟩ := drR_vl hW
          obtain ⟨K5, hq5, qD⟩ := drR_kp hW hq4
          have m5 := K5.mv hq4.pl hq5.pl
          refine ⟨D, rws, rfl, vf.mv m5 (fun z => fm (by rw [List.mem_singleton.mp z]; simp)), vr, lr, ln, hq5, moveB B4 hq4.pl K5 hq5.pl, fun z => ?_, qD.symm⟩
          exact B4.al D z nD
      · intro σ H5 hW
        obtain ⟨ra, rws, rfl, vf, vr, lr, nr, hq5, B5, rm, rq⟩ := hW
        -- lists, before
        have fne : ∀ {Hx : Hp} {x y : Addr}, Hx x ≠ none → Hx y = none → x ≠ y := fun h n z => h (by rw [z]; exact n)
        have al5 := B5.al
        refine ⟨Nat.zero_le _, fun a0 na0 => ⟨Nat.zero_le _, fun c0 nc0 => ⟨(show 2 ≤ sizeLine by decide), fun l0 nl0 => ?_⟩⟩⟩
        have s6 := same_upd (o := .lst []) na0
        have ea6 : (upd H5 a0 (.lst [])) a0 = some (.lst []) := upd_same
        generalize upd H5 a0 (.lst []) = H6 at *
        have s7 := same_upd (o := .lst []) nc0
        have ec7 : (upd H6 c0 (.lst [])) c0 = some (.lst []) := upd_same
        generalize upd H6 c0 (.lst []) = H7 at *
        have s8 := same_upd (o := .lst [.ref a0, .ref c0]) nl0
        have el8 : (upd H7 l0 (.lst [.ref a0, .ref c0])) l0 = some (.lst [.ref a0, .ref c0]) := upd_same
        generalize upd H7 l0 (.lst [.ref a0, .ref c0]) = H8 at *
        refine ⟨Nat.zero_le _, fun bf nbf => ?_⟩
        have s9 := same_upd (o := .lst []) nbf
        have eb9 : (upd H8 bf (.lst [])) bf = some (.lst []) := upd_same
        generalize upd H8 bf (.lst []) = H9 at *
        have s59 := ((s6.trans s7).trans s8).trans s9
        have m56 := (same_mv s6 (S := [])).n
        have m57 := (same_mv (s6.trans s7) (S := [])).n
        have m58 := (same_mv ((s6.trans s7).trans s8) (S := [])).n
        have m67 := (same_mv s7 (S := [])).n
        have m68 := (same_mv (s7.trans s8) (S := [])).n
        have m78 := (same_mv s8 (S := [])).n
        have aa6 : H6 a0 ≠ none := by rw [ea6]; exact fun z => nomatch z
        have ac7 : H7 c0 ≠ none := by rw [ec7]; exact fun z => nomatch z
        have al8 : H8 l0 ≠ none := by rw [el8]; exact fun z => nomatch z
        have fa5 := vf.ne
        have ra5 := vr.ne
        have q5 : H5 q0 ≠ none := by
          obtain ⟨ns', a', b'', c', d', _, e2', _⟩ := hq5
          rw [e2']; exact fun z => nomatch z
        have in3 : ∀ x ∈ [p, b, E0], H5 x ≠ none := al5
        have na : ∀ x, H5 x ≠ none → x ≠ a0 ∧ x ≠ c0 ∧ x ≠ l0 ∧ x ≠ bf := fun x h => ⟨fne h na0, fne (m56 x h) nc0, fne (m57 x h) nl0, fne (m58 x h) nbf⟩
        have nac : a0 ≠ c0 := fne aa6 nc0
        have nab : a0 ≠ bf := fne (m68 a0 aa6) nbf
        have ncb : c0 ≠ bf := fne (m78 c0 ac7) nbf
        have nal : a0 ≠ l0 := fne (m67 a0 aa6) nl0
        have ncl : c0 ≠ l0 := fne ac7 nl0
        have nlb : l0 ≠ bf := fne al8 nbf
        have notM : ∀ x, H5 x ≠ none → x ∉ [p, b, E0] → x ∉ Mu p b E0 bf [(l0, a0, c0)] := fun x h n z => by
          obtain ⟨x1, x2, x3, x4⟩ := na x h
          have z : x ∈ [p, b, E0, bf, a0, c0] := z
          simp at z n
          rcases z with z | z | z | z | z | z
          · exact n.1 z
          · exact n.2.1 z
          · exact n.2.2 z
          · exact x4 z
          · exact x1 z
          · exact x2 z
        obtain ⟨p1, p2, p3, p4⟩ := na p (in3 p (by simp))
        obtain ⟨b1, b2, b3, b4⟩ := na b (in3 b (by simp))
        obtain ⟨E1, E2, E3, E4⟩ := na E0 (in3 E0 (by simp))
        have lm : l0 ∉ Mu p b E0 bf [(l0, a0, c0)] := fun z => by
          have z : l0 ∈ [p, b, E0, bf, a0, c0] := z
          simp at z
          rcases z with z | z | z | z | z | z
          · exact p3 z.symm
          · exact b3 z.symm
          · exact E3 z.symm
          · exact nlb z
          · exact nal z.symm
          · exact ncl z.symm
        have L9 : LS H9 p q0 b E0 bf fa ra few rws [(l0, a0, c0)] [([], [])] := by
          refine ⟨hq5.same s59, ?_, notM q0 q5 ?_, vf.same s59, notM fa fa5 fm, vr.same s59, notM ra ra5 rm, eb9, .cons (s9 _ _ el8) lm ⟨[], s9 _ _ (s8 _ _ (s7 _ _ ea6)), rfl, fun i r h => no_get h⟩ ⟨[], s9 _ _ (s8 _ _ ec7), rfl, fun i r h => no_get h⟩ .nil⟩
          · show [p, b, E0, bf, a0, c0].Nodup
            simp
            exact ⟨⟨pb, pE, p4, p1, p2⟩, ⟨bE, b4, b1, b2⟩, ⟨E4, E1, E2⟩, ⟨nab.symm, ncb.symm⟩, nac⟩
          · simp
            exact ⟨qp, qb, qE⟩
        have B9 : BS C H9 (Mu p b E0 bf [(l0, a0, c0)]) b E0 [] [] [] := by
          refine B5.re (S := []) (same_mv s59) (fun x h => nomatch h) (fun h => nomatch h) (fun h => nomatch h) (fun x h => ?_) (fun x h => ?_) mu_b mu_E
          · have z : x ∈ [p, b, E0, bf, a0, c0] := h
            simp at z ⊢
            have fr : ∀ {Ha : Hp} {y : Addr}, Same H5 Ha → Ha y = none → H5 y = none := fun {Ha y} s n => by
              cases e : H5 y with
              | none => rfl
              | some o => rw [s _ _ e] at n; cases n
            rcases z with z | z | z | z | z | z
            · exact .inl (.inl z)
            · exact .inl (.inr (.inl z))
            · exact .inl (.inr (.inr z))
            · rw [z]; exact .inr (fr ((s6.trans s7).trans s8) nbf)
            · rw [z]; exact .inr na0
            · rw [z]; exact .inr (fr s6 nc0)
          · have z : x ∈ [p, b, E0, bf, a0, c0] := h
            simp at z
            have up := (same_mv s59 (S := [])).n
            rcases z with z | z | z | z | z | z
            · rw [z]; exact up _ (in3 p (by simp))
            · rw [z]; exact up _ (in3 b (by simp))
            · rw [z]; exact up _ (in3 E0 (by simp))
            · rw [z, eb9]; exact fun z => nomatch z
            · rw [z, s9 _ _ (s8 _ _ (s7 _ _ ea6))]; exact fun z => nomatch z
            · rw [z, s9 _ _ (s8 _ _ ec7)]; exact fun z => nomatch z
        -- the turns
        refine ⟨fun σ H' => True, ?_, fun σ H' _ => ?_⟩
        · refine ⟨_, rfl, p, _, rfl, by decide, by decide, L9.pl.pl, fun vt H10 lt' ut P10 B10 => ?_⟩
          obtain ⟨m, rfl⟩ := Int.eq_ofNat_of_zero_le lt'
          have L10 := L9.pool B10 P10
          have ln9 := L9.ne
          have Q10 := B9.pool mu_p ln9.1 ln9.2.1 L9.pl.pl B10 P10
          refine ⟨_, _, rfl, rfl, 4 + m, rfl, by omega, by omega, ?_⟩
          refine for_range (lo := 0) (n := 4 + m) (fun i σ H' => W60 C sa p q0 b E0 bf fa ra dn few rws i (fun _ _ _ _ _ _ _ _ _ _ => True) σ H') ⟨l0, a0, c0, [], [], [], [], _, _, _, _, _, rfl, L10, Q10, ⟨by show 1 ≤ 1; decide, fun h hh => by rw [List.mem_singleton.mp hh]; exact ⟨⟨List.nodup_nil, Nat.le_refl 0, fun v z => nomatch z⟩, ⟨List.nodup_nil, Nat.le_refl 0, fun v z => nomatch z⟩⟩⟩, trivial⟩ (fun i σ H' hi hW => ?_) (fun σ H' hW => trivial)
          obtain ⟨l1, a1, c1, rest, ps, is, hist, y8, y9, y10, y11, y12, rfl, L, B, D, _⟩ := hW
          have im : i < 15 := by have : (m : Int) < 11 := ut; omega
          -- way
          refine ⟨_, rfl, p, _, rfl, by decide, by decide, L.pl.pl, fun wv H11 lw uw P11 B11 => ?_⟩
          obtain ⟨w', rfl⟩ := Int.eq_ofNat_of_zero_le lw
          have w6 : w' < 6 := by have : (w' : Int) < 6 := uw; omega
          have ln := L.ne
          have Q11 := B.pool mu_p ln.1 ln.2.1 L.pl.pl B11 P11
          have L11 := L.pool B11 P11
          clear L B
          -- value
          refine ⟨W60 C sa p q0 b E0 bf fa ra dn few rws i (fun l0 ps is hist _ y9 y10 _ _ H' => y9 = some (.int (w' : Int)) ∧ ∃ (x : V) (v : List Int), y10 = some x ∧ v.length ≤ 20 ∧ (w' < 4 → ∃ r, x = .ref r ∧ Vc H' r v)), ?_, ?_⟩
          · refine ⟨_, rfl, _, rfl, _, rfl, _, rfl, (show 1 ≤ sizeLine by decide), fun z1 nz1 => ⟨(show 1 ≤ sizeLine by decide), fun z2 nz2 => ⟨(show 6 ≤ sizeLine by decide), fun z6 nz6 => ?_⟩⟩⟩
            have t1 := same_upd (o := .lst [.int 0]) nz1
            have ez1 : (upd H11 z1 (.lst [.int 0])) z1 = some (.lst [.int 0]) := upd_same
            generalize upd H11 z1 (.lst [.int 0]) = H12 at *
            have t2 := same_upd (o := .lst [.int 0]) nz2
            have ez2 : (upd H12 z2 (.lst [.int 0])) z2 = some (.lst [.int 0]) := upd_same
            generalize upd H12 z2 (.lst [.int 0]) = H13 at *
            have t3 := same_upd (o := .lst [.ref fa, .ref fa, .ref ra, .ref ra, .ref z1, .ref z2]) nz6
            have ez6 : (upd H13 z6 (.lst [.ref fa, .ref fa, .ref ra, .ref ra, .ref z1, .ref z2])) z6 = some (.lst [.ref fa, .ref fa, .ref ra, .ref ra, .ref z1, .ref z2]) := upd_same
            generalize upd H13 z6 (.lst [.ref fa, .ref fa, .ref ra, .ref ra, .ref z1, .ref z2]) = H14 at *
            have t13 := (t1.trans t2).trans t3
            have L14 := L11.same t13
            have Q14 := Q11.same t13
            obtain ⟨xp14, hp14⟩ := P11.lst
            have z1p : z1 ≠ p := fun z => by rw [z, hp14] at nz1; cases nz1
            have z2p : z2 ≠ p := fun z => by rw [z, t1 _ _ hp14] at nz2; cases nz2
            obtain ⟨x, gx, _⟩ := menu w6 L14.fe lf nf L14.re lr nr (t3 _ _ (t2 _ _ ez1)) (t3 _ _ ez2)
            refine ⟨_, rfl, _, _, _, _, rfl, rfl, SqL.of ez6, atI_nat (j := w') gx, ?_⟩
            refine ⟨_, rfl, p, _, rfl, by decide, by decide, L14.pl.pl, fun jv H15 lj uj P15 B15 => ?_⟩
            have L15 := L14.pool B15 P15
            have ln := L14.ne
            have Q15 := Q14.pool mu_p ln.1 ln.2.1 L14.pl.pl B15 P15
            have k15 := B15.keep
            obtain ⟨x', gx', hx⟩ := menu w6 L15.fe lf nf L15.re lr nr (k15 _ _ z1p (t3 _ _ (t2 _ _ ez1))) (k15 _ _ z2p (t3 _ _ ez2))
            have ex : x' = x := by
              rw [gx] at gx'
              cases gx'
              rfl
            subst ex
            obtain ⟨j, rfl⟩ := Int.eq_ofNat_of_zero_le lj
            have j3 : j < 3 := by have : (j : Int) < 3 := uj; omega
            refine ⟨_, rfl, _, _, rfl, rfl, .inr ⟨_, rfl, _, _, rfl, rfl, cmul (a := 2) (b := 1) (by omega) (by split <;> decide), ?_⟩⟩
            rcases hx with ⟨w4, vs, vx, lv, nv⟩ | ⟨w4, e0⟩
            · obtain ⟨rs, r, ex, lx, hr, hv⟩ := vx.at (i := j) (by omega)
              rw [decide_eq_true (by omega : (w' : Int) < 4), if_pos rfl]
              refine ⟨_, _, _, .ref r, rfl, rfl, SqL.of ex, by show atI _ ((j : Int) * 1) = _; rw [Int.mul_one]; exact atI_nat (j := j) (get_ref hr), ?_⟩
              exact ⟨l1, a1, c1, rest, ps, is, hist, _, _, _, _, _, rfl, L15, Q15, D, rfl, _, _, rfl, by rw [nv _ (List.getElem_mem _)]; omega, fun _ => ⟨r, rfl, hv⟩⟩
            · rw [decide_eq_false (by omega : ¬ (w' : Int) < 4), if_neg Bool.false_ne_true]
              refine ⟨_, _, _, .int 0, rfl, rfl, SqL.of e0, by show atI _ ((j : Int) * 0) = _; rw [Int.mul_zero]; exact atI_nat (j := 0) rfl, ?_⟩
              exact ⟨l1, a1, c1, rest, ps, is, hist, _, _, _, _, _, rfl, L15, Q15, D, rfl, _, [], rfl, by decide, fun h => absurd h (by omega)⟩
          · intro σ H15 hW
            obtain ⟨l1, a1, c1, rest, ps, is, hist, y8, y9, y10, y11, y12, rfl, L, B, D, rfl, x, v, rfl, lv, hx⟩ := hW
            -- there
            refine ⟨W60 C sa p q0 b E0 bf fa ra dn few rws i (fun l0 ps is hist _ y9 y10 y11 _ H' => y9 = some (.int (w' : Int)) ∧ ∃ (x : V) (v : List Int) (t : Bool), y10 = some x ∧ v.length ≤ 20 ∧ (w' < 4 → ∃ r, x = .ref r ∧ Vc H' r v) ∧ y11 = some (.bl t) ∧ (w' < 2 → t = decide (v ∈ ps)) ∧ (2 ≤ w' → w' < 4 → t = decide (v ∈ is))), ?_, ?_⟩
            · refine ⟨_, rfl, _, _, rfl, rfl, ?_⟩
              refine ⟨_, rfl, ?_⟩
              by_cases w4 : w' < 4
              · rw [decide_eq_true (by omega : (w' : Int) < 4)]
                obtain ⟨r, rfl, hv⟩ := hx w4
                cases L.fk with
                | cons el nl v1 v2 fk =>
                  obtain ⟨y, gy, hy⟩ := side (a := a1) (c := c1) w4
                  refine iteT ⟨_, rfl, _, rfl, _, rfl, _, _, rfl, rfl, ⟨by decide, by decide⟩, _, _, _, .ref y, rfl, rfl, SqL.of el, gy, ?_⟩
                  rcases hy with ⟨w2, rfl⟩ | ⟨w2, rfl⟩
                  · refine ⟨tv v, ps.map tv, .tup (SqT.of hv) (dp_ints _), v1.dp, shaped_tv1 v, shaped_tv ps, ?_⟩
                    rw [any_tv]
                    exact ⟨l1, _, c1, rest, ps, is, hist, _, _, _, _, _, rfl, L, B, D, rfl, _, v, _, rfl, lv, fun _ => ⟨r, rfl, hv⟩, rfl, fun _ => rfl, fun h => absurd h (by omega)⟩
                  · refine ⟨tv v, is.map tv, .tup (SqT.of hv) (dp_ints _), v2.dp, shaped_tv1 v, shaped_tv is, ?_⟩
                    rw [any_tv]
                    exact ⟨l1, a1, _, rest, ps, is, hist, _, _, _, _, _, rfl, L, B, D, rfl, _, v, _, rfl, lv, fun _ => ⟨r, rfl, hv⟩, rfl, fun h => absurd h (by omega), fun _ _ => rfl⟩
              · rw [decide_eq_false (by omega : ¬ (w' : Int) < 4)]
                exact iteF ⟨l1, a1, c1, rest, ps, is, hist, _, _, _, _, _, rfl, L, B, D, rfl, x, v, _, rfl, lv, hx, rfl, fun h => absurd h (by omega), fun _ h => absurd h w4⟩
            · intro σ H15 hW
              obtain ⟨l1, a1, c1, rest, ps, is, hist, y8, y9, y10, y11, y12, rfl, L, B, D, rfl, x, v, t, rfl, lv, hx, rfl, ht1, ht2⟩ := hW
              -- due
              refine ⟨W61 C sa p q0 b E0 bf fa ra dn few rws i w' fun v ps is hist dv dat => (w' < 4 ∧ dat = (ps, is) :: hist ∧ ∃ dat', Out w' v (ps, is) hist dv dat') ∨ (4 ≤ w' ∧ Out w' v (ps, is) hist dv dat), ?_, ?_⟩
              · refine ⟨_, rfl, _, _, rfl, rfl, _, rfl, ite2 (fun e => ?_) (fun e => ?_)⟩
                · have w4 : 4 ≤ w' := by have : (3 : Int) < (w' : Int) := of_decide_eq_true e; omega
                  have w3 : (3 : Int) < (w' : Int) := by omega
                  refine ⟨_, rfl, Nat.zero_le _, fun zn nzn => ?_⟩
                  have tn := same_upd (o := .lst []) nzn
                  have en : (upd H15 zn (.lst [])) zn = some (.lst []) := upd_same
                  generalize upd H15 zn (.lst []) = H16 at *
                  have L16 := L.same tn
                  have B16 := B.same tn
                  have fk := L16.fk
                  cases fk with
                  | cons el nl v1 v2 fk =>
                    refine ⟨_, _, .lst (SqL.of L16.be) fk.dp, .lst (SqL.of en) .nil, shaped_lv _, shaped_tv [], ?_⟩
                    rw [eqv_nil]
                    cases fk with
                    | nil =>
                      refine ⟨_, rfl, _, rfl, iteF ?_⟩
                      exact ⟨l1, a1, c1, [], (ps, is), [], ps, is, [], x, v, _, _, _, rfl, L16, B16, D, lv, fun h => absurd h (by omega), .inr ⟨w4, .n0 w3⟩⟩
                    | @cons l2 a2 c2 rest h hs el2 nl2 u1 u2 fk =>
                      rw [decide_eq_false (by simp)]
                      refine ⟨_, rfl, _, rfl, iteT ?_⟩
                      have be16 : H16 bf = some (.lst ((rest.map fun f => V.ref f.1).reverse ++ [.ref l2])) := L16.be.trans (by
                        show some (HO.lst (((l2, a2, c2) :: rest).map fun f => V.ref f.1).reverse) = _
                        rw [List.map_cons, List.reverse_cons])
                      refine ⟨_, rfl, .inl ⟨rfl, _, SqL.of be16⟩, bf, _, .ref l2, rfl, rfl, be16, ?_, ?_⟩
                      · rw [List.length_append, List.length_singleton, Nat.add_sub_cancel, List.getElem?_append_right (Nat.le_refl _), Nat.sub_self]
                        rfl
                      rw [List.dropLast_concat]
                      have LP := L16.pop
                      have mP : Mv [bf] H16 (upd H16 bf (.lst (rest.map fun f => V.ref f.1).reverse)) := Mv.lst be16
                      have nn := L16.ne
                      have BP : BS C (upd H16 bf (.lst (rest.map fun f => V.ref f.1).reverse)) (Mu p b E0 bf ((l2, a2, c2) :: rest)) b E0 ps is (h :: hs) := B16.re mP (fun x hx => by rw [List.mem_singleton.mp hx]; exact mu_bf) (fun z => nn.2.2.2.1 (List.mem_singleton.mp z)) (fun z => nn.2.2.2.2.1 (List.mem_singleton.mp z)) (fun x hx => .inl (mu_sub x hx)) (fun x hx => mP.n x (B16.al x (mu_sub x hx))) mu_b mu_E
                      exact ⟨l2, a2, c2, rest, h, hs, ps, is, h :: hs, x, v, _, _, _, rfl, LP, BP, D, lv, fun z => absurd z (by omega), .inr ⟨w4, .n1 w3⟩⟩
                · have w4 : w' < 4 := by
                    have : ¬ (3 : Int) < (w' : Int) := fun z => e (decide_eq_true z)
                    omega
                  obtain ⟨r, rfl, hv⟩ := hx w4
                  refine ⟨_, rfl, (show 2 ≤ sizeLine by decide), fun zt nzt => ?_⟩
                  have tt := same_upd (o := .tup [.int 0, .int 2]) nzt
                  have et : (upd H15 zt (.tup [.int 0, .int 2])) zt = some (.tup [.int 0, .int 2]) := upd_same
                  generalize upd H15 zt (.tup [.int 0, .int 2]) = H16 at *
                  have L16 := L.same tt
                  have B16 := B.same tt
                  have hv16 := hv.same tt
                  refine ⟨zt, _, rfl, .inr (SqT.of et), rfl, rfl, _, rfl, ?_⟩
                  have fin : ∀ (dv : V) (dat' : List Pr), Out (w' : Int) v (ps, is) hist dv dat' → W61 C sa p q0 b E0 bf fa ra dn few rws i w' (fun v ps is hist dv dat => (w' < 4 ∧ dat = (ps, is) :: hist ∧ ∃ dat', Out w' v (ps, is) hist dv dat') ∨ (4 ≤ w' ∧ Out w' v (ps, is) hist dv dat)) [some (.ref sa), some (.ref p), some (.int ((dn + 1 : Nat) : Int)), some (.ref b), some (.ref fa), some (.ref ra), some (.ref l1), some (.ref bf), y8, some (.int (w' : Int)), some (.ref r), some (.bl t), some dv, none] H16 := fun dv dat' o =>
                    ⟨l1, a1, c1, rest, (ps, is), hist, ps, is, hist, .ref r, v, dv, _, _, rfl, L16, B16, D, lv, fun _ => ⟨r, rfl, hv16⟩, .inl ⟨w4, rfl, dat', o⟩⟩
                  have cs : w' = 0 ∨ w' = 1 ∨ w' = 2 ∨ w' = 3 := by omega
                  rcases cs with rfl | rfl | rfl | rfl
                  · have et := ht1 (by decide)
                    refine iteT ?_
                    by_cases hm : v ∈ ps
                    · rw [decide_eq_true hm] at et
                      subst et
                      exact ⟨_, rfl, _, rfl, fin (.bl false) _ (.a0 hm)⟩
                    · rw [decide_eq_false hm] at et
                      subst et
                      exact ⟨_, rfl, _, rfl, fin (.bl true) _ (.a1 hm)⟩
                  · have et := ht1 (by decide)
                    refine iteF ?_
                    by_cases hm : v ∈ ps
                    · rw [decide_eq_true hm] at et
                      subst et
                      exact ⟨_, rfl, _, rfl, iteT (fin .non _ (.r1 hm))⟩
                    · rw [decide_eq_false hm] at et
                      subst et
                      exact ⟨_, rfl, _, rfl, iteF (fin (.str "no") _ (.r0 hm))⟩
                  · have et := ht2 (by decide) (by decide)
                    refine iteT ?_
                    by_cases hm : v ∈ is
                    · rw [decide_eq_true hm] at et
                      subst et
                      exact ⟨_, rfl, _, rfl, fin (.bl false) _ (.c0 hm)⟩
                    · rw [decide_eq_false hm] at et
                      subst et
                      exact ⟨_, rfl, _, rfl, fin (.bl true) _ (.c1 hm)⟩
                  · have et := ht2 (by decide) (by decide)
                    refine iteF ?_
                    by_cases hm : v ∈ is
                    · rw [decide_eq_true hm] at et
                      subst et
                      exact ⟨_, rfl, _, rfl, iteT (fin .non _ (.u1 hm))⟩
                    · rw [decide_eq_false hm] at et
                      subst et
                      exact ⟨_, rfl, _, rfl, iteF (fin (.str "no") _ (.u0 hm))⟩
              · intro σ H16 hW
                obtain ⟨l1, a1, c1, rest, d0, ds, ps, is, hist, x, v, dv, y8, y11, rfl, L, B, D, lv, hx, hR⟩ := hW
                -- the law's lists
                refine ⟨W61 C sa p q0 b E0 bf fa ra dn few rws i w' fun v ps is hist dv dat => Out w' v (ps, is) hist dv dat, ?_, ?_⟩
                · refine ⟨_, rfl, _, _, rfl, rfl, _, rfl, ?_⟩
                  rcases hR with ⟨w4, ed, dat', o⟩ | ⟨w4, o⟩
                  · rw [decide_eq_true (by omega : (w' : Int) < 4)]
                    obtain ⟨rfl, rfl⟩ := List.cons.inj ed
                    obtain ⟨r, rfl, hv⟩ := hx w4
                    obtain ⟨fdv, os⟩ := o.split w4
                    refine iteT ⟨_, rfl, (show 2 ≤ sizeLine by decide), fun zt nzt => ?_⟩
                    have tt := same_upd (o := .tup [.bl true, .non]) nzt
                    have et : (upd H16 zt (.tup [.bl true, .non])) zt = some (.tup [.bl true, .non]) := upd_same
                    generalize upd H16 zt (.tup [.bl true, .non]) = H17 at *
                    have L17 := L.same tt
                    have B17 := B.same tt
                    have hv17 := hv.same tt
                    refine ⟨zt, _, rfl, .inr (SqT.of et), fdv, rfl, _, rfl, ?_⟩
                    rcases os with ⟨e0, o0⟩ | ⟨e0, os⟩
                    · show if inV dv [V.bl true, V.non] = true then _ else _
                      rw [e0]
                      exact iteF ⟨l1, a1, c1, rest, _, _, ps, is, ds, .ref r, v, dv, _, _, rfl, L17, B17, D, lv, fun _ => ⟨r, rfl, hv17⟩, o0⟩
                    · show if inV dv [V.bl true, V.non] = true then _ else _
                      rw [e0]
                      refine iteT ?_
                      have fk := L17.fk
                      cases fk with
                      | cons el nl v1 v2 fk =>
                      obtain ⟨rsa, ea, la, ga⟩ := id v1
                      obtain ⟨rsc, ec, lc, gc⟩ := id v2
                      have be17 : H17 bf = some (.lst ((rest.map fun f => V.ref f.1).reverse)) := L17.be
                      refine ⟨_, rfl, .inl ⟨rfl, _, SqL.of be17⟩, _, rfl, _, _, _, .ref a1, rfl, rfl, SqL.of el, atI_nat (j := 0) rfl, a1, _, rfl, .inl (SqL.of ea), fun A' nA' => ?_⟩
                      have t1 := same_upd (o := .lst (rsa.map V.ref)) nA'
                      have eA1 : (upd H17 A' (.lst (rsa.map V.ref))) A' = some (.lst (rsa.map V.ref)) := upd_same
                      generalize upd H17 A' (.lst (rsa.map V.ref)) = H1a at *
                      refine ⟨_, rfl, _, _, _, .ref c1, rfl, rfl, SqL.of (t1 _ _ el), atI_nat (j := 1) rfl, c1, _, rfl, .inl (SqL.of (t1 _ _ ec)), fun C' nC' => ?_⟩
                      have t2 := same_upd (o := .lst (rsc.map V.ref)) nC'
                      have eC2 : (upd H1a C' (.lst (rsc.map V.ref))) C' = some (.lst (rsc.map V.ref)) := upd_same
                      generalize upd H1a C' (.lst (rsc.map V.ref)) = H1b at *
                      refine ⟨(show 2 ≤ sizeLine by decide), fun L' nL' => ?_⟩
                      have t3 := same_upd (o := .lst [.ref A', .ref C']) nL'
                      have eL3 : (upd H1b L' (.lst [.ref A', .ref C'])) L' = some (.lst [.ref A', .ref C']) := upd_same
                      generalize upd H1b L' (.lst [.ref A', .ref C']) = H1c at *
                      have t13 := (t1.trans t2).trans t3
                      have be1c := t13 _ _ be17
                      have frn : ∀ {Ha : Hp} {y : Addr}, Same H17 Ha → Ha y = none → H17 y = none := fun {Ha y} s n => by
                        cases e : H17 y with
                        | none => rfl
                        | some o => rw [s _ _ e] at n; cases n
                      have hsl : rest.length = ds.length := fk.len
                      have dl := D.1
                      rw [List.length_cons] at dl
                      refine ⟨bf, _, _, rfl, rfl, be1c, by rw [List.length_reverse, List.length_map]; exact small1000 (by omega), ?_⟩
                      have vA : VL H1c A' ps := ⟨rsa, t3 _ _ (t2 _ _ eA1), la, fun i r hr => by obtain ⟨u, h1, h2⟩ := ga i r hr; exact ⟨u, h1, h2.same t13⟩⟩
                      have vC : VL H1c C' is := ⟨rsc, t3 _ _ eC2, lc, fun i r hr => by obtain ⟨u, h1, h2⟩ := gc i r hr; exact ⟨u, h1, h2.same t13⟩⟩
                      have AC' : A' ≠ C' := ne_of_none eA1 nC'
                      have LA' : L' ≠ A' := (ne_of_none (t2 _ _ eA1) nL').symm
                      have LC' : L' ≠ C' := (ne_of_none eC2 nL').symm
                      have fA := nA'
                      have fC := frn t1 nC'
                      have fL := frn (t1.trans t2) nL'
                      obtain ⟨L18, m18⟩ := L17.push (B17.al b mu_b) (B17.al E0 mu_E) t13 fA fC fL AC' LA' LC' eL3 vA vC
                      have m178 := (same_mv t13 (S := [bf])).trans m18
                      have n17 := L17.ne
                      have B18 := B17.re (M' := Mu p b E0 bf ((l1, a1, c1) :: (L', A', C') :: rest)) m178 (fun x hx => by rw [List.mem_singleton.mp hx]; exact mu_bf) (fun z => n17.2.2.2.1 (List.mem_singleton.mp z)) (fun z => n17.2.2.2.2.1 (List.mem_singleton.mp z)) (fun x hx => (mu_push x hx).imp id fun w => by
                        rcases w with w | w
                        · rw [w]; exact fA
                        · rw [w]; exact fC) (L18.al (m178.n b (B17.al b mu_b)) (m178.n E0 (B17.al E0 mu_E))) mu_b mu_E
                      generalize upd H1c bf (.lst ((rest.map fun f => V.ref f.1).reverse ++ [.ref L'])) = H18 at *
                      have hv18 : Vc H18 r v := m178.t _ _ hv17
                      have n18 := L18.ne
                      have fk18 := L18.fk
                      cases fk18 with
                      | cons el18 nl18 w1 w2 fk18 =>
                      rcases os with ⟨rfl, rfl, hm⟩ | ⟨rfl, rfl, hm⟩ | ⟨rfl, rfl, hm⟩ | ⟨rfl, rfl, hm⟩
                      · -- 0
                        obtain ⟨rs, e18, l18, g18⟩ := id w1
                        have nd18 := ((D.2 (ps, is) List.mem_cons_self).1).1
                        have len18 := ((D.2 (ps, is) List.mem_cons_self).1).2.1
                        refine ⟨_, rfl, true, rfl, iteT ?_⟩
                        refine ⟨_, rfl, _, rfl, _, _, rfl, rfl, ⟨by decide, by decide⟩, _, _, _, .ref a1, rfl, rfl, SqL.of el18, by show atI ([V.ref a1, .ref c1] : List V) (((0 : Nat) : Int).fdiv 2) = some (.ref a1); rw [half_lo (by decide)]; exact atI_nat (j := 0) rfl, .inl ⟨rfl, _, SqL.of e18⟩, _, rfl, a1, _, _, rfl, rfl, e18, by rw [List.length_map]; exact small1000 (by omega), ?_⟩
                        have nv := w1.push hv18 e18
                        obtain ⟨LN, mN⟩ := L18.setA e18 nv
                        have BN := B18.re mN (fun x hx => by rw [List.mem_singleton.mp hx]; exact mu_m List.mem_cons_self) (fun z => n18.2.2.2.2.2.1 ((List.mem_singleton.mp z).symm ▸ List.mem_cons_self)) (fun z => n18.2.2.2.2.2.2.1 ((List.mem_singleton.mp z).symm ▸ List.mem_cons_self)) (fun x hx => .inl hx) (fun x hx => mN.n x (B18.al x hx)) mu_b mu_E
                        exact ⟨l1, a1, c1, (L', A', C') :: rest, (ps ++ [v], is), (ps, is) :: ds, ps, is, ds, .ref r, v, _, _, _, rfl, LN, BN, D, lv, fun _ => ⟨r, rfl, mN.t _ _ hv18⟩, .a1 hm⟩
                      · -- 1
                        obtain ⟨rs, e18, l18, g18⟩ := id w1
                        have nd18 := ((D.2 (ps, is) List.mem_cons_self).1).1
                        have len18 := ((D.2 (ps, is) List.mem_cons_self).1).2.1
                        refine ⟨_, rfl, false, rfl, iteF ?_⟩
                        obtain ⟨j, j1, j2, j3⟩ := erase_filter nd18 hm
                        refine ⟨_, rfl, _, rfl, _, _, rfl, rfl, ⟨by decide, by decide⟩, _, _, _, .ref a1, rfl, rfl, SqL.of el18, by show atI ([V.ref a1, .ref c1] : List V) (((1 : Nat) : Int).fdiv 2) = some (.ref a1); rw [half_lo (by decide)]; exact atI_nat (j := 0) rfl, .inl ⟨rfl, _, SqL.of e18⟩, _, rfl, a1, _, .ref r, tv v, ps.map tv, j, tv v, rfl, rfl, e18, refs_dp l18 g18, .tup (SqT.of hv18) (dp_ints _), shaped_tv _, shaped_tv1 v, by rw [List.getElem?_map, j1]; rfl, by rw [eqv_tv]; exact decide_eq_true rfl, fun m z' hm' hz => ?_, ?_⟩
                        · rw [List.getElem?_map] at hz
                          obtain ⟨u, hu, rfl⟩ := Option.map_eq_some_iff.mp hz
                          rw [eqv_tv]
                          exact decide_eq_false (j2 m u hm' hu)
                        have nv := VL.erase e18 l18 g18 j
                        rw [j3] at nv
                        obtain ⟨LN, mN⟩ := L18.setA e18 nv
                        have BN := B18.re mN (fun x hx => by rw [List.mem_singleton.mp hx]; exact mu_m List.mem_cons_self) (fun z => n18.2.2.2.2.2.1 ((List.mem_singleton.mp z).symm ▸ List.mem_cons_self)) (fun z => n18.2.2.2.2.2.2.1 ((List.mem_singleton.mp z).symm ▸ List.mem_cons_self)) (fun x hx => .inl hx) (fun x hx => mN.n x (B18.al x hx)) mu_b mu_E
                        exact ⟨l1, a1, c1, (L', A', C') :: rest, (ps.filter (fun u => decide (u ≠ v)), is), (ps, is) :: ds, ps, is, ds, .ref r, v, _, _, _, rfl, LN, BN, D, lv, fun _ => ⟨r, rfl, mN.t _ _ hv18⟩, .r1 hm⟩
                      · -- 2
                        obtain ⟨rs, e18, l18, g18⟩ := id w2
                        have nd18 := ((D.2 (ps, is) List.mem_cons_self).2).1
                        have len18 := ((D.2 (ps, is) List.mem_cons_self).2).2.1
                        refine ⟨_, rfl, true, rfl, iteT ?_⟩
                        refine ⟨_, rfl, _, rfl, _, _, rfl, rfl, ⟨by decide, by decide⟩, _, _, _, .ref c1, rfl, rfl, SqL.of el18, by show atI ([V.ref a1, .ref c1] : List V) (((2 : Nat) : Int).fdiv 2) = some (.ref c1); rw [half_hi (by decide) (by decide)]; exact atI_nat (j := 1) rfl, .inl ⟨rfl, _, SqL.of e18⟩, _, rfl, c1, _, _, rfl, rfl, e18, by rw [List.length_map]; exact small1000 (by omega), ?_⟩
                        have nv := w2.push hv18 e18
                        obtain ⟨LN, mN⟩ := L18.setC e18 nv
                        have BN := B18.re mN (fun x hx => by rw [List.mem_singleton.mp hx]; exact mu_m (List.mem_cons_of_mem _ List.mem_cons_self)) (fun z => n18.2.2.2.2.2.1 ((List.mem_singleton.mp z).symm ▸ (List.mem_cons_of_mem _ List.mem_cons_self))) (fun z => n18.2.2.2.2.2.2.1 ((List.mem_singleton.mp z).symm ▸ (List.mem_cons_of_mem _ List.mem_cons_self))) (fun x hx => .inl hx) (fun x hx => mN.n x (B18.al x hx)) mu_b mu_E
                        exact ⟨l1, a1, c1, (L', A', C') :: rest, (ps, is ++ [v]), (ps, is) :: ds, ps, is, ds, .ref r, v, _, _, _, rfl, LN, BN, D, lv, fun _ => ⟨r, rfl, mN.t _ _ hv18⟩, .c1 hm⟩
                      · -- 3
                        obtain ⟨rs, e18, l18, g18⟩ := id w2
                        have nd18 := ((D.2 (ps, is) List.mem_cons_self).2).1
                        have len18 := ((D.2 (ps, is) List.mem_cons_self).2).2.1
                        refine ⟨_, rfl, false, rfl, iteF ?_⟩
                        obtain ⟨j, j1, j2, j3⟩ := erase_filter nd18 hm
                        refine ⟨_, rfl, _, rfl, _, _, rfl, rfl, ⟨by decide, by decide⟩, _, _, _, .ref c1, rfl, rfl, SqL.of el18, by show atI ([V.ref a1, .ref c1] : List V) (((3 : Nat) : Int).fdiv 2) = some (.ref c1); rw [half_hi (by decide) (by decide)]; exact atI_nat (j := 1) rfl, .inl ⟨rfl, _, SqL.of e18⟩, _, rfl, c1, _, .ref r, tv v, is.map tv, j, tv v, rfl, rfl, e18, refs_dp l18 g18, .tup (SqT.of hv18) (dp_ints _), shaped_tv _, shaped_tv1 v, by rw [List.getElem?_map, j1]; rfl, by rw [eqv_tv]; exact decide_eq_true rfl, fun m z' hm' hz => ?_, ?_⟩
                        · rw [List.getElem?_map] at hz
                          obtain ⟨u, hu, rfl⟩ := Option.map_eq_some_iff.mp hz
                          rw [eqv_tv]
                          exact decide_eq_false (j2 m u hm' hu)
                        have nv := VL.erase e18 l18 g18 j
                        rw [j3] at nv
                        obtain ⟨LN, mN⟩ := L18.setC e18 nv
                        have BN := B18.re mN (fun x hx => by rw [List.mem_singleton.mp hx]; exact mu_m (List.mem_cons_of_mem _ List.mem_cons_self)) (fun z => n18.2.2.2.2.2.1 ((List.mem_singleton.mp z).symm ▸ (List.mem_cons_of_mem _ List.mem_cons_self))) (fun z => n18.2.2.2.2.2.2.1 ((List.mem_singleton.mp z).symm ▸ (List.mem_cons_of_mem _ List.mem_cons_self))) (fun x hx => .inl hx) (fun x hx => mN.n x (B18.al x hx)) mu_b mu_E
                        exact ⟨l1, a1, c1, (L', A', C') :: rest, (ps, is.filter (fun u => decide (u ≠ v))), (ps, is) :: ds, ps, is, ds, .ref r, v, _, _, _, rfl, LN, BN, D, lv, fun _ => ⟨r, rfl, mN.t _ _ hv18⟩, .u1 hm⟩
                  · rw [decide_eq_false (by omega : ¬ (w' : Int) < 4)]
                    exact iteF ⟨l1, a1, c1, rest, d0, ds, ps, is, hist, x, v, dv, _, _, rfl, L, B, D, lv, hx, o⟩
                · intro σ H17 hW
                  obtain ⟨l1, a1, c1, rest, d0, ds, ps, is, hist, x, v, dv, y8, y11, rfl, L, B, D, lv, hx, o⟩ := hW
                  obtain ⟨dx', d', P', I', ts', e0, _⟩ := B.st
                  have D1 := (D.2 (ps, is) List.mem_cons_self)
                  have dl := D.1
                  rw [List.length_cons] at dl
                  refine ⟨_, rfl, _, rfl, _, rfl, ?_⟩
                  have l1' : ps.length ≤ 900 := Nat.le_trans D1.1.2.1 (by omega)
                  have l2' : is.length ≤ 900 := Nat.le_trans D1.2.2.1 (by omega)
                  unfold tNil
                  show spCall C ([.ref b, .int (w' : Int), x] ++ []) H17 _ _
                  refine call_out o B l1' l2' (by omega) hx fun H18 ps' is' hist' B18 m18 ed => ?_
                  have L18 := L.meth m18
                  rw [ed] at L18 o
                  have D18 := o.ok D lv
                  refine ⟨_, rfl, dv, dv, rfl, o.flat _ _, true, rfl, iteF ?_⟩
                  -- a list that points gives may be changed
                  obtain ⟨dx1, d1, P1, I1', ts1, e1, _⟩ := B18.st
                  obtain ⟨_, _, _, _, _, fp, fi⟩ := bf_at d1 P1 I1' E0
                  refine ⟨_, rfl, b, dx1, _, rfl, e1, fp, b, E0, _, ps', is', hist', rfl, B18, fun H19 ll s19 nll vll => ?_⟩
                  obtain ⟨rs19, e19, l19, g19⟩ := id vll
                  have D18p := (D18.2 (ps', is') List.mem_cons_self)
                  refine ⟨.inl ⟨rfl, _, SqL.of e19⟩, ll, _, _, rfl, rfl, e19, by rw [List.length_map]; exact small1000 (by have h18 : ps'.length ≤ i + 1 := D18p.1.2.1; omega), ?_⟩
                  have s20 : Same H18 (upd H19 ll (.lst (rs19.map V.ref ++ [.int 0]))) := fun y o e => by
                    rw [upd_ne (ne_of_none e nll)]
                    exact s19 _ _ e
                  generalize upd H19 ll (.lst (rs19.map V.ref ++ [.int 0])) = H20 at *
                  have L20 := L18.same s20
                  have B20 := B18.same s20
                  -- both lists
                  have e20 := s20 _ _ e1
                  refine ⟨_, rfl, b, dx1, _, rfl, e20, fp, b, E0, _, ps', is', hist', rfl, B20, fun H21 lp s21 nlp vlp => ?_⟩
                  refine ⟨_, rfl, b, dx1, _, rfl, s21 _ _ e20, fi, b, E0, _, ps', is', hist', rfl, B20.same s21, fun H22 li s22 nli vli => ?_⟩
                  refine ⟨(show 2 ≤ sizeLine by decide), fun lz nlz => ?_⟩
                  have s23 := same_upd (o := .lst [.ref lp, .ref li]) nlz
                  have ez : (upd H22 lz (.lst [.ref lp, .ref li])) lz = some (.lst [.ref lp, .ref li]) := upd_same
                  generalize upd H22 lz (.lst [.ref lp, .ref li]) = H23 at *
                  have s203 := (s21.trans s22).trans s23
                  have L23 := L20.same s203
                  have B23 := B20.same s203
                  have fk := L23.fk
                  cases fk with
                  | cons el nl v1 v2 fk =>
                    have vp23 := vlp.same (s22.trans s23)
                    have vi23 := vli.same s23
                    have al : Alike H23 3 (.ref lz) (.ref l1) := by
                      refine .lst ez el rfl (by show 2 ≤ 1000000; decide) fun k' x' y' h1 h2 => ?_
                      match k' with
                      | 0 => cases h1; cases h2; exact vl_alike 0 vp23 v1 (Nat.le_trans D18p.1.2.1 (by omega)) fun v hv => Nat.le_trans (D18p.1.2.2 v hv) (by decide)
                      | 1 => cases h1; cases h2; exact vl_alike 0 vi23 v2 (Nat.le_trans D18p.2.2.1 (by omega)) fun v hv => Nat.le_trans (D18p.2.2.2 v hv) (by decide)
                      | k' + 2 => cases h1
                    refine ⟨_, rfl, _, _, rfl, al, true, rfl, iteF ?_⟩
                    exact ⟨l1, a1, c1, rest, ps', is', hist', _, _, _, _, _, rfl, L23, B23, D18, trivial⟩
        · exact q _

end
/-! ### what the top has written -/
theorem all_mk {l : PySem.W.OpenLaw} {w : World} {K : PySem.W.Frag} {h : Heap} {mg : Str → Option Value} {fa f__law_same f__law_gcd f__law_spread f__law_draw f__law_pool f__law_prim f__law_point f__law_some_row f_Builder___init__ f_Builder__change f_Builder_add f_Builder_cut f_Builder_remove f_Builder_uncut f_Builder_undo f_Builder_points f_Builder_inequalities f__law_call f_law C_Builder D_NoSuch D_Empty : Addr} (X : K.In h) (G : h.Ns mainGlobals mg) (hfa : mg "law" = some (.ref fa))
    {od__law_same an__law_same od__law_gcd an__law_gcd od__law_spread an__law_spread od__law_draw an__law_draw od__law_pool an__law_pool od__law_prim an__law_prim od__law_point an__law_point od__law_some_row an__law_some_row od_Builder___init__ an_Builder___init__ od_Builder__change an_Builder__change od_Builder_add an_Builder_add od_Builder_cut an_Builder_cut od_Builder_remove an_Builder_remove od_Builder_uncut an_Builder_uncut od_Builder_undo an_Builder_undo od_Builder_points an_Builder_points od_Builder_inequalities an_Builder_inequalities od__law_call an__law_call od_law an_law : Option Addr} {sl__law_same sl__law_gcd sl__law_spread sl__law_draw sl__law_pool sl__law_prim sl__law_point sl__law_some_row sl_Builder___init__ sl_Builder__change sl_Builder_add sl_Builder_cut sl_Builder_remove sl_Builder_uncut sl_Builder_undo sl_Builder_points sl_Builder_inequalities sl__law_call sl_law : Array (Option Value)} {oc__law_same kV__law_same dc__law_same pm__law_same cd__law_same ct__law_same oc__law_gcd kV__law_gcd dc__law_gcd pm__law_gcd cd__law_gcd ct__law_gcd oc__law_spread kV__law_spread dc__law_spread pm__law_spread cd__law_spread ct__law_spread oc__law_draw kV__law_draw dc__law_draw pm__law_draw cd__law_draw ct__law_draw oc__law_pool kV__law_pool dc__law_pool pm__law_pool cd__law_pool ct__law_pool oc__law_prim kV__law_prim dc__law_prim pm__law_prim cd__law_prim ct__law_prim oc__law_point kV__law_point dc__law_point pm__law_point cd__law_point ct__law_point oc__law_some_row kV__law_some_row dc__law_some_row pm__law_some_row cd__law_some_row ct__law_some_row oc_Builder___init__ kV_Builder___init__ dc_Builder___init__ pm_Builder___init__ cd_Builder___init__ ct_Builder___init__ oc_Builder__change kV_Builder__change dc_Builder__change pm_Builder__change cd_Builder__change ct_Builder__change oc_Builder_add kV_Builder_add dc_Builder_add pm_Builder_add cd_Builder_add ct_Builder_add oc_Builder_cut kV_Builder_cut dc_Builder_cut pm_Builder_cut cd_Builder_cut ct_Builder_cut oc_Builder_remove kV_Builder_remove dc_Builder_remove pm_Builder_remove cd_Builder_remove ct_Builder_remove oc_Builder_uncut kV_Builder_uncut dc_Builder_uncut pm_Builder_uncut cd_Builder_uncut ct_Builder_uncut oc_Builder_undo kV_Builder_undo dc_Builder_undo pm_Builder_undo cd_Builder_undo ct_Builder_undo oc_Builder_points kV_Builder_points dc_Builder_points pm_Builder_points cd_Builder_points ct_Builder_points oc_Builder_inequalities kV_Builder_inequalities dc_Builder_inequalities pm_Builder_inequalities cd_Builder_inequalities ct_Builder_inequalities oc__law_call kV__law_call dc__law_call pm__law_call cd__law_call ct__law_call oc_law kV_law dc_law pm_law cd_law ct_law : Value}
    (ac_Builder : PySem.W.nsIn K mainGlobals "Builder" = some (some (.ref C_Builder))) (pg_Builder : PySem.W.plainGet K C_Builder Str.empty = true) (hd_Builder : PySem.W.hasDictIn K C_Builder = true) (po_Builder : PySem.W.plainOver K C_Builder = true) (sa_Builder : PySem.W.findIn K (.ref C_Builder) "__setattr__" = some (some (.builtin "object.__setattr__"))) (mk_Builder : PySem.W.makesIn K C_Builder = true) (kc_Builder : PySem.W.keepIn K (.ref C_Builder) = true) (na_Builder__dimension : PySem.W.findIn K (.ref C_Builder) "_dimension" = some none) (na_Builder__points : PySem.W.findIn K (.ref C_Builder) "_points" = some none) (na_Builder__inequalities : PySem.W.findIn K (.ref C_Builder) "_inequalities" = some none) (na_Builder__earlier : PySem.W.findIn K (.ref C_Builder) "_earlier" = some none)
    (a__law_same : PySem.W.nsIn K mainGlobals "_law_same" = some (some (.ref f__law_same))) (l__law_same : K.lookup f__law_same = some ⟨oc__law_same, od__law_same, .func (PySem.W.fnOf "_law_same" "_law_same" (defArgs s__law_same) (defBody s__law_same) (defScope s__law_same) .none kV__law_same dc__law_same pm__law_same an__law_same cd__law_same ct__law_same), sl__law_same⟩) (c__law_same : PySem.W.codeIn K cd__law_same "_law_same" = true) (k__law_same : PySem.W.keepIn K (.ref f__law_same) = true)
    (a__law_gcd : PySem.W.nsIn K mainGlobals "_law_gcd" = some (some (.ref f__law_gcd))) (l__law_gcd : K.lookup f__law_gcd = some ⟨oc__law_gcd, od__law_gcd, .func (PySem.W.fnOf "_law_gcd" "_law_gcd" (defArgs s__law_gcd) (defBody s__law_gcd) (defScope s__law_gcd) .none kV__law_gcd dc__law_gcd pm__law_gcd an__law_gcd cd__law_gcd ct__law_gcd), sl__law_gcd⟩) (c__law_gcd : PySem.W.codeIn K cd__law_gcd "_law_gcd" = true) (k__law_gcd : PySem.W.keepIn K (.ref f__law_gcd) = true)
    (a__law_spread : PySem.W.nsIn K mainGlobals "_law_spread" = some (some (.ref f__law_spread))) (l__law_spread : K.lookup f__law_spread = some ⟨oc__law_spread, od__law_spread, .func (PySem.W.fnOf "_law_spread" "_law_spread" (defArgs s__law_spread) (defBody s__law_spread) (defScope s__law_spread) .none kV__law_spread dc__law_spread pm__law_spread an__law_spread cd__law_spread ct__law_spread), sl__law_spread⟩) (c__law_spread : PySem.W.codeIn K cd__law_spread "_law_spread" = true) (k__law_spread : PySem.W.keepIn K (.ref f__law_spread) = true)
    (a__law_draw : PySem.W.nsIn K mainGlobals "_law_draw" = some (some (.ref f__law_draw))) (l__law_draw : K.lookup f__law_draw = some ⟨oc__law_draw, od__law_draw, .func (PySem.W.fnOf "_law_draw" "_law_draw" (defArgs s__law_draw) (defBody s__law_draw) (defScope s__law_draw) .none kV__law_draw dc__law_draw pm__law_draw an__law_draw cd__law_draw ct__law_draw), sl__law_draw⟩) (c__law_draw : PySem.W.codeIn K cd__law_draw "_law_draw" = true) (k__law_draw : PySem.W.keepIn K (.ref f__law_draw) = true)
    (a__law_pool : PySem.W.nsIn K mainGlobals "_law_pool" = some (some (.ref f__law_pool))) (l__law_pool : K.lookup f__law_pool = some ⟨oc__law_pool, od__law_pool, .func (PySem.W.fnOf "_law_pool" "_law_pool" (defArgs s__law_pool) (defBody s__law_pool) (defScope s__law_pool) .none kV__law_pool dc__law_pool pm__law_pool an__law_pool cd__law_pool ct__law_pool), sl__law_pool⟩) (c__law_pool : PySem.W.codeIn K cd__law_pool "_law_pool" = true) (k__law_pool : PySem.W.keepIn K (.ref f__law_pool) = true)
    (a__law_prim : PySem.W.nsIn K mainGlobals "_law_prim" = some (some (.ref f__law_prim))) (l__law_prim : K.lookup f__law_prim = some ⟨oc__law_prim, od__law_prim, .func (PySem.W.fnOf "_law_prim" "_law_prim" (defArgs s__law_prim) (defBody s__law_prim) (defScope s__law_prim) .none kV__law_prim dc__law_prim pm__law_prim an__law_prim cd__law_prim ct__law_prim), sl__law_prim⟩) (c__law_prim : PySem.W.codeIn K cd__law_prim "_law_prim" = true) (k__law_prim : PySem.W.keepIn K (.ref f__law_prim) = true)
    (a__law_point : PySem.W.nsIn K mainGlobals "_law_point" = some (some (.ref f__law_point))) (l__law_point : K.lookup f__law_point = some ⟨oc__law_point, od__law_point, .func (PySem.W.fnOf "_law_point" "_law_point" (defArgs s__law_point) (defBody s__law_point) (defScope s__law_point) .none kV__law_point dc__law_point pm__law_point an__law_point cd__law_point ct__law_point), sl__law_point⟩) (c__law_point : PySem.W.codeIn K cd__law_point "_law_point" = true) (k__law_point : PySem.W.keepIn K (.ref f__law_point) = true)
    (a__law_some_row : PySem.W.nsIn K mainGlobals "_law_some_row" = some (some (.ref f__law_some_row))) (l__law_some_row : K.lookup f__law_some_row = some ⟨oc__law_some_row, od__law_some_row, .func (PySem.W.fnOf "_law_some_row" "_law_some_row" (defArgs s__law_some_row) (defBody s__law_some_row) (defScope s__law_some_row) .none kV__law_some_row dc__law_some_row pm__law_some_row an__law_some_row cd__law_some_row ct__law_some_row), sl__law_some_row⟩) (c__law_some_row : PySem.W.codeIn K cd__law_some_row "_law_some_row" = true) (k__law_some_row : PySem.W.keepIn K (.ref f__law_some_row) = true)
    (a_Builder___init__ : PySem.W.findIn K (.ref C_Builder) "__init__" = some (some (.ref f_Builder___init__))) (i_Builder___init__ : PySem.W.isFn K (.ref f_Builder___init__) = true) (l_Builder___init__ : K.lookup f_Builder___init__ = some ⟨oc_Builder___init__, od_Builder___init__, .func (PySem.W.fnOf "__init__" "Builder.__init__" (defArgs s_Builder___init__) (defBody s_Builder___init__) (defScope s_Builder___init__) .none kV_Builder___init__ dc_Builder___init__ pm_Builder___init__ an_Builder___init__ cd_Builder___init__ ct_Builder___init__), sl_Builder___init__⟩) (c_Builder___init__ : PySem.W.codeIn K cd_Builder___init__ "Builder.__init__" = true) (k_Builder___init__ : PySem.W.keepIn K (.ref f_Builder___init__) = true)
    (a_Builder__change : PySem.W.findIn K (.ref C_Builder) "_change" = some (some (.ref f_Builder__change))) (i_Builder__change : PySem.W.isFn K (.ref f_Builder__change) = true) (l_Builder__change : K.lookup f_Builder__change = some ⟨oc_Builder__change, od_Builder__change, .func (PySem.W.fnOf "_change" "Builder._change" (defArgs s_Builder__change) (defBody s_Builder__change) (defScope s_Builder__change) .none kV_Builder__change dc_Builder__change pm_Builder__change an_Builder__change cd_Builder__change ct_Builder__change), sl_Builder__change⟩) (c_Builder__change : PySem.W.codeIn K cd_Builder__change "Builder._change" = true) (k_Builder__change : PySem.W.keepIn K (.ref f_Builder__change) = true)
    (a_Builder_add : PySem.W.findIn K (.ref C_Builder) "add" = some (some (.ref f_Builder_add))) (i_Builder_add : PySem.W.isFn K (.ref f_Builder_add) = true) (l_Builder_add : K.lookup f_Builder_add = some ⟨oc_Builder_add, od_Builder_add, .func (PySem.W.fnOf "add" "Builder.add" (defArgs s_Builder_add) (defBody s_Builder_add) (defScope s_Builder_add) .none kV_Builder_add dc_Builder_add pm_Builder_add an_Builder_add cd_Builder_add ct_Builder_add), sl_Builder_add⟩) (c_Builder_add : PySem.W.codeIn K cd_Builder_add "Builder.add" = true) (k_Builder_add : PySem.W.keepIn K (.ref f_Builder_add) = true)
    (a_Builder_cut : PySem.W.findIn K (.ref C_Builder) "cut" = some (some (.ref f_Builder_cut))) (i_Builder_cut : PySem.W.isFn K (.ref f_Builder_cut) = true) (l_Builder_cut : K.lookup f_Builder_cut = some ⟨oc_Builder_cut, od_Builder_cut, .func (PySem.W.fnOf "cut" "Builder.cut" (defArgs s_Builder_cut) (defBody s_Builder_cut) (defScope s_Builder_cut) .none kV_Builder_cut dc_Builder_cut pm_Builder_cut an_Builder_cut cd_Builder_cut ct_Builder_cut), sl_Builder_cut⟩) (c_Builder_cut : PySem.W.codeIn K cd_Builder_cut "Builder.cut" = true) (k_Builder_cut : PySem.W.keepIn K (.ref f_Builder_cut) = true)
    (a_Builder_remove : PySem.W.findIn K (.ref C_Builder) "remove" = some (some (.ref f_Builder_remove))) (i_Builder_remove : PySem.W.isFn K (.ref f_Builder_remove) = true) (l_Builder_remove : K.lookup f_Builder_remove = some ⟨oc_Builder_remove, od_Builder_remove, .func (PySem.W.fnOf "remove" "Builder.remove" (defArgs s_Builder_remove) (defBody s_Builder_remove) (defScope s_Builder_remove) .none kV_Builder_remove dc_Builder_remove pm_Builder_remove an_Builder_remove cd_Builder_remove ct_Builder_remove), sl_Builder_remove⟩) (c_Builder_remove : PySem.W.codeIn K cd_Builder_remove "Builder.remove" = true) (k_Builder_remove : PySem.W.keepIn K (.ref f_Builder_remove) = true)
    (a_Builder_uncut : PySem.W.findIn K (.ref C_Builder) "uncut" = some (some (.ref f_Builder_uncut))) (i_Builder_uncut : PySem.W.isFn K (.ref f_Builder_uncut) = true) (l_Builder_uncut : K.lookup f_Builder_uncut = some ⟨oc_Builder_uncut, od_Builder_uncut, .func (PySem.W.fnOf "uncut" "Builder.uncut" (defArgs s_Builder_uncut) (defBody s_Builder_uncut) (defScope s_Builder_uncut) .none kV_Builder_uncut dc_Builder_uncut pm_Builder_uncut an_Builder_uncut cd_Builder_uncut ct_Builder_uncut), sl_Builder_uncut⟩) (c_Builder_uncut : PySem.W.codeIn K cd_Builder_uncut "Builder.uncut" = true) (k_Builder_uncut : PySem.W.keepIn K (.ref f_Builder_uncut) = true)
    (a_Builder_undo : PySem.W.findIn K (.ref C_Builder) "undo" = some (some (.ref f_Builder_undo))) (i_Builder_undo : PySem.W.isFn K (.ref f_Builder_undo) = true) (l_Builder_undo : K.lookup f_Builder_undo = some ⟨oc_Builder_undo, od_Builder_undo, .func (PySem.W.fnOf "undo" "Builder.undo" (defArgs s_Builder_undo) (defBody s_Builder_undo) (defScope s_Builder_undo) .none kV_Builder_undo dc_Builder_undo pm_Builder_undo an_Builder_undo cd_Builder_undo ct_Builder_undo), sl_Builder_undo⟩) (c_Builder_undo : PySem.W.codeIn K cd_Builder_undo "Builder.undo" = true) (k_Builder_undo : PySem.W.keepIn K (.ref f_Builder_undo) = true)
    (a_Builder_points : PySem.W.findIn K (.ref C_Builder) "points" = some (some (.ref f_Builder_points))) (i_Builder_points : PySem.W.isFn K (.ref f_Builder_points) = true) (l_Builder_points : K.lookup f_Builder_points = some ⟨oc_Builder_points, od_Builder_points, .func (PySem.W.fnOf "points" "Builder.points" (defArgs s_Builder_points) (defBody s_Builder_points) (defScope s_Builder_points) .none kV_Builder_points dc_Builder_points pm_Builder_points an_Builder_points cd_Builder_points ct_Builder_points), sl_Builder_points⟩) (c_Builder_points : PySem.W.codeIn K cd_Builder_points "Builder.points" = true) (k_Builder_points : PySem.W.keepIn K (.ref f_Builder_points) = true)
    (a_Builder_inequalities : PySem.W.findIn K (.ref C_Builder) "inequalities" = some (some (.ref f_Builder_inequalities))) (i_Builder_inequalities : PySem.W.isFn K (.ref f_Builder_inequalities) = true) (l_Builder_inequalities : K.lookup f_Builder_inequalities = some ⟨oc_Builder_inequalities, od_Builder_inequalities, .func (PySem.W.fnOf "inequalities" "Builder.inequalities" (defArgs s_Builder_inequalities) (defBody s_Builder_inequalities) (defScope s_Builder_inequalities) .none kV_Builder_inequalities dc_Builder_inequalities pm_Builder_inequalities an_Builder_inequalities cd_Builder_inequalities ct_Builder_inequalities), sl_Builder_inequalities⟩) (c_Builder_inequalities : PySem.W.codeIn K cd_Builder_inequalities "Builder.inequalities" = true) (k_Builder_inequalities : PySem.W.keepIn K (.ref f_Builder_inequalities) = true)
    (a__law_call : PySem.W.nsIn K mainGlobals "_law_call" = some (some (.ref f__law_call))) (l__law_call : K.lookup f__law_call = some ⟨oc__law_call, od__law_call, .func (PySem.W.fnOf "_law_call" "_law_call" (defArgs s__law_call) (defBody s__law_call) (defScope s__law_call) .none kV__law_call dc__law_call pm__law_call an__law_call cd__law_call ct__law_call), sl__law_call⟩) (c__law_call : PySem.W.codeIn K cd__law_call "_law_call" = true) (k__law_call : PySem.W.keepIn K (.ref f__law_call) = true)
    (a_law : PySem.W.nsIn K mainGlobals "law" = some (some (.ref f_law))) (l_law : K.lookup f_law = some ⟨oc_law, od_law, .func (PySem.W.fnOf "law" "law" (defArgs s_law) (defBody s_law) (defScope s_law) .none kV_law dc_law pm_law an_law cd_law ct_law), sl_law⟩) (c_law : PySem.W.codeIn K cd_law "law" = true) (k_law : PySem.W.keepIn K (.ref f_law) = true)
    (eg_NoSuch : PySem.W.nsIn K mainGlobals "NoSuch" = some (some (.ref D_NoSuch))) (ex_NoSuch : PySem.W.excIn K D_NoSuch VE "ValueError.__new__" = true) (ek_NoSuch : PySem.W.keepIn K (.ref D_NoSuch) = true) (eb_NoSuch : PySem.W.subIn K (.ref D_NoSuch) (.type "BaseException") = some true) (et_NoSuch : PySem.W.typeIn K (.ref D_NoSuch) = some (.type "type")) (ed_NoSuch : PySem.W.hasDictIn K D_NoSuch = true) (es_NoSuch : PySem.W.subIn K (.ref D_NoSuch) (.ref D_NoSuch) = some true)
    (eg_Empty : PySem.W.nsIn K mainGlobals "Empty" = some (some (.ref D_Empty)))
    (xg_NoSuch : PySem.W.findIn K (.ref D_NoSuch) "__getattribute__" = some (some (.builtin "BaseException.__getattribute__"))) (xk_NoSuch : PySem.W.findIn K (.ref D_NoSuch) "__getattr__" = some none) (xa_NoSuch : PySem.W.findIn K (.ref D_NoSuch) "__class__" = some (some (.builtin "object.__class__"))) (xn_NoSuch : PySem.W.specialIn K (.builtin "object.__class__") "__get__" = some (some (.builtin "getset_descriptor.__get__"))) (xt_NoSuch : PySem.W.takesIn K (.builtin "object.__class__") = some true) (xm_NoSuch : PySem.W.mroIn K D_NoSuch (.type "object") = some true)
    (kit_NoSuch_Empty : PySem.W.kitOne K (.ref D_NoSuch) (.ref D_Empty) = some false)
    (z_len : PySem.W.nsIn K mainGlobals "len" = some none) (z_range : PySem.W.nsIn K mainGlobals "range" = some none) (z_int : PySem.W.nsIn K mainGlobals "int" = some none) (z_list : PySem.W.nsIn K mainGlobals "list" = some none) (z_tuple : PySem.W.nsIn K mainGlobals "tuple" = some none) (z_bool : PySem.W.nsIn K mainGlobals "bool" = some none) (z_isinstance : PySem.W.nsIn K mainGlobals "isinstance" = some none) (z_abs : PySem.W.nsIn K mainGlobals "abs" = some none) (z_sum : PySem.W.nsIn K mainGlobals "sum" = some none) (z_zip : PySem.W.nsIn K mainGlobals "zip" = some none) (z_str : PySem.W.nsIn K mainGlobals "str" = some none) (z_any : PySem.W.nsIn K mainGlobals "any" = some none) (z_all : PySem.W.nsIn K mainGlobals "all" = some none)
    (z_gcd : PySem.W.nsIn K mainGlobals "gcd" = some (some (.builtin "math.gcd")))
    (z_lcm : PySem.W.nsIn K mainGlobals "lcm" = some (some (.builtin "math.lcm")))
    : ∃ fd : FuncData, (∀ (s : Shared) (v : Value), BindsTo s fd ⟨[v], []⟩ [("script", v)]) ∧ ∀ base : Heap, K.In base → base.Ns mainGlobals mg → FnOk l.prog w K mg base CX0 5 fa fd ["script"] (spLaw K) := by
  have e := hfa.symm.trans (PySem.W.mg_of X G a_law)
  cases e
  have F__law_same := fun_mk (st := s__law_same) l__law_same c__law_same k__law_same
  have b__law_same := F__law_same.binds (ps := ["actual", "due"]) fun _ _ _ _ _ _ us hl => match us, hl with | [_, _], _ => rfl
  have F__law_gcd := fun_mk (st := s__law_gcd) l__law_gcd c__law_gcd k__law_gcd
  have b__law_gcd := F__law_gcd.binds (ps := ["a", "b"]) fun _ _ _ _ _ _ us hl => match us, hl with | [_, _], _ => rfl
  have F__law_spread := fun_mk (st := s__law_spread) l__law_spread c__law_spread k__law_spread
  have b__law_spread := F__law_spread.binds (ps := ["cell"]) fun _ _ _ _ _ _ us hl => match us, hl with | [_], _ => rfl
  have F__law_draw := fun_mk (st := s__law_draw) l__law_draw c__law_draw k__law_draw
  have b__law_draw := F__law_draw.binds (ps := ["pool", "many"]) fun _ _ _ _ _ _ us hl => match us, hl with | [_, _], _ => rfl
  have F__law_pool := fun_mk (st := s__law_pool) l__law_pool c__law_pool k__law_pool
  have b__law_pool := F__law_pool.binds (ps := ["script"]) fun _ _ _ _ _ _ us hl => match us, hl with | [_], _ => rfl
  have F__law_prim := fun_mk (st := s__law_prim) l__law_prim c__law_prim k__law_prim
  have b__law_prim := F__law_prim.binds (ps := ["v"]) fun _ _ _ _ _ _ us hl => match us, hl with | [_], _ => rfl
  have F__law_point := fun_mk (st := s__law_point) l__law_point c__law_point k__law_point
  have b__law_point := F__law_point.binds (ps := ["pool", "d", "most"]) fun _ _ _ _ _ _ us hl => match us, hl with | [_, _, _], _ => rfl
  have F__law_some_row := fun_mk (st := s__law_some_row) l__law_some_row c__law_some_row k__law_some_row
  have b__law_some_row := F__law_some_row.binds (ps := ["pool", "d"]) fun _ _ _ _ _ _ us hl => match us, hl with | [_, _], _ => rfl
  have F_Builder___init__ := fun_mk (st := s_Builder___init__) l_Builder___init__ c_Builder___init__ k_Builder___init__
  have b_Builder___init__ := F_Builder___init__.binds (ps := ["self", "d"]) fun _ _ _ _ _ _ us hl => match us, hl with | [_, _], _ => rfl
  have F_Builder__change := fun_mk (st := s_Builder__change) l_Builder__change c_Builder__change k_Builder__change
  have b_Builder__change := F_Builder__change.binds (ps := ["self", "points", "inequalities"]) fun _ _ _ _ _ _ us hl => match us, hl with | [_, _, _], _ => rfl
  have F_Builder_add := fun_mk (st := s_Builder_add) l_Builder_add c_Builder_add k_Builder_add
  have b_Builder_add := F_Builder_add.binds (ps := ["self", "point"]) fun _ _ _ _ _ _ us hl => match us, hl with | [_, _], _ => rfl
  have F_Builder_cut := fun_mk (st := s_Builder_cut) l_Builder_cut c_Builder_cut k_Builder_cut
  have b_Builder_cut := F_Builder_cut.binds (ps := ["self", "inequality"]) fun _ _ _ _ _ _ us hl => match us, hl with | [_, _], _ => rfl
  have F_Builder_remove := fun_mk (st := s_Builder_remove) l_Builder_remove c_Builder_remove k_Builder_remove
  have b_Builder_remove := F_Builder_remove.binds (ps := ["self", "point"]) fun _ _ _ _ _ _ us hl => match us, hl with | [_, _], _ => rfl
  have F_Builder_uncut := fun_mk (st := s_Builder_uncut) l_Builder_uncut c_Builder_uncut k_Builder_uncut
  have b_Builder_uncut := F_Builder_uncut.binds (ps := ["self", "inequality"]) fun _ _ _ _ _ _ us hl => match us, hl with | [_, _], _ => rfl
  have F_Builder_undo := fun_mk (st := s_Builder_undo) l_Builder_undo c_Builder_undo k_Builder_undo
  have b_Builder_undo := F_Builder_undo.binds (ps := ["self"]) fun _ _ _ _ _ _ us hl => match us, hl with | [_], _ => rfl
  have F_Builder_points := fun_mk (st := s_Builder_points) l_Builder_points c_Builder_points k_Builder_points
  have b_Builder_points := F_Builder_points.binds (ps := ["self"]) fun _ _ _ _ _ _ us hl => match us, hl with | [_], _ => rfl
  have F_Builder_inequalities := fun_mk (st := s_Builder_inequalities) l_Builder_inequalities c_Builder_inequalities k_Builder_inequalities
  have b_Builder_inequalities := F_Builder_inequalities.binds (ps := ["self"]) fun _ _ _ _ _ _ us hl => match us, hl with | [_], _ => rfl
  have F__law_call := fun_mk (st := s__law_call) l__law_call c__law_call k__law_call
  have b__law_call := F__law_call.binds (ps := ["builder", "way", "value"]) fun _ _ _ _ _ _ us hl => match us, hl with | [_, _, _], _ => rfl
  have F_law := fun_mk (st := s_law) l_law c_law k_law
  have T_Builder : BCls K C_Builder := ⟨⟨pg_Builder, hd_Builder, po_Builder, sa_Builder⟩, na_Builder__dimension, na_Builder__points, na_Builder__inequalities, na_Builder__earlier⟩
  have Z : Glb mg := ⟨PySem.W.mg_none_of X G z_len, PySem.W.mg_none_of X G z_range, PySem.W.mg_none_of X G z_int, PySem.W.mg_none_of X G z_list, PySem.W.mg_none_of X G z_tuple, PySem.W.mg_none_of X G z_bool, PySem.W.mg_none_of X G z_isinstance, PySem.W.mg_none_of X G z_abs, PySem.W.mg_none_of X G z_sum, PySem.W.mg_none_of X G z_zip, PySem.W.mg_none_of X G z_str, PySem.W.mg_none_of X G z_any, PySem.W.mg_none_of X G z_all, PySem.W.mg_of X G z_gcd, PySem.W.mg_of X G z_lcm⟩
  have E_NoSuch : Er K mg "NoSuch" D_NoSuch := ⟨PySem.W.mg_of X G eg_NoSuch, ex_NoSuch, ek_NoSuch, eb_NoSuch, et_NoSuch, ed_NoSuch, es_NoSuch⟩
  have X_NoSuch : ExcC K D_NoSuch := ⟨xg_NoSuch, xk_NoSuch, eb_NoSuch, ed_NoSuch, xa_NoSuch, xn_NoSuch, xt_NoSuch, xm_NoSuch⟩
  refine ⟨PySem.W.fnOf "law" "law" (defArgs s_law) (defBody s_law) (defScope s_law) .none kV_law dc_law pm_law an_law cd_law ct_law, fun s v => .of_eq rfl, fun base _ _ => ?_⟩
  have S__law_pool_4 : FnOk l.prog w K mg base CX0 4 f__law_pool _ ["script"] (spPool K) := ok_pool (k := 3) F__law_pool Z 
  have C__law_pool_4 : Call l.prog w K mg base 4 "_law_pool" ["script"] (spPool K) := ⟨f__law_pool, _, S__law_pool_4, PySem.W.mg_of X G a__law_pool, F__law_pool.kp, b__law_pool⟩
  have S__law_spread_3 : FnOk l.prog w K mg base CX0 3 f__law_spread _ ["cell"] spSpread := ok_spread (k := 2) F__law_spread Z 
  have C__law_spread_3 : Call l.prog w K mg base 3 "_law_spread" ["cell"] spSpread := ⟨f__law_spread, _, S__law_spread_3, PySem.W.mg_of X G a__law_spread, F__law_spread.kp, b__law_spread⟩
  have S__law_draw_4 : FnOk l.prog w K mg base CX0 4 f__law_draw _ ["pool", "many"] spDraw := ok_draw (k := 3) F__law_draw Z  C__law_spread_3
  have C__law_draw_4 : Call l.prog w K mg base 4 "_law_draw" ["pool", "many"] spDraw := ⟨f__law_draw, _, S__law_draw_4, PySem.W.mg_of X G a__law_draw, F__law_draw.kp, b__law_draw⟩
  have S_same_0_1 := ok_same (P := l.prog) (w := w) (base := base) (k := 0) (n := 0) F__law_same Z (fun m e => absurd e (by omega)) (PySem.W.mg_of X G a__law_same) b__law_same
  have S_same_1_2 := ok_same (P := l.prog) (w := w) (base := base) (k := 1) (n := 1) F__law_same Z (fun m e => by cases e; exact S_same_0_1) (PySem.W.mg_of X G a__law_same) b__law_same
  have S_same_2_3 := ok_same (P := l.prog) (w := w) (base := base) (k := 2) (n := 2) F__law_same Z (fun m e => by cases e; exact S_same_1_2) (PySem.W.mg_of X G a__law_same) b__law_same
  have S_same_3_4 := ok_same (P := l.prog) (w := w) (base := base) (k := 3) (n := 3) F__law_same Z (fun m e => by cases e; exact S_same_2_3) (PySem.W.mg_of X G a__law_same) b__law_same
  have DS_same_3_4 : Call l.prog w K mg base 4 "_law_same" ["actual", "due"] (spSame 3) := ⟨f__law_same, _, S_same_3_4, PySem.W.mg_of X G a__law_same, F__law_same.kp, b__law_same⟩
  have S__law_spread_2 : FnOk l.prog w K mg base CX0 2 f__law_spread _ ["cell"] spSpread := ok_spread (k := 1) F__law_spread Z 
  have C__law_spread_2 : Call l.prog w K mg base 2 "_law_spread" ["cell"] spSpread := ⟨f__law_spread, _, S__law_spread_2, PySem.W.mg_of X G a__law_spread, F__law_spread.kp, b__law_spread⟩
  have S__law_draw_3 : FnOk l.prog w K mg base CX0 3 f__law_draw _ ["pool", "many"] spDraw := ok_draw (k := 2) F__law_draw Z  C__law_spread_2
  have C__law_draw_3 : Call l.prog w K mg base 3 "_law_draw" ["pool", "many"] spDraw := ⟨f__law_draw, _, S__law_draw_3, PySem.W.mg_of X G a__law_draw, F__law_draw.kp, b__law_draw⟩
  have S__law_gcd_2 : FnOk l.prog w K mg base CX0 2 f__law_gcd _ ["a", "b"] spGcd := ok_gcd (k := 1) F__law_gcd Z 
  have C__law_gcd_2 : Call l.prog w K mg base 2 "_law_gcd" ["a", "b"] spGcd := ⟨f__law_gcd, _, S__law_gcd_2, PySem.W.mg_of X G a__law_gcd, F__law_gcd.kp, b__law_gcd⟩
  have S__law_prim_3 : FnOk l.prog w K mg base CX0 3 f__law_prim _ ["v"] spPrimK := ok_lprimK (k := 2) F__law_prim Z  C__law_gcd_2
  have C__law_prim_3 : Call l.prog w K mg base 3 "_law_prim" ["v"] spPrimK := ⟨f__law_prim, _, S__law_prim_3, PySem.W.mg_of X G a__law_prim, F__law_prim.kp, b__law_prim⟩
  have S__law_point_4 : FnOk l.prog w K mg base CX0 4 f__law_point _ ["pool", "d", "most"] spPoint := ok_point (k := 3) F__law_point Z  C__law_draw_3 C__law_prim_3
  have C__law_point_4 : Call l.prog w K mg base 4 "_law_point" ["pool", "d", "most"] spPoint := ⟨f__law_point, _, S__law_point_4, PySem.W.mg_of X G a__law_point, F__law_point.kp, b__law_point⟩
  have S__law_some_row_4 : FnOk l.prog w K mg base CX0 4 f__law_some_row _ ["pool", "d"] spSomeRow := ok_srow (k := 3) F__law_some_row Z  C__law_draw_3 C__law_prim_3
  have C__law_some_row_4 : Call l.prog w K mg base 4 "_law_some_row" ["pool", "d"] spSomeRow := ⟨f__law_some_row, _, S__law_some_row_4, PySem.W.mg_of X G a__law_some_row, F__law_some_row.kp, b__law_some_row⟩
  have S_Builder__change_2 : FnOk l.prog w K mg base CX0 2 f_Builder__change _ ["self", "points", "inequalities"] (spChange C_Builder) := ok_change (k := 1) F_Builder__change T_Builder
  have C_Builder__change_2 : MCall l.prog w K mg base 2 C_Builder "_change" ["self", "points", "inequalities"] (spChange C_Builder) := ⟨f_Builder__change, _, S_Builder__change_2, T_Builder.cl, ⟨a_Builder__change, i_Builder__change, k_Builder__change⟩, b_Builder__change⟩
  have S_Builder_add_3 : FnOk l.prog w K mg base CX0 3 f_Builder_add _ ["self", "point"] (sp_add C_Builder) := ok_add (k := 2) F_Builder_add T_Builder  C_Builder__change_2
  have C_Builder_add_3 : MCall l.prog w K mg base 3 C_Builder "add" ["self", "point"] (sp_add C_Builder) := ⟨f_Builder_add, _, S_Builder_add_3, T_Builder.cl, ⟨a_Builder_add, i_Builder_add, k_Builder_add⟩, b_Builder_add⟩
  have S_Builder_remove_3 : FnOk l.prog w K mg base (L2.CX l.prog w) 3 f_Builder_remove _ ["self", "point"] (sp_remove C_Builder D_NoSuch) := ok_remove (k := 2) F_Builder_remove E_NoSuch T_Builder  C_Builder__change_2
  have C_Builder_remove_3 : MCallX l.prog w K mg base 3 C_Builder "remove" ["self", "point"] (sp_remove C_Builder D_NoSuch) := ⟨f_Builder_remove, _, S_Builder_remove_3, T_Builder.cl, ⟨a_Builder_remove, i_Builder_remove, k_Builder_remove⟩, b_Builder_remove⟩
  have S_Builder_cut_3 : FnOk l.prog w K mg base CX0 3 f_Builder_cut _ ["self", "inequality"] (sp_cut C_Builder) := ok_cut (k := 2) F_Builder_cut T_Builder  C_Builder__change_2
  have C_Builder_cut_3 : MCall l.prog w K mg base 3 C_Builder "cut" ["self", "inequality"] (sp_cut C_Builder) := ⟨f_Builder_cut, _, S_Builder_cut_3, T_Builder.cl, ⟨a_Builder_cut, i_Builder_cut, k_Builder_cut⟩, b_Builder_cut⟩
  have S_Builder_uncut_3 : FnOk l.prog w K mg base (L2.CX l.prog w) 3 f_Builder_uncut _ ["self", "inequality"] (sp_uncut C_Builder D_NoSuch) := ok_uncut (k := 2) F_Builder_uncut E_NoSuch T_Builder  C_Builder__change_2
  have C_Builder_uncut_3 : MCallX l.prog w K mg base 3 C_Builder "uncut" ["self", "inequality"] (sp_uncut C_Builder D_NoSuch) := ⟨f_Builder_uncut, _, S_Builder_uncut_3, T_Builder.cl, ⟨a_Builder_uncut, i_Builder_uncut, k_Builder_uncut⟩, b_Builder_uncut⟩
  have S_Builder_undo_3 : FnOk l.prog w K mg base CX0 3 f_Builder_undo _ ["self"] (sp_undo C_Builder) := ok_undo (k := 2) F_Builder_undo T_Builder
  have C_Builder_undo_3 : MCall l.prog w K mg base 3 C_Builder "undo" ["self"] (sp_undo C_Builder) := ⟨f_Builder_undo, _, S_Builder_undo_3, T_Builder.cl, ⟨a_Builder_undo, i_Builder_undo, k_Builder_undo⟩, b_Builder_undo⟩
  have S__law_call_4 : FnOk l.prog w K mg base CX0 4 f__law_call _ ["builder", "way", "value"] (spCall C_Builder) := ok_call (k := 3) F__law_call Z E_NoSuch X_NoSuch (PySem.W.mg_of X G eg_Empty) kit_NoSuch_Empty C_Builder_add_3 C_Builder_remove_3 C_Builder_cut_3 C_Builder_uncut_3 C_Builder_undo_3
  have C__law_call_4 : Call l.prog w K mg base 4 "_law_call" ["builder", "way", "value"] (spCall C_Builder) := ⟨f__law_call, _, S__law_call_4, PySem.W.mg_of X G a__law_call, F__law_call.kp, b__law_call⟩
  have S_Builder___init___3 : FnOk l.prog w K mg base CX0 3 f_Builder___init__ _ ["self", "d"] (spInit C_Builder) := ok_init (k := 2) F_Builder___init__ T_Builder
  have S_Builder_points_4 : FnOk l.prog w K mg base CX0 4 f_Builder_points _ ["self"] (sp_points C_Builder) := ok_points (k := 3) F_Builder_points Z T_Builder
  have C_Builder_points_4 : MCall l.prog w K mg base 4 C_Builder "points" ["self"] (sp_points C_Builder) := ⟨f_Builder_points, _, S_Builder_points_4, T_Builder.cl, ⟨a_Builder_points, i_Builder_points, k_Builder_points⟩, b_Builder_points⟩
  have S_Builder_inequalities_4 : FnOk l.prog w K mg base CX0 4 f_Builder_inequalities _ ["self"] (sp_inequalities C_Builder) := ok_inequalities (k := 3) F_Builder_inequalities Z T_Builder
  have C_Builder_inequalities_4 : MCall l.prog w K mg base 4 C_Builder "inequalities" ["self"] (sp_inequalities C_Builder) := ⟨f_Builder_inequalities, _, S_Builder_inequalities_4, T_Builder.cl, ⟨a_Builder_inequalities, i_Builder_inequalities, k_Builder_inequalities⟩, b_Builder_inequalities⟩
  exact ok_law (P := l.prog) (w := w) (base := base) (k := 3) F_law Z  C__law_pool_4 C__law_draw_4 DS_same_3_4 C__law_point_4 C__law_some_row_4 C__law_call_4 ⟨f_Builder___init__, _, S_Builder___init___3, ⟨mk_Builder, a_Builder___init__, i_Builder___init__, kc_Builder⟩, PySem.W.mg_of X G ac_Builder, b_Builder___init__⟩ C_Builder_points_4 C_Builder_inequalities_4
end HwP
open PySem PySem.W PyProof.Rows
set_option maxHeartbeats 0 in
theorem PySem.Challenge.cw_hullwright_k60_builders_changed_holds : PySem.Challenge.rw_hullwright_k60_builders_changed.Holds := by
  w_on; o_law; k_head; (case hw => w_witness2)
  k_fill
  refine L2.walk_of (l := PySem.Challenge.rw_hullwright_k60_builders_changed) (n := 63) (k := 5) (x := "script") (CX := fun _ => L2.CX0) (sp := fun w => HwP.spLaw _) rfl (by decide) rfl ⟨rfl, by decide, by decide⟩ (fun w h Y => PySem.W.kIn_of Y) ?F (fun _ _ a ns hl _ hS => ⟨a, ns, rfl, hS, fun _ => rfl⟩) (fun _ _ _ _ _ h => h)
  case F =>
    intro w mg fa h KX G hmg
    refine' HwP.all_mk KX G hmg (ac_Builder := ?ac_Builder) (pg_Builder := ?pg_Builder) (hd_Builder := ?hd_Builder) (po_Builder := ?po_Builder) (sa_Builder := ?sa_Builder) (mk_Builder := ?mk_Builder) (kc_Builder := ?kc_Builder) (na_Builder__dimension := ?na_Builder__dimension) (na_Builder__points := ?na_Builder__points) (na_Builder__inequalities := ?na_Builder__inequalities) (na_Builder__earlier := ?na_Builder__earlier) (a__law_same := ?a__law_same) (l__law_same := ?l__law_same) (c__law_same := ?c__law_same) (k__law_same := ?k__law_same) (a__law_gcd := ?a__law_gcd) (l__law_gcd := ?l__law_gcd) (c__law_gcd := ?c__law_gcd) (k__law_gcd := ?k__law_gcd) (a__law_spread := ?a__law_spread) (l__law_spread := ?l__law_spread) (c__law_spread := ?c__law_spread) (k__law_spread := ?k__law_spread) (a__law_draw := ?a__law_draw) (l__law_draw := ?l__law_draw) (c__law_draw := ?c__law_draw) (k__law_draw := ?k__law_draw) (a__law_pool := ?a__law_pool) (l__law_pool := ?l__law_pool) (c__law_pool := ?c__law_pool) (k__law_pool := ?k__law_pool) (a__law_prim := ?a__law_prim) (l__law_prim := ?l__law_prim) (c__law_prim := ?c__law_prim) (k__law_prim := ?k__law_prim) (a__law_point := ?a__law_point) (l__law_point := ?l__law_point) (c__law_point := ?c__law_point) (k__law_point := ?k__law_point) (a__law_some_row := ?a__law_some_row) (l__law_some_row := ?l__law_some_row) (c__law_some_row := ?c__law_some_row) (k__law_some_row := ?k__law_some_row) (a_Builder___init__ := ?a_Builder___init__) (i_Builder___init__ := ?i_Builder___init__) (l_Builder___init__ := ?l_Builder___init__) (c_Builder___init__ := ?c_Builder___init__) (k_Builder___init__ := ?k_Builder___init__) (a_Builder__change := ?a_Builder__change) (i_Builder__change := ?i_Builder__change) (l_Builder__change := ?l_Builder__change) (c_Builder__change := ?c_Builder__change) (k_Builder__change := ?k_Builder__change) (a_Builder_add := ?a_Builder_add) (i_Builder_add := ?i_Builder_add) (l_Builder_add := ?l_Builder_add) (c_Builder_add := ?c_Builder_add) (k_Builder_add := ?k_Builder_add) (a_Builder_cut := ?a_Builder_cut) (i_Builder_cut := ?i_Builder_cut) (l_Builder_cut := ?l_Builder_cut) (c_Builder_cut := ?c_Builder_cut) (k_Builder_cut := ?k_Builder_cut) (a_Builder_remove := ?a_Builder_remove) (i_Builder_remove := ?i_Builder_remove) (l_Builder_remove := ?l_Builder_remove) (c_Builder_remove := ?c_Builder_remove) (k_Builder_remove := ?k_Builder_remove) (a_Builder_uncut := ?a_Builder_uncut) (i_Builder_uncut := ?i_Builder_uncut) (l_Builder_uncut := ?l_Builder_uncut) (c_Builder_uncut := ?c_Builder_uncut) (k_Builder_uncut := ?k_Builder_uncut) (a_Builder_undo := ?a_Builder_undo) (i_Builder_undo := ?i_Builder_undo) (l_Builder_undo := ?l_Builder_undo) (c_Builder_undo := ?c_Builder_undo) (k_Builder_undo := ?k_Builder_undo) (a_Builder_points := ?a_Builder_points) (i_Builder_points := ?i_Builder_points) (l_Builder_points := ?l_Builder_points) (c_Builder_points := ?c_Builder_points) (k_Builder_points := ?k_Builder_points) (a_Builder_inequalities := ?a_Builder_inequalities) (i_Builder_inequalities := ?i_Builder_inequalities) (l_Builder_inequalities := ?l_Builder_inequalities) (c_Builder_inequalities := ?c_Builder_inequalities) (k_Builder_inequalities := ?k_Builder_inequalities) (a__law_call := ?a__law_call) (l__law_call := ?l__law_call) (c__law_call := ?c__law_call) (k__law_call := ?k__law_call) (a_law := ?a_law) (l_law := ?l_law) (c_law := ?c_law) (k_law := ?k_law) (eg_NoSuch := ?eg_NoSuch) (ex_NoSuch := ?ex_NoSuch) (ek_NoSuch := ?ek_NoSuch) (eb_NoSuch := ?eb_NoSuch) (et_NoSuch := ?et_NoSuch) (ed_NoSuch := ?ed_NoSuch) (es_NoSuch := ?es_NoSuch) (eg_Empty := ?eg_Empty) (xg_NoSuch := ?xg_NoSuch) (xk_NoSuch := ?xk_NoSuch) (xa_NoSuch := ?xa_NoSuch) (xn_NoSuch := ?xn_NoSuch) (xt_NoSuch := ?xt_NoSuch) (xm_NoSuch := ?xm_NoSuch) (kit_NoSuch_Empty := ?kit_NoSuch_Empty) (z_len := ?z_len) (z_range := ?z_range) (z_int := ?z_int) (z_list := ?z_list) (z_tuple := ?z_tuple) (z_bool := ?z_bool) (z_isinstance := ?z_isinstance) (z_abs := ?z_abs) (z_sum := ?z_sum) (z_zip := ?z_zip) (z_str := ?z_str) (z_any := ?z_any) (z_all := ?z_all) (z_gcd := ?z_gcd) (z_lcm := ?z_lcm)
    (case ac_Builder => k_is)
    (case pg_Builder => k_is)
    (case hd_Builder => k_is)
    (case po_Builder => k_is)
    (case sa_Builder => k_is)
    (case mk_Builder => k_is)
    (case kc_Builder => k_is)
    (case na_Builder__dimension => k_is)
    (case na_Builder__points => k_is)
    (case na_Builder__inequalities => k_is)
    (case na_Builder__earlier => k_is)
    (case a__law_same => k_is)
    (case l__law_same => k_is)
    (case c__law_same => k_is)
    (case k__law_same => k_is)
    (case a__law_gcd => k_is)
    (case l__law_gcd => k_is)
    (case c__law_gcd => k_is)
    (case k__law_gcd => k_is)
    (case a__law_spread => k_is)
    (case l__law_spread => k_is)
    (case c__law_spread => k_is)
    (case k__law_spread => k_is)
    (case a__law_draw => k_is)
    (case l__law_draw => k_is)
    (case c__law_draw => k_is)
    (case k__law_draw => k_is)
    (case a__law_pool => k_is)
    (case l__law_pool => k_is)
    (case c__law_pool => k_is)
    (case k__law_pool => k_is)
    (case a__law_prim => k_is)
    (case l__law_prim => k_is)
    (case c__law_prim => k_is)
    (case k__law_prim => k_is)
    (case a__law_point => k_is)
    (case l__law_point => k_is)
    (case c__law_point => k_is)
    (case k__law_point => k_is)
    (case a__law_some_row => k_is)
    (case l__law_some_row => k_is)
    (case c__law_some_row => k_is)
    (case k__law_some_row => k_is)
    (case a_Builder___init__ => k_is)
    (case i_Builder___init__ => k_is)
    (case l_Builder___init__ => k_is)
    (case c_Builder___init__ => k_is)
    (case k_Builder___init__ => k_is)
    (case a_Builder__change => k_is)
    (case i_Builder__change => k_is)
    (case l_Builder__change => k_is)
    (case c_Builder__change => k_is)
    (case k_Builder__change => k_is)
    (case a_Builder_add => k_is)
    (case i_Builder_add => k_is)
    (case l_Builder_add => k_is)
    (case c_Builder_add => k_is)
    (case k_Builder_add => k_is)
    (case a_Builder_cut => k_is)
    (case i_Builder_cut => k_is)
    (case l_Builder_cut => k_is)
    (case c_Builder_cut => k_is)
    (case k_Builder_cut => k_is)
    (case a_Builder_remove => k_is)
    (case i_Builder_remove => k_is)
    (case l_Builder_remove => k_is)
    (case c_Builder_remove => k_is)
    (case k_Builder_remove => k_is)
    (case a_Builder_uncut => k_is)
    (case i_Builder_uncut => k_is)
    (case l_Builder_uncut => k_is)
    (case c_Builder_uncut => k_is)
    (case k_Builder_uncut => k_is)
    (case a_Builder_undo => k_is)
    (case i_Builder_undo => k_is)
    (case l_Builder_undo => k_is)
    (case c_Builder_undo => k_is)
    (case k_Builder_undo => k_is)
    (case a_Builder_points => k_is)
    (case i_Builder_points => k_is)
    (case l_Builder_points => k_is)
    (case c_Builder_points => k_is)
    (case k_Builder_points => k_is)
    (case a_Builder_inequalities => k_is)
    (case i_Builder_inequalities => k_is)
    (case l_Builder_inequalities => k_is)
    (case c_Builder_inequalities => k_is)
    (case k_Builder_inequalities => k_is)
    (case a__law_call => k_is)
    (case l__law_call => k_is)
    (case c__law_call => k_is)
    (case k__law_call => k_is)
    (case a_law => k_is)
    (case l_law => k_is)
    (case c_law => k_is)
    (case k_law => k_is)
    (case eg_NoSuch => k_is)
    (case ex_NoSuch => k_exc)
    (case ek_NoSuch => k_is)
    (case eb_NoSuch => k_is)
    (case et_NoSuch => k_is)
    (case ed_NoSuch => k_is)
    (case es_NoSuch => first | rfl | k_is)
    (case eg_Empty => k_is)
    (case xg_NoSuch => k_is)
    (case xk_NoSuch => k_is)
    (case xa_NoSuch => k_is)
    (case xn_NoSuch => first | rfl | k_is)
    (case xt_NoSuch => first | rfl | k_is)
    (case xm_NoSuch => k_is)
    (case kit_NoSuch_Empty => first | rfl | k_is)
    (case z_len => k_is)
    (case z_range => k_is)
    (case z_int => k_is)
    (case z_list => k_is)
    (case z_tuple => k_is)
    (case z_bool => k_is)
    (case z_isinstance => k_is)
    (case z_abs => k_is)
    (case z_sum => k_is)
    (case z_zip => k_is)
    (case z_str => k_is)
    (case z_any => k_is)
    (case z_all => k_is)
    (case z_gcd => k_is)
    (case z_lcm => k_is)

