import PyProof.Rows.All
import Wide.All
import OpenK.AllK
import Wide.FinOn
import HandS.ForMost
import HandS.Wide
import HandS.Gcd
import HandS.IsInst
import HandS.Codes
import HandS.Zip
import HandS.Walk
import PyProof.WalksMore
import PyProof.ConsumeWalk
import KE.GoesMore
import KE.GoesEnum
import KE.GoesZip
import HandS.TupMul
import HandS.Conv
import HandS.WideBits
import HandS.TupAny
import HandS.Exc
import HandS.TryOnly
import HandS.ExcOwn
import HandS.WordsExc
import HandS.ExcIs
import PySem.Challenge.RW_hullwright_k06_determinants
set_option Elab.async false
set_option linter.all false
set_option maxRecDepth 100000
set_option maxHeartbeats 4000000

namespace Hw
/-- Euclid's loop, by its turn -/
def Fit (i A B : Nat) : Prop := (i = 0 ∧ A * B < 2 ^ 598) ∨ (1 ≤ i ∧ B < A ∧ A * B * 2 ^ (i - 1) < 2 ^ 598)
theorem fit0 {A B : Nat} (ha : A < 2 ^ 299) (hb : B < 2 ^ 299) : Fit 0 A B := by
  refine .inl ⟨rfl, ?_⟩
  have h : A * B < 2 ^ 299 * 2 ^ 299 := Nat.mul_lt_mul'' ha hb
  rwa [← Nat.pow_add] at h
theorem fit_step {i A B : Nat} (h : Fit i A B) (hb : B ≠ 0) : Fit (i + 1) B (A % B) := by
  have hr : A % B < B := Nat.mod_lt _ (Nat.pos_of_ne_zero hb)
  refine .inr ⟨by omega, hr, ?_⟩
  rcases h with ⟨rfl, h⟩ | ⟨hi, hlt, h⟩
  · have h1 : B * (A % B) ≤ B * A := Nat.mul_le_mul_left _ (Nat.mod_le _ _)
    rw [Nat.mul_comm B A] at h1
    show B * (A % B) * 2 ^ 0 < 2 ^ 598
    rw [Nat.pow_zero, Nat.mul_one]
    omega
  · obtain ⟨j, rfl⟩ : ∃ j, i = j + 1 := ⟨i - 1, by omega⟩
    show B * (A % B) * 2 ^ (j + 1) < 2 ^ 598
    have h2 : 2 * (A % B) ≤ A := by
      have e : B * (A / B) + A % B = A := Nat.div_add_mod A B
      have q : 1 ≤ A / B := Nat.div_pos (Nat.le_of_lt hlt) (Nat.pos_of_ne_zero hb)
      have m : B * 1 ≤ B * (A / B) := Nat.mul_le_mul_left _ q
      omega
    have h3 : B * (2 * (A % B)) ≤ B * A := Nat.mul_le_mul_left _ h2
    have h4 : B * (A % B) * 2 ^ (j + 1) = B * (2 * (A % B)) * 2 ^ j := by
      rw [Nat.pow_succ]
      simp only [Nat.mul_assoc, Nat.mul_left_comm, Nat.mul_comm]
    rw [h4]
    refine Nat.lt_of_le_of_lt (Nat.mul_le_mul_right _ h3) ?_
    rw [Nat.mul_comm B A]
    exact h
theorem fit_end {A B : Nat} (h : Fit 600 A B) : B = 0 := by
  rcases h with ⟨h, _⟩ | ⟨_, hlt, h⟩
  · omega
  · by_cases hb : B = 0
    · exact hb
    · exfalso
      have h1 : 1 ≤ A * B := Nat.mul_pos (by omega) (by omega)
      have h2 : 1 * 2 ^ (600 - 1) ≤ A * B * 2 ^ (600 - 1) := Nat.mul_le_mul_right _ h1
      have h3 : (2 : Nat) ^ 598 < 2 ^ (600 - 1) := Nat.pow_lt_pow_right (by decide) (by decide)
      omega
theorem gcd_turn (A B : Nat) : Nat.gcd B (A % B) = Nat.gcd A B := by
  rw [Nat.gcd_comm B, ← Nat.gcd_rec, Nat.gcd_comm]
/-- the greatest common divisor, an int -/
def g2 (a b : Int) : Int := ((Nat.gcd a.natAbs b.natAbs : Nat) : Int)
theorem g2_pos {a b : Int} (hb : b ≠ 0) : 0 < g2 a b := by
  unfold g2
  have : 0 < Nat.gcd a.natAbs b.natAbs := Nat.gcd_pos_of_pos_right _ (by omega)
  omega
theorem g2_nn0 (a b : Int) : 0 ≤ g2 a b := by
  unfold g2
  omega
theorem g2_le {a b : Int} (hb : b ≠ 0) : (g2 a b).natAbs ≤ b.natAbs := by
  unfold g2
  have : Nat.gcd a.natAbs b.natAbs ≤ b.natAbs := Nat.gcd_le_right _ (by omega)
  omega
/-- a fraction's two entries, b > 0 -/
def frN (a b : Int) : Int := a / g2 a b
def frD (a b : Int) : Int := b / g2 a b
theorem g2_dvd_l (a b : Int) : g2 a b ∣ a := by
  unfold g2
  exact Int.ofNat_dvd_left.mpr (Nat.gcd_dvd_left _ _)
theorem g2_dvd_r (a b : Int) : g2 a b ∣ b := by
  unfold g2
  exact Int.ofNat_dvd_left.mpr (Nat.gcd_dvd_right _ _)
theorem frD_pos {a b : Int} (hb : 0 < b) : 0 < frD a b := by
  have g := g2_pos (a := a) (b := b) (by omega)
  exact Int.ediv_pos_of_pos_of_dvd hb (Int.le_of_lt g) (g2_dvd_r a b)
theorem ediv_abs {a g : Int} (hg : 0 < g) : (a / g).natAbs ≤ a.natAbs := by
  have h1 := Int.mul_ediv_self_le (x := a) (k := g) (by omega)
  have h2 := Int.lt_mul_ediv_self_add (x := a) (k := g) hg
  generalize hq : a / g = q at *
  by_cases c : 0 ≤ q
  · have : 1 * q ≤ g * q := Int.mul_le_mul_of_nonneg_right (by omega) c
    omega
  · have h3 : g * q ≤ g * (-1) + (q + 1) := by
      have : g * (q + 1) ≤ 1 * (q + 1) := Int.mul_le_mul_of_nonpos_right (by omega) (by omega)
      rw [Int.mul_add, Int.mul_one, Int.one_mul] at this
      omega
    omega
theorem frN_abs {a b : Int} (hb : b ≠ 0) : (frN a b).natAbs ≤ a.natAbs := ediv_abs (g2_pos hb)
theorem frD_abs {a b : Int} (hb : b ≠ 0) : (frD a b).natAbs ≤ b.natAbs := ediv_abs (g2_pos hb)
theorem mul_pow {x y : Int} {a b : Nat} (ha : x.natAbs < 2 ^ a) (hb : y.natAbs < 2 ^ b) : (x * y).natAbs < 2 ^ (a + b) := by
  rw [Int.natAbs_mul, Nat.pow_add]
  exact Nat.mul_lt_mul'' ha hb
theorem add_pow {x y : Int} {a : Nat} (ha : x.natAbs < 2 ^ a) (hb : y.natAbs < 2 ^ a) : (x + y).natAbs < 2 ^ (a + 1) := by
  rw [Nat.pow_succ]
  omega
theorem sub_pow {x y : Int} {a : Nat} (ha : x.natAbs < 2 ^ a) (hb : y.natAbs < 2 ^ a) : (x - y).natAbs < 2 ^ (a + 1) := by
  rw [Nat.pow_succ]
  omega
theorem up_pow {x : Nat} {a b : Nat} (h : x < 2 ^ a) (l : a ≤ b) : x < 2 ^ b := Nat.lt_of_lt_of_le h (Nat.pow_le_pow_right (by decide) l)
/-- the sign of an int -/
def sg (a : Int) : Int := if 0 < a then 1 else if a < 0 then -1 else 0
theorem sg_frN {a b : Int} (hb : b ≠ 0) : sg (frN a b) = sg a := by
  have g := g2_pos (a := a) hb
  obtain ⟨c, hc⟩ := g2_dvd_l a b
  have e : frN a b = c := by
    unfold frN
    generalize g2 a b = k at *
    subst hc
    exact Int.mul_ediv_cancel_left _ (by omega)
  rw [e]
  generalize g2 a b = k at *
  subst hc
  unfold sg
  have p1 : 0 < k * c ↔ 0 < c := ⟨fun h => Int.pos_of_mul_pos_right h (by omega), fun h => Int.mul_pos g h⟩
  have p2 : k * c < 0 ↔ c < 0 := by
    constructor
    · intro h
      by_cases q : c < 0
      · exact q
      · have := Int.mul_nonneg (Int.le_of_lt g) (show 0 ≤ c by omega)
        omega
    · intro h
      exact Int.mul_neg_of_pos_of_neg g h
  simp only [p1, p2]
end Hw

/-! ### operations that the layer lacks -/
namespace HwG
open PySem PySem.Spec PyProof.Rows L2 RZ
theorem tuple_mul1 (l : Addr) (items : Array Value) (n : Nat) (dd : Option Addr) (sl : Array (Option Value)) (x : Int) (u : Tok) (c0 : (decide (x < -(2 ^ 63)) || decide (x ≥ 2 ^ 63)) = false) (c1 : (items.isEmpty || x == 1) = true) :
    Meets (Builtin.«tuple.__mul__» ⟨[.ref l, .int x u], []⟩) (fun _ R s => s.heap.get? l = some { cls := .type "tuple", dict := dd, data := .seq items n, slots := sl } ∧
      R (.ok (.ret (Value.ref l))) s) :=
  .of_wp fun prog w A R s h => by
    obtain ⟨hp, g, d, tk, os⟩ := s
    obtain ⟨hl, h⟩ := h
    have f1 := AutoSeq1.idx_int
    wp_walk using wpAny_loadPart' hl
    repeat (first
      | (refine wpAny_ite_false (decide_eq_false (by rw [c0]; exact Bool.false_ne_true)) ?_; wp_walk using wpAny_loadPart' hl)
      | (refine wpAny_ite_true (decide_eq_true c1) ?_; wp_walk using wpAny_loadPart' hl))
    exact ⟨_, rfl, h⟩
def rRepT1 (K : PySem.W.Frag) : R2 := fun x y H Q => ∃ l xs, x = .ref l ∧ y = .int 1 ∧ SqT K H l xs ∧ Q (.ref l) H
section
variable {X : Cx}
theorem op_repT1 : OpR X (binaryOp .Mult) (rRepT1 X.K) := by
  intro pins s σ H x y v u Q I rx ry h
  obtain ⟨l, xs, rfl, rfl, hT, q⟩ := h
  cases rx
  obtain ⟨t, rfl⟩ := ry
  obtain ⟨its, r, ⟨⟨cls, dd, data, sl⟩, ho, hc, n, hd⟩, hs⟩ := I.tuple hT
  simp only at hc hd
  subst hc hd
  have c0 : (decide ((1 : Int) < -(2 ^ 63)) || decide ((1 : Int) ≥ 2 ^ 63)) = false := by decide
  have c1 : (its.toArray.isEmpty || (1 : Int) == 1) = true := by
    rw [show ((1 : Int) == 1) = true by decide, Bool.or_true]
  exact wpAny_binaryOp_repeat_ref (T := "tuple") (U := "int") (by decide) ⟨_, ho, rfl⟩ (fun s' => typeIs_int s' 1 t) noFill_tuple_mul F.fills_int_mul F.slot_int_rmul repeat_tuple F.slot_int_index.lookup
    (call_meets F.slot_int_rmul (typeIs_int s 1 t) F.entry_int_rmul (F.args_int_rmul_2 _ _) (int_rmul_tuple 1 t l its.toArray n dd sl)
      ⟨ho, rfl, ⟨_, ho, rfl⟩, call_meets F.slot_tuple_mul ⟨_, ho, rfl⟩ F.entry_tuple_mul (F.args_tuple_mul_2 _ _) (tuple_mul1 l its.toArray n dd sl 1 t c0 c1) ⟨ho, .ref l, H, I, rfl, q⟩⟩)
def rRepA (K : PySem.W.Frag) : R2 := fun x y H Q => rRepT K x y H Q ∨ rRepT1 K x y H Q
/-- a tuple times 1 .. 1000 -/
theorem op_repA : OpR X (binaryOp .Mult) (rRepA X.K) := by
  intro pins s σ H x y v u Q I rx ry q
  rcases q with q | q
  · exact op_repT pins s σ H x y v u Q I rx ry q
  · exact op_repT1 pins s σ H x y v u Q I rx ry q
/-- // by a divisor of any sign -/
def CDivA (_ j : Int) : Prop := j ≠ 0 ∧ j.natAbs.log2 < 9000
theorem op_fdivA : OpR X (binaryOp .FloorDiv) (rI CDivA fun i j => .int (i.fdiv j)) := opI fun i j _ _ _ _ _ hc q => floordiv_int hc.1 q (.inl (PyProof.noPylong_of_log2 hc.2))
end
/-- zip of two tuples, walked -/
theorem walk_zipT {K : PySem.W.Frag} {a b : Addr} {xs ys : List V} {n : Nat} (h1 : xs.length = n) (h2 : ys.length = n) : Walk (ItzT K a b) n (fun H => SqT K H a xs ∧ SqT K H b ys) (YPair (fun i => xs[i]?) (fun i => ys[i]?)) :=
  ⟨fun i H hi hG => ⟨xs, ys, xs[i], ys[i], hG.1, hG.2, List.getElem?_eq_getElem (by omega), List.getElem?_eq_getElem (by omega)⟩, fun H hG => ⟨xs, ys, hG.1, hG.2, .inl (by omega)⟩,
    fun i H x H' hi hG y => by
      obtain ⟨T, u, v, e1, e2, e3, e4, e5⟩ := y
      exact ⟨T, u, v, e1, e2, e3, e4 _ hG.1, e5 _ hG.2⟩⟩
end HwG

/-! ### zip of a list or tuple with a list or tuple -/
namespace HwZ
open PySem PySem.Spec PyProof.Rows L2 RZ
/-- at a stands a sequence: a tuple (true) or a list -/
def Sk (K : PySem.W.Frag) (k : Bool) (H : Hp) (a : Addr) (xs : List V) : Prop := match k with
  | true => SqT K H a xs
  | false => SqL K H a xs
def AtK (k : Bool) (h : Heap) (it a : Addr) (i : Nat) : Prop := match k with
  | true => h.IsTupleIter it a i
  | false => h.IsListIter it a i
def SeqK (k : Bool) (h : Heap) (a : Addr) (its : Array Value) : Prop := match k with
  | true => h.IsTuple a its
  | false => h.IsList a its
def begK (k : Bool) (a : Addr) : Obj := match k with
  | true => { cls := .type "tuple_iterator", data := .fields #[.ref a, .int 0 0] }
  | false => { cls := .type "list_iterator", data := .fields #[.ref a, .int 0 0] }
theorem drawsK (k : Bool) {prog : Program} {w : World} {A : Around} (hh : A.handled = none) (it a : Addr) (ne : a ≠ it) (its : Array Value) :
    Draws prog w A it [it, a] its.size (fun i v => its[i]? = some v) (fun i h => AtK k h it a i ∧ SeqK k h a its) := by
  cases k with
  | true => exact Draws.tuple hh it a ne its
  | false => exact Draws.list hh it a ne its
theorem beginsK (k : Bool) (a : Addr) (its : Array Value) : Begins (.ref a) (begK k a) fun h => SeqK k h a its := by
  cases k with
  | true => exact begins_tuple a its
  | false => exact begins_list a its
theorem atK_beg {k : Bool} {h : Heap} {it a : Addr} (e : h.get? it = some (begK k a)) : AtK k h it a 0 := by
  cases k with
  | true => exact ⟨_, e, rfl, rfl⟩
  | false => exact ⟨_, e, rfl, rfl⟩
theorem atK_at {k : Bool} {h h' : Heap} {it a : Addr} {i : Nat} (x : AtK k h it a i) (f : ∀ o, h.get? it = some o → h'.get? it = some o) : AtK k h' it a i := by
  cases k with
  | true => exact Heap.IsTupleIter.at x f
  | false => exact Heap.IsListIter.at x f
theorem atK_obj {k : Bool} {h : Heap} {it a : Addr} {i : Nat} (x : AtK k h it a i) : ∃ o, h.get? it = some o ∧ ∀ v, o.data ≠ .cell v := by
  cases k with
  | true =>
    obtain ⟨o, e, _, d⟩ := x
    exact ⟨o, e, fun v q => by rw [d] at q; cases q⟩
  | false =>
    obtain ⟨o, e, _, d⟩ := x
    exact ⟨o, e, fun v q => by rw [d] at q; cases q⟩
section
variable {X : Cx} {pins : List (Addr × Obj)} {σ : L2.St} {H : Hp} {s : Shared}
theorem sk_read {k : Bool} {a : Addr} {xs : List V} (I : Inv X pins σ H s) (h : Sk X.K k H a xs) : ∃ its : List Value, Vals xs its ∧ SeqK k s.heap a its.toArray := by
  cases k with
  | true =>
    obtain ⟨its, r, p, _⟩ := I.tuple h
    exact ⟨its, r, p⟩
  | false =>
    obtain ⟨its, r, p, _⟩ := I.list h
    exact ⟨its, r, p.isList⟩
theorem sk_inj {k : Bool} {a : Addr} {xs ys : List V} (I : Inv X pins σ H s) (h : Sk X.K k H a xs) (h' : Sk X.K k H a ys) : xs = ys := by
  cases k with
  | true => exact I.tuple_inj h h'
  | false => exact I.list_inj h h'
theorem seqK_lt {k : Bool} {h : Heap} {a : Addr} {its : Array Value} (x : SeqK k h a its) : a < h.objs.size := by
  cases k with
  | true =>
    obtain ⟨o, e, _⟩ := x
    exact Heap.lt_size e
  | false =>
    obtain ⟨o, e, _⟩ := x
    exact Heap.lt_size e
end
/-- what the loop sees: new pairs -/
def ItzK (K : PySem.W.Frag) (k1 k2 : Bool) (a b : Addr) : It :=
  ⟨fun i H => ∃ (xs ys : List V) (x y : V), Sk K k1 H a xs ∧ Sk K k2 H b ys ∧ xs[i]? = some x ∧ ys[i]? = some y,
    fun i H v H' => ∃ T x y, v = .ref T ∧ H T = none ∧ H' = upd H T (.tup [x, y]) ∧ (∀ xs, Sk K k1 H a xs → xs[i]? = some x) ∧ ∀ ys, Sk K k2 H b ys → ys[i]? = some y,
    fun i H => ∃ xs ys : List V, Sk K k1 H a xs ∧ Sk K k2 H b ys ∧ xs.length = i ∧ ys.length = i⟩
/-- the cells of the zip at z -/
structure Cells (z TI TO i1 i2 a b : Addr) : Prop where
  sep : ZipSep2 z TI TO i1 i2 [i1, a] [i2, b]
  ai : a ≠ i1
  bi : b ≠ i2
theorem cells_of (N a b : Nat) (ha : a < N) (hb : b < N) : Cells (N + 4) (N + 2) (N + 3) N (N + 1) a b :=
  ⟨zip_sep2 (fun c h => by rw [List.mem_singleton.mp h]; exact ha) (fun c h => by rw [List.mem_singleton.mp h]; exact hb), show a ≠ N by omega, show b ≠ N + 1 by omega⟩
def Now (k1 k2 : Bool) (z TI TO i1 i2 a b : Addr) (i : Nat) (h : Heap) : Prop := IsZip h z TI TO .none ∧ IsTupOf2 h TI (.ref i1) (.ref i2) ∧ (∃ u v, IsTupOf2 h TO u v) ∧ AtK k1 h i1 a i ∧ AtK k2 h i2 b i
theorem five {z TI TO i1 i2 c : Addr} (h : c ∈ [z, TI, TO, i1, i2]) : c = z ∨ c = TI ∨ c = TO ∨ c = i1 ∨ c = i2 := by simpa using h
theorem turn_zipK {P : Program} {w : World} {K : PySem.W.Frag} {elts : List Expr} {kk : Nat} {tpos : Pos} {k1 k2 : Bool} {a b z TI TO i1 i2 : Addr} (D : Cells z TI TO i1 i2 a b) :
    Turn P w K (.Tuple elts kk tpos) (ItzK K k1 k2 a b) [z, TI, TO, i1, i2] z (Now k1 k2 z TI TO i1 i2 a b) where
  mem := by simp
  obj := fun i h st c hc => by
    obtain ⟨hz, hT, ⟨u, v, hO⟩, h1, h2⟩ := st
    rcases five hc with e | e | e | e | e <;> subst e
    · exact ⟨_, hz, fun v q => nomatch q⟩
    · exact ⟨_, hT, fun v q => nomatch q⟩
    · exact ⟨_, hO, fun v q => nomatch q⟩
    · exact atK_obj h1
    · exact atK_obj h2
  keep := fun i h h' st f => by
    obtain ⟨hz, hT, ⟨u, v, hO⟩, h1, h2⟩ := st
    have g : ∀ c ∈ [z, TI, TO, i1, i2], ∀ o, h.get? c = some o → h'.get? c = some o := f
    exact ⟨g z (by simp) _ hz, g TI (by simp) _ hT, ⟨u, v, g TO (by simp) _ hO⟩, atK_at h1 (g i1 (by simp)), atK_at h2 (g i2 (by simp))⟩
  item := by
    intro X hP hw hK hc i pins s σ H E I hf st go
    subst hP hw hK
    obtain ⟨hz, hT, ⟨u0, v0, hO⟩, h1, h2⟩ := st
    obtain ⟨xs, ys, x, y, qx, qy, ex, ey⟩ := go
    obtain ⟨its, r1, p1⟩ := sk_read I qx
    obtain ⟨jts, r2, p2⟩ := sk_read I qy
    have n1 : i < its.toArray.size := by rw [List.size_toArray, ← r1.length]; exact (List.getElem?_eq_some_iff.mp ex).1
    have n2 : i < jts.toArray.size := by rw [List.size_toArray, ← r2.length]; exact (List.getElem?_eq_some_iff.mp ey).1
    have hd : X.A.in1.handled = none := I.ok.hd hc
    have zlt : z < s.heap.objs.size := Heap.lt_size hz
    refine wpAny_pyNext_zipD2_item D.sep (drawsK k1 hd i1 a D.ai its.toArray) (drawsK k2 hd i2 b D.bi jts.toArray) hz hT hO ⟨h1, p1⟩ ⟨h2, p2⟩ n1 n2 fun u v h' tk eu ev z' O' t1 t2 nT sz kp => ?_
    obtain ⟨u', gu, ru⟩ := r1.get ex
    obtain ⟨v', gv, rv⟩ := r2.get ey
    have euu : u = u' := Option.some.inj (eu.symm.trans (by simpa using gu))
    have evv : v = v' := Option.some.inj (ev.symm.trans (by simpa using gv))
    subst euu evv
    refine ⟨_, rfl, wpAny_letOwnedTupleGo_zip (s := { s with heap := h', toks := tk }) z' fun h2' z2 sb => ?_⟩
    have other : ∀ c, c ≠ z → h2'.get? c = h'.get? c := fun c hc => sb.2 c hc
    have fresh : h2'.get? s.heap.objs.size = some { cls := .type "tuple", data := .seq #[u, v] } := (other _ (Nat.ne_of_gt zlt)).trans nT
    have ob : ObjOk X.prog X.w (upd H s.heap.objs.size (.tup [x, y])) h2' s.heap.objs.size (.tup [x, y]) :=
      ⟨Nat.le_of_lt (small1000 (show 2 ≤ 1000 by decide)), [u, v], .cons ru (.cons rv .nil), ⟨_, fresh, rfl, _, rfl⟩⟩
    have J : Inv X pins σ (upd H s.heap.objs.size (.tup [x, y])) { s with heap := h2', toks := tk } :=
      I.turnedNew (ch := [z, TI, TO, i1, i2]) (fun c o nc q => by
        have m : c ≠ z ∧ c ≠ TO ∧ c ≠ i1 ∧ c ≠ i2 := ⟨fun e => nc (by rw [e]; simp), fun e => nc (by rw [e]; simp), fun e => nc (by rw [e]; simp), fun e => nc (by rw [e]; simp)⟩
        exact (other c m.1).trans (kp c o m.1 m.2.1 m.2.2.1 m.2.2.2 q)) hf (Nat.le_refl _) ob
    have hTI1 : TI ≠ i1 := D.sep.TIi1
    refine ⟨.ref s.heap.objs.size, _, J, rfl, ⟨_, x, y, rfl, I.hok.fresh (Nat.le_refl _), rfl, fun l hl => by rw [sk_inj I hl qx]; exact ex, fun l hl => by rw [sk_inj I hl qy]; exact ey⟩, ⟨z2, ?_, ⟨u, v, ?_⟩, ?_, ?_⟩, fun c hcm => ?_⟩
    · exact (other _ D.sep.TIz).trans (kp _ _ D.sep.TIz D.sep.TITO D.sep.TIi1 D.sep.TIi2 hT)
    · exact (other _ D.sep.TOz).trans O'
    · exact atK_at t1.1 fun o q => (other _ D.sep.zi1.symm).trans q
    · exact atK_at t2.1 fun o q => (other _ D.sep.zi2.symm).trans q
    · have lt : c < s.heap.objs.size := by
        rcases five hcm with e | e | e | e | e <;> subst e
        · exact zlt
        · exact Heap.lt_size hT
        · exact Heap.lt_size hO
        · obtain ⟨o, e, _⟩ := atK_obj h1
          exact Heap.lt_size e
        · obtain ⟨o, e, _⟩ := atK_obj h2
          exact Heap.lt_size e
      rw [upd_ne (Nat.ne_of_lt lt)]
      exact (hf c hcm).1
  done := by
    intro X hP hw hK hc i pins s σ H E I hf st stop
    subst hP hw hK
    obtain ⟨hz, hT, ⟨u0, v0, hO⟩, h1, h2⟩ := st
    obtain ⟨xs, ys, qx, qy, ex, ey⟩ := stop
    obtain ⟨its, r1, p1⟩ := sk_read I qx
    obtain ⟨jts, r2, p2⟩ := sk_read I qy
    have n1 : i = its.toArray.size := by rw [List.size_toArray, ← r1.length]; exact ex.symm
    have n2 : i = jts.toArray.size := by rw [List.size_toArray, ← r2.length]; exact ey.symm
    have hd : X.A.in1.handled = none := I.ok.hd hc
    refine wpAny_pyNext_zipD2_end D.sep (drawsK k1 hd i1 a D.ai its.toArray) (drawsK k2 hd i2 b D.bi jts.toArray) hz hT hO ⟨h1, p1⟩ ⟨h2, p2⟩ (Nat.le_of_eq n1) (Nat.le_of_eq n2) (.inl n1) fun h' tk kp => ⟨rfl, ?_⟩
    exact I.turnedL (ch := [z, TI, TO, i1, i2]) (fun c o nc q => kp c o (fun e => nc (by rw [e]; simp)) (fun e => nc (by rw [e]; simp)) (fun e => nc (by rw [e]; simp)) (fun e => nc (by rw [e]; simp)) q) hf
  self := fun A i s Q E st h => wpAny_pyIter_zip st.1 h
def iZipK (K : PySem.W.Frag) (ta : TA) : TI := fun σ H R => ta σ H fun vs H1 => ∃ k1 k2 a b xs ys, vs = [.ref a, .ref b] ∧ Sk K k1 H1 a xs ∧ Sk K k2 H1 b ys ∧ R (ItzK K k1 k2 a b) H1
set_option maxHeartbeats 600000 in
theorem pi_zipK {X : Cx} {e e2 : Expr} {ta : TA} {p pos tpos : Pos} {elts : List Expr} {kk : Nat} (hg : Gl X "zip") (hm : X.mg "zip" = none) (ha : PA X [e, e2] ta)
    (hs : starEach [e, e2] X.env = (false, eval e X.env) :: starEach [e2] X.env := by rfl) (hpl : (backTo pos (starEach [e2] X.env)).any (·.1) = false := by rfl) :
    PI X (.Tuple elts kk tpos) (.Call (.Name "zip" p) [e, e2] [] pos) (iZipK X.K ta) := by
  constructor
  intro pins s σ H R I h
  refine Call_ (ld_blt I hg hm PyProof.Rows.boot_zip (PyProof.Rows.callWith_type1 (thn (ha.run pos pins s σ H _ I h) fun us s1 ⟨vs, H1, I1, r1, q1⟩ => ?_) hs hpl))
  obtain ⟨k1, k2, a, b, xs, ys, ev, qx, qy, q⟩ := q1
  subst ev
  obtain ⟨u1, u2, rfl, ra, rb⟩ := vals2 r1
  obtain rfl : u1 = Value.ref a := ra
  obtain rfl : u2 = Value.ref b := rb
  obtain ⟨its, _, p1⟩ := sk_read I1 qx
  obtain ⟨jts, _, p2⟩ := sk_read I1 qy
  refine zip_begins2 (beginsK k1 a its.toArray) (beginsK k2 b jts.toArray) p1 p2 fun h' hz hT hO g1 g2 _ kp => wpAny_pyIter_zip hz ?_
  have J : Inv X pins σ H1 { s1 with heap := h' } := I1.kept (t' := s1.toks) kp
  have D := cells_of s1.heap.objs.size a b (seqK_lt p1) (seqK_lt p2)
  have W : Now k1 k2 (s1.heap.objs.size + 4) (s1.heap.objs.size + 2) (s1.heap.objs.size + 3) s1.heap.objs.size (s1.heap.objs.size + 1) a b 0 h' := ⟨hz, hT, ⟨_, _, hO⟩, atK_beg g1, atK_beg g2⟩
  have F : ∀ c ∈ [s1.heap.objs.size + 4, s1.heap.objs.size + 2, s1.heap.objs.size + 3, s1.heap.objs.size, s1.heap.objs.size + 1], FpOk X pins H1 c := fun c hc => by
    have le : s1.heap.objs.size ≤ c := by
      rcases five hc with e | e | e | e | e
      · rw [e]; exact Nat.le_add_right _ _
      · rw [e]; exact Nat.le_add_right _ _
      · rw [e]; exact Nat.le_add_right _ _
      · rw [e]; exact Nat.le_refl _
      · rw [e]; exact Nat.le_add_right _ _
    exact I1.fpOk le (I1.hok.fresh le)
  exact ⟨_, _, _, _, H1, rfl, J, turn_zipK D, W, F, q⟩
theorem walk_zipK {K : PySem.W.Frag} {k1 k2 : Bool} {a b : Addr} {xs ys : List V} {n : Nat} (h1 : xs.length = n) (h2 : ys.length = n) : Walk (ItzK K k1 k2 a b) n (fun H => Sk K k1 H a xs ∧ Sk K k2 H b ys) (YPair (fun i => xs[i]?) (fun i => ys[i]?)) :=
  ⟨fun i H hi g => ⟨xs, ys, xs[i], ys[i], g.1, g.2, List.getElem?_eq_getElem (by omega), List.getElem?_eq_getElem (by omega)⟩, fun H g => ⟨xs, ys, g.1, g.2, h1, h2⟩,
    fun i H x H' _ g y => by
      obtain ⟨T, u, v, e1, e2, e3, e4, e5⟩ := y
      exact ⟨T, u, v, e1, e2, e3, e4 _ g.1, e5 _ g.2⟩⟩
end HwZ

/-! ### any of a tuple of ints; the least common multiple -/
namespace HwA
open PySem PySem.Spec PyProof.Rows L2
section
variable {X : Cx}
theorem any_bools (ns : List Int) : ∀ (bs : List Bool), bs = ns.map (fun n => n != 0) → (List.range ns.length).any (fun i => (ns.map fun n => n != 0).getD i false) = ns.any fun n => n != 0 := fun bs _ => by
  have h := any_range (ns.map fun n => n != 0)
  rw [List.length_map] at h
  rw [h, List.any_map]
  rfl
def rAnyT (K : PySem.W.Frag) : List V → Hp → VK → Prop := fun vs H Q => ∃ (a : Addr) (ns : List Int), vs = [V.ref a] ∧ SqT K H a (ns.map V.int) ∧ Q (.bl (ns.any fun n => n != 0)) H
theorem cr_anyT (hc : X.calm = true) : CallR X (.builtin "any") (rAnyT X.K) := by
  intro pins s σ H vs us Q I r h
  obtain ⟨a, ns, rfl, hs, q⟩ := h
  obtain ⟨its, rv, ht, _⟩ := I.tuple hs
  rw [Vals.ref1 r]
  have it : s.heap.IsTuple a its.toArray := ht
  have lt : a < s.heap.objs.size := by
    obtain ⟨_, e, _⟩ := it
    exact Heap.lt_size e
  refine call_any_walk (wpAny_pyIter_tuple it ⟨s.heap.objs.size, _, _, _, _, _, (fun i => (ns.map fun n => n != 0).getD i false), rfl, Walks.tuple (A := X.A.in1) (I.ok.hd hc) _ a (Nat.ne_of_lt lt) its.toArray, ⟨⟨_, Heap.get?_push_size _ rfl, rfl, rfl⟩, ?_⟩, ?_, fun h' tk hk => ?_⟩)
  · exact it.at fun o e => Heap.get?_push_of_some _ e
  · intro i v s' Q' E' hv hq
    have hv' : its[i]? = some v := by simpa using hv
    have lxs := rv.length
    have hi : i < ns.length := by
      have := (List.getElem?_eq_some_iff.mp hv').1
      rw [List.length_map] at lxs
      omega
    have g : (ns.map V.int)[i]? = some (.int ns[i]) := by
      rw [List.getElem?_map, List.getElem?_eq_getElem hi]
      rfl
    obtain ⟨u, hu, ru⟩ := rv.get g
    obtain ⟨t, eu⟩ := ru
    have ev : v = Value.int ns[i] t := (Option.some.inj (hv'.symm.trans hu)).trans eu
    subst ev
    have e2 : (ns.map fun n => n != 0).getD i false = (ns[i] != 0) := by
      rw [List.getD_eq_getElem?_getD, List.getElem?_map, List.getElem?_eq_getElem hi]
      rfl
    have hq2 : Q' ((ns.map fun n => n != 0).getD i false) s' := hq
    rw [e2] at hq2
    exact truthy_int hq2
  · refine ⟨.bl _, H, I.kept fun b o eo => hk b o (fun m => ?_) (Heap.get?_push_of_some _ eo), ?_, q⟩
    · rcases List.mem_cons.mp m with e1 | m
      · exact absurd (e1 ▸ Heap.lt_size eo) (Nat.lt_irrefl _)
      · cases m
    · show Value.bool _ = Value.bool _
      have l1 := rv.length
      rw [List.length_map] at l1
      rw [List.size_toArray, ← l1, any_bools ns _ rfl]
/-- the least common multiple -/
def rLcm : List V → Hp → VK → Prop := fun vs H Q => ∃ a b : Int, vs = [.int a, .int b] ∧ a.natAbs < 2 ^ 4000 ∧ b.natAbs < 2 ^ 4000 ∧ Q (.int ((Nat.lcm a.natAbs b.natAbs : Nat) : Int)) H
theorem lcm_lim {a b : Nat} (ha : a < 2 ^ 4000) (hb : b < 2 ^ 4000) : Nat.lcm a b < 2 ^ 8000 := by
  have h1 : Nat.lcm a b ≤ a * b := by
    unfold Nat.lcm
    exact Nat.div_le_self _ _
  have h2 : a * b < 2 ^ 4000 * 2 ^ 4000 := Nat.mul_lt_mul'' ha hb
  rw [← Nat.pow_add] at h2
  exact Nat.lt_of_le_of_lt h1 h2
theorem cr_lcm : CallR X (.builtin "math.lcm") rLcm := by
  intro pins s σ H vs us Q I r h
  obtain ⟨a, b, rfl, ha, hb, q⟩ := h
  obtain ⟨t, u, rfl⟩ := Vals.int2 r
  have lg : ∀ n : Nat, n < 2 ^ 4000 → n.log2 < 4000 := fun n hn => PySem.Flt.log2_lt_of (by decide) hn
  have one : (1 : Nat) < 2 ^ 4000 := Nat.one_lt_two_pow (by decide)
  have m1 : (max 1 a.natAbs).log2 < 4000 := lg _ (by rw [Nat.max_lt]; exact ⟨one, ha⟩)
  have m2 : (max a.natAbs b.natAbs).log2 < 4000 := lg _ (by rw [Nat.max_lt]; exact ⟨ha, hb⟩)
  have e : (Nat.lcm 1 a.natAbs).lcm b.natAbs = Nat.lcm a.natAbs b.natAbs := by rw [Nat.lcm_one_left]
  have sz : ((((Nat.lcm 1 a.natAbs).lcm b.natAbs : Nat) : Int)).natAbs.log2 < bitsLine := by
    rw [e, Int.natAbs_natCast]
    have : (Nat.lcm a.natAbs b.natAbs).log2 < 8000 := PySem.Flt.log2_lt_of (by decide) (lcm_lim ha hb)
    have b8 : (8000 : Nat) ≤ bitsLine := by decide
    omega
  refine PySem.call_function_meets PySem.W.MGF.kind_lcm PySem.W.MGF.plain_lcm PySem.W.MGF.entry_lcm (PySem.W.MGF.args_lcm _ _) (PySem.W.mg_run_lcm a t b u (by omega) (by omega) sz).meets ?_
  rw [e]
  exact ⟨.int _, H, I.tok _, ⟨_, rfl⟩, q⟩
end
end HwA

namespace Dt
def D4 (a b c d e f g h i j k l m n o p : Int) : Int :=
  a*(f*(k*p-l*o) - g*(j*p-l*n) + h*(j*o-k*n)) - b*(e*(k*p-l*o) - g*(i*p-l*m) + h*(i*o-k*m)) + c*(e*(j*p-l*n) - f*(i*p-l*m) + h*(i*n-j*m)) - d*(e*(j*o-k*n) - f*(i*o-k*m) + g*(i*n-j*m))
/-- a minor of two rows -/
def M2 (a b c d : Int) : Int := a * d - b * c
/-- the determinant by the minors of the first two and the last two rows -/
theorem lap (a b c d e f g h i j k l m n o p : Int) : D4 a b c d e f g h i j k l m n o p = M2 a b e f * M2 k l o p - M2 a c e g * M2 j l n p + M2 a d e h * M2 j k n o + M2 b c f g * M2 i l m p - M2 b d f h * M2 i k m o + M2 c d g h * M2 i j m n := by
  unfold D4 M2; grind

theorem cb (x0 x1 x2 x3 y0 y1 y2 y3 u0 u1 u2 u3 w0 w1 w2 w3 : Int) : M2 (x0 * u0 + x1 * u1 + x2 * u2 + x3 * u3) (x0 * w0 + x1 * w1 + x2 * w2 + x3 * w3) (y0 * u0 + y1 * u1 + y2 * u2 + y3 * u3) (y0 * w0 + y1 * w1 + y2 * w2 + y3 * w3) = M2 x0 x1 y0 y1 * M2 u0 w0 u1 w1 + M2 x0 x2 y0 y2 * M2 u0 w0 u2 w2 + M2 x0 x3 y0 y3 * M2 u0 w0 u3 w3 + M2 x1 x2 y1 y2 * M2 u1 w1 u2 w2 + M2 x1 x3 y1 y3 * M2 u1 w1 u3 w3 + M2 x2 x3 y2 y3 * M2 u2 w2 u3 w3 := by
  unfold M2; grind
theorem e00 (b00 b01 b02 b03 b10 b11 b12 b13 b20 b21 b22 b23 b30 b31 b32 b33 : Int) : M2 b00 b01 b10 b11 * M2 b02 b03 b12 b13 - M2 b00 b02 b10 b12 * M2 b01 b03 b11 b13 + M2 b00 b03 b10 b13 * M2 b01 b02 b11 b12 + M2 b01 b02 b11 b12 * M2 b00 b03 b10 b13 - M2 b01 b03 b11 b13 * M2 b00 b02 b10 b12 + M2 b02 b03 b12 b13 * M2 b00 b01 b10 b11 = 0 := by
  unfold M2; grind
theorem e01 (b00 b01 b02 b03 b10 b11 b12 b13 b20 b21 b22 b23 b30 b31 b32 b33 : Int) : M2 b00 b01 b10 b11 * M2 b02 b03 b22 b23 - M2 b00 b02 b10 b12 * M2 b01 b03 b21 b23 + M2 b00 b03 b10 b13 * M2 b01 b02 b21 b22 + M2 b01 b02 b11 b12 * M2 b00 b03 b20 b23 - M2 b01 b03 b11 b13 * M2 b00 b02 b20 b22 + M2 b02 b03 b12 b13 * M2 b00 b01 b20 b21 = 0 := by
  unfold M2; grind
theorem e02 (b00 b01 b02 b03 b10 b11 b12 b13 b20 b21 b22 b23 b30 b31 b32 b33 : Int) : M2 b00 b01 b10 b11 * M2 b02 b03 b32 b33 - M2 b00 b02 b10 b12 * M2 b01 b03 b31 b33 + M2 b00 b03 b10 b13 * M2 b01 b02 b31 b32 + M2 b01 b02 b11 b12 * M2 b00 b03 b30 b33 - M2 b01 b03 b11 b13 * M2 b00 b02 b30 b32 + M2 b02 b03 b12 b13 * M2 b00 b01 b30 b31 = 0 := by
  unfold M2; grind
theorem e03 (b00 b01 b02 b03 b10 b11 b12 b13 b20 b21 b22 b23 b30 b31 b32 b33 : Int) : M2 b00 b01 b10 b11 * M2 b12 b13 b22 b23 - M2 b00 b02 b10 b12 * M2 b11 b13 b21 b23 + M2 b00 b03 b10 b13 * M2 b11 b12 b21 b22 + M2 b01 b02 b11 b12 * M2 b10 b13 b20 b23 - M2 b01 b03 b11 b13 * M2 b10 b12 b20 b22 + M2 b02 b03 b12 b13 * M2 b10 b11 b20 b21 = 0 := by
  unfold M2; grind
theorem e04 (b00 b01 b02 b03 b10 b11 b12 b13 b20 b21 b22 b23 b30 b31 b32 b33 : Int) : M2 b00 b01 b10 b11 * M2 b12 b13 b32 b33 - M2 b00 b02 b10 b12 * M2 b11 b13 b31 b33 + M2 b00 b03 b10 b13 * M2 b11 b12 b31 b32 + M2 b01 b02 b11 b12 * M2 b10 b13 b30 b33 - M2 b01 b03 b11 b13 * M2 b10 b12 b30 b32 + M2 b02 b03 b12 b13 * M2 b10 b11 b30 b31 = 0 := by
  unfold M2; grind
theorem e05 (b00 b01 b02 b03 b10 b11 b12 b13 b20 b21 b22 b23 b30 b31 b32 b33 : Int) : M2 b00 b01 b10 b11 * M2 b22 b23 b32 b33 - M2 b00 b02 b10 b12 * M2 b21 b23 b31 b33 + M2 b00 b03 b10 b13 * M2 b21 b22 b31 b32 + M2 b01 b02 b11 b12 * M2 b20 b23 b30 b33 - M2 b01 b03 b11 b13 * M2 b20 b22 b30 b32 + M2 b02 b03 b12 b13 * M2 b20 b21 b30 b31 = D4 b00 b01 b02 b03 b10 b11 b12 b13 b20 b21 b22 b23 b30 b31 b32 b33 := by
  unfold M2 D4; grind
theorem e10 (b00 b01 b02 b03 b10 b11 b12 b13 b20 b21 b22 b23 b30 b31 b32 b33 : Int) : M2 b00 b01 b20 b21 * M2 b02 b03 b12 b13 - M2 b00 b02 b20 b22 * M2 b01 b03 b11 b13 + M2 b00 b03 b20 b23 * M2 b01 b02 b11 b12 + M2 b01 b02 b21 b22 * M2 b00 b03 b10 b13 - M2 b01 b03 b21 b23 * M2 b00 b02 b10 b12 + M2 b02 b03 b22 b23 * M2 b00 b01 b10 b11 = 0 := by
  unfold M2; grind
theorem e11 (b00 b01 b02 b03 b10 b11 b12 b13 b20 b21 b22 b23 b30 b31 b32 b33 : Int) : M2 b00 b01 b20 b21 * M2 b02 b03 b22 b23 - M2 b00 b02 b20 b22 * M2 b01 b03 b21 b23 + M2 b00 b03 b20 b23 * M2 b01 b02 b21 b22 + M2 b01 b02 b21 b22 * M2 b00 b03 b20 b23 - M2 b01 b03 b21 b23 * M2 b00 b02 b20 b22 + M2 b02 b03 b22 b23 * M2 b00 b01 b20 b21 = 0 := by
  unfold M2; grind
theorem e12 (b00 b01 b02 b03 b10 b11 b12 b13 b20 b21 b22 b23 b30 b31 b32 b33 : Int) : M2 b00 b01 b20 b21 * M2 b02 b03 b32 b33 - M2 b00 b02 b20 b22 * M2 b01 b03 b31 b33 + M2 b00 b03 b20 b23 * M2 b01 b02 b31 b32 + M2 b01 b02 b21 b22 * M2 b00 b03 b30 b33 - M2 b01 b03 b21 b23 * M2 b00 b02 b30 b32 + M2 b02 b03 b22 b23 * M2 b00 b01 b30 b31 = 0 := by
  unfold M2; grind
theorem e13 (b00 b01 b02 b03 b10 b11 b12 b13 b20 b21 b22 b23 b30 b31 b32 b33 : Int) : M2 b00 b01 b20 b21 * M2 b12 b13 b22 b23 - M2 b00 b02 b20 b22 * M2 b11 b13 b21 b23 + M2 b00 b03 b20 b23 * M2 b11 b12 b21 b22 + M2 b01 b02 b21 b22 * M2 b10 b13 b20 b23 - M2 b01 b03 b21 b23 * M2 b10 b12 b20 b22 + M2 b02 b03 b22 b23 * M2 b10 b11 b20 b21 = 0 := by
  unfold M2; grind
theorem e14 (b00 b01 b02 b03 b10 b11 b12 b13 b20 b21 b22 b23 b30 b31 b32 b33 : Int) : M2 b00 b01 b20 b21 * M2 b12 b13 b32 b33 - M2 b00 b02 b20 b22 * M2 b11 b13 b31 b33 + M2 b00 b03 b20 b23 * M2 b11 b12 b31 b32 + M2 b01 b02 b21 b22 * M2 b10 b13 b30 b33 - M2 b01 b03 b21 b23 * M2 b10 b12 b30 b32 + M2 b02 b03 b22 b23 * M2 b10 b11 b30 b31 = -D4 b00 b01 b02 b03 b10 b11 b12 b13 b20 b21 b22 b23 b30 b31 b32 b33 := by
  unfold M2 D4; grind
theorem e15 (b00 b01 b02 b03 b10 b11 b12 b13 b20 b21 b22 b23 b30 b31 b32 b33 : Int) : M2 b00 b01 b20 b21 * M2 b22 b23 b32 b33 - M2 b00 b02 b20 b22 * M2 b21 b23 b31 b33 + M2 b00 b03 b20 b23 * M2 b21 b22 b31 b32 + M2 b01 b02 b21 b22 * M2 b20 b23 b30 b33 - M2 b01 b03 b21 b23 * M2 b20 b22 b30 b32 + M2 b02 b03 b22 b23 * M2 b20 b21 b30 b31 = 0 := by
  unfold M2; grind
theorem e20 (b00 b01 b02 b03 b10 b11 b12 b13 b20 b21 b22 b23 b30 b31 b32 b33 : Int) : M2 b00 b01 b30 b31 * M2 b02 b03 b12 b13 - M2 b00 b02 b30 b32 * M2 b01 b03 b11 b13 + M2 b00 b03 b30 b33 * M2 b01 b02 b11 b12 + M2 b01 b02 b31 b32 * M2 b00 b03 b10 b13 - M2 b01 b03 b31 b33 * M2 b00 b02 b10 b12 + M2 b02 b03 b32 b33 * M2 b00 b01 b10 b11 = 0 := by
  unfold M2; grind
theorem e21 (b00 b01 b02 b03 b10 b11 b12 b13 b20 b21 b22 b23 b30 b31 b32 b33 : Int) : M2 b00 b01 b30 b31 * M2 b02 b03 b22 b23 - M2 b00 b02 b30 b32 * M2 b01 b03 b21 b23 + M2 b00 b03 b30 b33 * M2 b01 b02 b21 b22 + M2 b01 b02 b31 b32 * M2 b00 b03 b20 b23 - M2 b01 b03 b31 b33 * M2 b00 b02 b20 b22 + M2 b02 b03 b32 b33 * M2 b00 b01 b20 b21 = 0 := by
  unfold M2; grind
theorem e22 (b00 b01 b02 b03 b10 b11 b12 b13 b20 b21 b22 b23 b30 b31 b32 b33 : Int) : M2 b00 b01 b30 b31 * M2 b02 b03 b32 b33 - M2 b00 b02 b30 b32 * M2 b01 b03 b31 b33 + M2 b00 b03 b30 b33 * M2 b01 b02 b31 b32 + M2 b01 b02 b31 b32 * M2 b00 b03 b30 b33 - M2 b01 b03 b31 b33 * M2 b00 b02 b30 b32 + M2 b02 b03 b32 b33 * M2 b00 b01 b30 b31 = 0 := by
  unfold M2; grind
theorem e23 (b00 b01 b02 b03 b10 b11 b12 b13 b20 b21 b22 b23 b30 b31 b32 b33 : Int) : M2 b00 b01 b30 b31 * M2 b12 b13 b22 b23 - M2 b00 b02 b30 b32 * M2 b11 b13 b21 b23 + M2 b00 b03 b30 b33 * M2 b11 b12 b21 b22 + M2 b01 b02 b31 b32 * M2 b10 b13 b20 b23 - M2 b01 b03 b31 b33 * M2 b10 b12 b20 b22 + M2 b02 b03 b32 b33 * M2 b10 b11 b20 b21 = D4 b00 b01 b02 b03 b10 b11 b12 b13 b20 b21 b22 b23 b30 b31 b32 b33 := by
  unfold M2 D4; grind
theorem e24 (b00 b01 b02 b03 b10 b11 b12 b13 b20 b21 b22 b23 b30 b31 b32 b33 : Int) : M2 b00 b01 b30 b31 * M2 b12 b13 b32 b33 - M2 b00 b02 b30 b32 * M2 b11 b13 b31 b33 + M2 b00 b03 b30 b33 * M2 b11 b12 b31 b32 + M2 b01 b02 b31 b32 * M2 b10 b13 b30 b33 - M2 b01 b03 b31 b33 * M2 b10 b12 b30 b32 + M2 b02 b03 b32 b33 * M2 b10 b11 b30 b31 = 0 := by
  unfold M2; grind
theorem e25 (b00 b01 b02 b03 b10 b11 b12 b13 b20 b21 b22 b23 b30 b31 b32 b33 : Int) : M2 b00 b01 b30 b31 * M2 b22 b23 b32 b33 - M2 b00 b02 b30 b32 * M2 b21 b23 b31 b33 + M2 b00 b03 b30 b33 * M2 b21 b22 b31 b32 + M2 b01 b02 b31 b32 * M2 b20 b23 b30 b33 - M2 b01 b03 b31 b33 * M2 b20 b22 b30 b32 + M2 b02 b03 b32 b33 * M2 b20 b21 b30 b31 = 0 := by
  unfold M2; grind
theorem e30 (b00 b01 b02 b03 b10 b11 b12 b13 b20 b21 b22 b23 b30 b31 b32 b33 : Int) : M2 b10 b11 b20 b21 * M2 b02 b03 b12 b13 - M2 b10 b12 b20 b22 * M2 b01 b03 b11 b13 + M2 b10 b13 b20 b23 * M2 b01 b02 b11 b12 + M2 b11 b12 b21 b22 * M2 b00 b03 b10 b13 - M2 b11 b13 b21 b23 * M2 b00 b02 b10 b12 + M2 b12 b13 b22 b23 * M2 b00 b01 b10 b11 = 0 := by
  unfold M2; grind
theorem e31 (b00 b01 b02 b03 b10 b11 b12 b13 b20 b21 b22 b23 b30 b31 b32 b33 : Int) : M2 b10 b11 b20 b21 * M2 b02 b03 b22 b23 - M2 b10 b12 b20 b22 * M2 b01 b03 b21 b23 + M2 b10 b13 b20 b23 * M2 b01 b02 b21 b22 + M2 b11 b12 b21 b22 * M2 b00 b03 b20 b23 - M2 b11 b13 b21 b23 * M2 b00 b02 b20 b22 + M2 b12 b13 b22 b23 * M2 b00 b01 b20 b21 = 0 := by
  unfold M2; grind
theorem e32 (b00 b01 b02 b03 b10 b11 b12 b13 b20 b21 b22 b23 b30 b31 b32 b33 : Int) : M2 b10 b11 b20 b21 * M2 b02 b03 b32 b33 - M2 b10 b12 b20 b22 * M2 b01 b03 b31 b33 + M2 b10 b13 b20 b23 * M2 b01 b02 b31 b32 + M2 b11 b12 b21 b22 * M2 b00 b03 b30 b33 - M2 b11 b13 b21 b23 * M2 b00 b02 b30 b32 + M2 b12 b13 b22 b23 * M2 b00 b01 b30 b31 = D4 b00 b01 b02 b03 b10 b11 b12 b13 b20 b21 b22 b23 b30 b31 b32 b33 := by
  unfold M2 D4; grind
theorem e33 (b00 b01 b02 b03 b10 b11 b12 b13 b20 b21 b22 b23 b30 b31 b32 b33 : Int) : M2 b10 b11 b20 b21 * M2 b12 b13 b22 b23 - M2 b10 b12 b20 b22 * M2 b11 b13 b21 b23 + M2 b10 b13 b20 b23 * M2 b11 b12 b21 b22 + M2 b11 b12 b21 b22 * M2 b10 b13 b20 b23 - M2 b11 b13 b21 b23 * M2 b10 b12 b20 b22 + M2 b12 b13 b22 b23 * M2 b10 b11 b20 b21 = 0 := by
  unfold M2; grind
theorem e34 (b00 b01 b02 b03 b10 b11 b12 b13 b20 b21 b22 b23 b30 b31 b32 b33 : Int) : M2 b10 b11 b20 b21 * M2 b12 b13 b32 b33 - M2 b10 b12 b20 b22 * M2 b11 b13 b31 b33 + M2 b10 b13 b20 b23 * M2 b11 b12 b31 b32 + M2 b11 b12 b21 b22 * M2 b10 b13 b30 b33 - M2 b11 b13 b21 b23 * M2 b10 b12 b30 b32 + M2 b12 b13 b22 b23 * M2 b10 b11 b30 b31 = 0 := by
  unfold M2; grind
theorem e35 (b00 b01 b02 b03 b10 b11 b12 b13 b20 b21 b22 b23 b30 b31 b32 b33 : Int) : M2 b10 b11 b20 b21 * M2 b22 b23 b32 b33 - M2 b10 b12 b20 b22 * M2 b21 b23 b31 b33 + M2 b10 b13 b20 b23 * M2 b21 b22 b31 b32 + M2 b11 b12 b21 b22 * M2 b20 b23 b30 b33 - M2 b11 b13 b21 b23 * M2 b20 b22 b30 b32 + M2 b12 b13 b22 b23 * M2 b20 b21 b30 b31 = 0 := by
  unfold M2; grind
theorem e40 (b00 b01 b02 b03 b10 b11 b12 b13 b20 b21 b22 b23 b30 b31 b32 b33 : Int) : M2 b10 b11 b30 b31 * M2 b02 b03 b12 b13 - M2 b10 b12 b30 b32 * M2 b01 b03 b11 b13 + M2 b10 b13 b30 b33 * M2 b01 b02 b11 b12 + M2 b11 b12 b31 b32 * M2 b00 b03 b10 b13 - M2 b11 b13 b31 b33 * M2 b00 b02 b10 b12 + M2 b12 b13 b32 b33 * M2 b00 b01 b10 b11 = 0 := by
  unfold M2; grind
theorem e41 (b00 b01 b02 b03 b10 b11 b12 b13 b20 b21 b22 b23 b30 b31 b32 b33 : Int) : M2 b10 b11 b30 b31 * M2 b02 b03 b22 b23 - M2 b10 b12 b30 b32 * M2 b01 b03 b21 b23 + M2 b10 b13 b30 b33 * M2 b01 b02 b21 b22 + M2 b11 b12 b31 b32 * M2 b00 b03 b20 b23 - M2 b11 b13 b31 b33 * M2 b00 b02 b20 b22 + M2 b12 b13 b32 b33 * M2 b00 b01 b20 b21 = -D4 b00 b01 b02 b03 b10 b11 b12 b13 b20 b21 b22 b23 b30 b31 b32 b33 := by
  unfold M2 D4; grind
theorem e42 (b00 b01 b02 b03 b10 b11 b12 b13 b20 b21 b22 b23 b30 b31 b32 b33 : Int) : M2 b10 b11 b30 b31 * M2 b02 b03 b32 b33 - M2 b10 b12 b30 b32 * M2 b01 b03 b31 b33 + M2 b10 b13 b30 b33 * M2 b01 b02 b31 b32 + M2 b11 b12 b31 b32 * M2 b00 b03 b30 b33 - M2 b11 b13 b31 b33 * M2 b00 b02 b30 b32 + M2 b12 b13 b32 b33 * M2 b00 b01 b30 b31 = 0 := by
  unfold M2; grind
theorem e43 (b00 b01 b02 b03 b10 b11 b12 b13 b20 b21 b22 b23 b30 b31 b32 b33 : Int) : M2 b10 b11 b30 b31 * M2 b12 b13 b22 b23 - M2 b10 b12 b30 b32 * M2 b11 b13 b21 b23 + M2 b10 b13 b30 b33 * M2 b11 b12 b21 b22 + M2 b11 b12 b31 b32 * M2 b10 b13 b20 b23 - M2 b11 b13 b31 b33 * M2 b10 b12 b20 b22 + M2 b12 b13 b32 b33 * M2 b10 b11 b20 b21 = 0 := by
  unfold M2; grind
theorem e44 (b00 b01 b02 b03 b10 b11 b12 b13 b20 b21 b22 b23 b30 b31 b32 b33 : Int) : M2 b10 b11 b30 b31 * M2 b12 b13 b32 b33 - M2 b10 b12 b30 b32 * M2 b11 b13 b31 b33 + M2 b10 b13 b30 b33 * M2 b11 b12 b31 b32 + M2 b11 b12 b31 b32 * M2 b10 b13 b30 b33 - M2 b11 b13 b31 b33 * M2 b10 b12 b30 b32 + M2 b12 b13 b32 b33 * M2 b10 b11 b30 b31 = 0 := by
  unfold M2; grind
theorem e45 (b00 b01 b02 b03 b10 b11 b12 b13 b20 b21 b22 b23 b30 b31 b32 b33 : Int) : M2 b10 b11 b30 b31 * M2 b22 b23 b32 b33 - M2 b10 b12 b30 b32 * M2 b21 b23 b31 b33 + M2 b10 b13 b30 b33 * M2 b21 b22 b31 b32 + M2 b11 b12 b31 b32 * M2 b20 b23 b30 b33 - M2 b11 b13 b31 b33 * M2 b20 b22 b30 b32 + M2 b12 b13 b32 b33 * M2 b20 b21 b30 b31 = 0 := by
  unfold M2; grind
theorem e50 (b00 b01 b02 b03 b10 b11 b12 b13 b20 b21 b22 b23 b30 b31 b32 b33 : Int) : M2 b20 b21 b30 b31 * M2 b02 b03 b12 b13 - M2 b20 b22 b30 b32 * M2 b01 b03 b11 b13 + M2 b20 b23 b30 b33 * M2 b01 b02 b11 b12 + M2 b21 b22 b31 b32 * M2 b00 b03 b10 b13 - M2 b21 b23 b31 b33 * M2 b00 b02 b10 b12 + M2 b22 b23 b32 b33 * M2 b00 b01 b10 b11 = D4 b00 b01 b02 b03 b10 b11 b12 b13 b20 b21 b22 b23 b30 b31 b32 b33 := by
  unfold M2 D4; grind
theorem e51 (b00 b01 b02 b03 b10 b11 b12 b13 b20 b21 b22 b23 b30 b31 b32 b33 : Int) : M2 b20 b21 b30 b31 * M2 b02 b03 b22 b23 - M2 b20 b22 b30 b32 * M2 b01 b03 b21 b23 + M2 b20 b23 b30 b33 * M2 b01 b02 b21 b22 + M2 b21 b22 b31 b32 * M2 b00 b03 b20 b23 - M2 b21 b23 b31 b33 * M2 b00 b02 b20 b22 + M2 b22 b23 b32 b33 * M2 b00 b01 b20 b21 = 0 := by
  unfold M2; grind
theorem e52 (b00 b01 b02 b03 b10 b11 b12 b13 b20 b21 b22 b23 b30 b31 b32 b33 : Int) : M2 b20 b21 b30 b31 * M2 b02 b03 b32 b33 - M2 b20 b22 b30 b32 * M2 b01 b03 b31 b33 + M2 b20 b23 b30 b33 * M2 b01 b02 b31 b32 + M2 b21 b22 b31 b32 * M2 b00 b03 b30 b33 - M2 b21 b23 b31 b33 * M2 b00 b02 b30 b32 + M2 b22 b23 b32 b33 * M2 b00 b01 b30 b31 = 0 := by
  unfold M2; grind
theorem e53 (b00 b01 b02 b03 b10 b11 b12 b13 b20 b21 b22 b23 b30 b31 b32 b33 : Int) : M2 b20 b21 b30 b31 * M2 b12 b13 b22 b23 - M2 b20 b22 b30 b32 * M2 b11 b13 b21 b23 + M2 b20 b23 b30 b33 * M2 b11 b12 b21 b22 + M2 b21 b22 b31 b32 * M2 b10 b13 b20 b23 - M2 b21 b23 b31 b33 * M2 b10 b12 b20 b22 + M2 b22 b23 b32 b33 * M2 b10 b11 b20 b21 = 0 := by
  unfold M2; grind
theorem e54 (b00 b01 b02 b03 b10 b11 b12 b13 b20 b21 b22 b23 b30 b31 b32 b33 : Int) : M2 b20 b21 b30 b31 * M2 b12 b13 b32 b33 - M2 b20 b22 b30 b32 * M2 b11 b13 b31 b33 + M2 b20 b23 b30 b33 * M2 b11 b12 b31 b32 + M2 b21 b22 b31 b32 * M2 b10 b13 b30 b33 - M2 b21 b23 b31 b33 * M2 b10 b12 b30 b32 + M2 b22 b23 b32 b33 * M2 b10 b11 b30 b31 = 0 := by
  unfold M2; grind
theorem e55 (b00 b01 b02 b03 b10 b11 b12 b13 b20 b21 b22 b23 b30 b31 b32 b33 : Int) : M2 b20 b21 b30 b31 * M2 b22 b23 b32 b33 - M2 b20 b22 b30 b32 * M2 b21 b23 b31 b33 + M2 b20 b23 b30 b33 * M2 b21 b22 b31 b32 + M2 b21 b22 b31 b32 * M2 b20 b23 b30 b33 - M2 b21 b23 b31 b33 * M2 b20 b22 b30 b32 + M2 b22 b23 b32 b33 * M2 b20 b21 b30 b31 = 0 := by
  unfold M2; grind
theorem fr0 (X0 X1 X2 X3 X4 X5 Y0 Y1 Y2 Y3 Y4 Y5 c00 c01 c02 c03 c04 c05 c10 c11 c12 c13 c14 c15 c20 c21 c22 c23 c24 c25 c30 c31 c32 c33 c34 c35 c40 c41 c42 c43 c44 c45 c50 c51 c52 c53 c54 c55 : Int) : (X0 * c00 + X1 * c10 + X2 * c20 + X3 * c30 + X4 * c40 + X5 * c50) * (Y0 * c05 + Y1 * c15 + Y2 * c25 + Y3 * c35 + Y4 * c45 + Y5 * c55) - (X0 * c01 + X1 * c11 + X2 * c21 + X3 * c31 + X4 * c41 + X5 * c51) * (Y0 * c04 + Y1 * c14 + Y2 * c24 + Y3 * c34 + Y4 * c44 + Y5 * c54) + (X0 * c02 + X1 * c12 + X2 * c22 + X3 * c32 + X4 * c42 + X5 * c52) * (Y0 * c03 + Y1 * c13 + Y2 * c23 + Y3 * c33 + Y4 * c43 + Y5 * c53) + (X0 * c03 + X1 * c13 + X2 * c23 + X3 * c33 + X4 * c43 + X5 * c53) * (Y0 * c02 + Y1 * c12 + Y2 * c22 + Y3 * c32 + Y4 * c42 + Y5 * c52) - (X0 * c04 + X1 * c14 + X2 * c24 + X3 * c34 + X4 * c44 + X5 * c54) * (Y0 * c01 + Y1 * c11 + Y2 * c21 + Y3 * c31 + Y4 * c41 + Y5 * c51) + (X0 * c05 + X1 * c15 + X2 * c25 + X3 * c35 + X4 * c45 + X5 * c55) * (Y0 * c00 + Y1 * c10 + Y2 * c20 + Y3 * c30 + Y4 * c40 + Y5 * c50) = X0 * Y0 * (c00 * c05 - c01 * c04 + c02 * c03 + c03 * c02 - c04 * c01 + c05 * c00) + X0 * Y1 * (c00 * c15 - c01 * c14 + c02 * c13 + c03 * c12 - c04 * c11 + c05 * c10) + X0 * Y2 * (c00 * c25 - c01 * c24 + c02 * c23 + c03 * c22 - c04 * c21 + c05 * c20) + X0 * Y3 * (c00 * c35 - c01 * c34 + c02 * c33 + c03 * c32 - c04 * c31 + c05 * c30) + X0 * Y4 * (c00 * c45 - c01 * c44 + c02 * c43 + c03 * c42 - c04 * c41 + c05 * c40) + X0 * Y5 * (c00 * c55 - c01 * c54 + c02 * c53 + c03 * c52 - c04 * c51 + c05 * c50) + X1 * Y0 * (c10 * c05 - c11 * c04 + c12 * c03 + c13 * c02 - c14 * c01 + c15 * c00) + X1 * Y1 * (c10 * c15 - c11 * c14 + c12 * c13 + c13 * c12 - c14 * c11 + c15 * c10) + X1 * Y2 * (c10 * c25 - c11 * c24 + c12 * c23 + c13 * c22 - c14 * c21 + c15 * c20) + X1 * Y3 * (c10 * c35 - c11 * c34 + c12 * c33 + c13 * c32 - c14 * c31 + c15 * c30) + X1 * Y4 * (c10 * c45 - c11 * c44 + c12 * c43 + c13 * c42 - c14 * c41 + c15 * c40) + X1 * Y5 * (c10 * c55 - c11 * c54 + c12 * c53 + c13 * c52 - c14 * c51 + c15 * c50) + X2 * Y0 * (c20 * c05 - c21 * c04 + c22 * c03 + c23 * c02 - c24 * c01 + c25 * c00) + X2 * Y1 * (c20 * c15 - c21 * c14 + c22 * c13 + c23 * c12 - c24 * c11 + c25 * c10) + X2 * Y2 * (c20 * c25 - c21 * c24 + c22 * c23 + c23 * c22 - c24 * c21 + c25 * c20) + X2 * Y3 * (c20 * c35 - c21 * c34 + c22 * c33 + c23 * c32 - c24 * c31 + c25 * c30) + X2 * Y4 * (c20 * c45 - c21 * c44 + c22 * c43 + c23 * c42 - c24 * c41 + c25 * c40) + X2 * Y5 * (c20 * c55 - c21 * c54 + c22 * c53 + c23 * c52 - c24 * c51 + c25 * c50) + X3 * Y0 * (c30 * c05 - c31 * c04 + c32 * c03 + c33 * c02 - c34 * c01 + c35 * c00) + X3 * Y1 * (c30 * c15 - c31 * c14 + c32 * c13 + c33 * c12 - c34 * c11 + c35 * c10) + X3 * Y2 * (c30 * c25 - c31 * c24 + c32 * c23 + c33 * c22 - c34 * c21 + c35 * c20) + X3 * Y3 * (c30 * c35 - c31 * c34 + c32 * c33 + c33 * c32 - c34 * c31 + c35 * c30) + X3 * Y4 * (c30 * c45 - c31 * c44 + c32 * c43 + c33 * c42 - c34 * c41 + c35 * c40) + X3 * Y5 * (c30 * c55 - c31 * c54 + c32 * c53 + c33 * c52 - c34 * c51 + c35 * c50) + X4 * Y0 * (c40 * c05 - c41 * c04 + c42 * c03 + c43 * c02 - c44 * c01 + c45 * c00) + X4 * Y1 * (c40 * c15 - c41 * c14 + c42 * c13 + c43 * c12 - c44 * c11 + c45 * c10) + X4 * Y2 * (c40 * c25 - c41 * c24 + c42 * c23 + c43 * c22 - c44 * c21 + c45 * c20) + X4 * Y3 * (c40 * c35 - c41 * c34 + c42 * c33 + c43 * c32 - c44 * c31 + c45 * c30) + X4 * Y4 * (c40 * c45 - c41 * c44 + c42 * c43 + c43 * c42 - c44 * c41 + c45 * c40) + X4 * Y5 * (c40 * c55 - c41 * c54 + c42 * c53 + c43 * c52 - c44 * c51 + c45 * c50) + X5 * Y0 * (c50 * c05 - c51 * c04 + c52 * c03 + c53 * c02 - c54 * c01 + c55 * c00) + X5 * Y1 * (c50 * c15 - c51 * c14 + c52 * c13 + c53 * c12 - c54 * c11 + c55 * c10) + X5 * Y2 * (c50 * c25 - c51 * c24 + c52 * c23 + c53 * c22 - c54 * c21 + c55 * c20) + X5 * Y3 * (c50 * c35 - c51 * c34 + c52 * c33 + c53 * c32 - c54 * c31 + c55 * c30) + X5 * Y4 * (c50 * c45 - c51 * c44 + c52 * c43 + c53 * c42 - c54 * c41 + c55 * c40) + X5 * Y5 * (c50 * c55 - c51 * c54 + c52 * c53 + c53 * c52 - c54 * c51 + c55 * c50) := by grind (ringSteps := 1000000)
theorem fr (X0 X1 X2 X3 X4 X5 Y0 Y1 Y2 Y3 Y4 Y5 c00 c01 c02 c03 c04 c05 c10 c11 c12 c13 c14 c15 c20 c21 c22 c23 c24 c25 c30 c31 c32 c33 c34 c35 c40 c41 c42 c43 c44 c45 c50 c51 c52 c53 c54 c55 D : Int) (h00 : c00 * c05 - c01 * c04 + c02 * c03 + c03 * c02 - c04 * c01 + c05 * c00 = 0) (h01 : c00 * c15 - c01 * c14 + c02 * c13 + c03 * c12 - c04 * c11 + c05 * c10 = 0) (h02 : c00 * c25 - c01 * c24 + c02 * c23 + c03 * c22 - c04 * c21 + c05 * c20 = 0) (h03 : c00 * c35 - c01 * c34 + c02 * c33 + c03 * c32 - c04 * c31 + c05 * c30 = 0) (h04 : c00 * c45 - c01 * c44 + c02 * c43 + c03 * c42 - c04 * c41 + c05 * c40 = 0) (h05 : c00 * c55 - c01 * c54 + c02 * c53 + c03 * c52 - c04 * c51 + c05 * c50 = D) (h10 : c10 * c05 - c11 * c04 + c12 * c03 + c13 * c02 - c14 * c01 + c15 * c00 = 0) (h11 : c10 * c15 - c11 * c14 + c12 * c13 + c13 * c12 - c14 * c11 + c15 * c10 = 0) (h12 : c10 * c25 - c11 * c24 + c12 * c23 + c13 * c22 - c14 * c21 + c15 * c20 = 0) (h13 : c10 * c35 - c11 * c34 + c12 * c33 + c13 * c32 - c14 * c31 + c15 * c30 = 0) (h14 : c10 * c45 - c11 * c44 + c12 * c43 + c13 * c42 - c14 * c41 + c15 * c40 = -D) (h15 : c10 * c55 - c11 * c54 + c12 * c53 + c13 * c52 - c14 * c51 + c15 * c50 = 0) (h20 : c20 * c05 - c21 * c04 + c22 * c03 + c23 * c02 - c24 * c01 + c25 * c00 = 0) (h21 : c20 * c15 - c21 * c14 + c22 * c13 + c23 * c12 - c24 * c11 + c25 * c10 = 0) (h22 : c20 * c25 - c21 * c24 + c22 * c23 + c23 * c22 - c24 * c21 + c25 * c20 = 0) (h23 : c20 * c35 - c21 * c34 + c22 * c33 + c23 * c32 - c24 * c31 + c25 * c30 = D) (h24 : c20 * c45 - c21 * c44 + c22 * c43 + c23 * c42 - c24 * c41 + c25 * c40 = 0) (h25 : c20 * c55 - c21 * c54 + c22 * c53 + c23 * c52 - c24 * c51 + c25 * c50 = 0) (h30 : c30 * c05 - c31 * c04 + c32 * c03 + c33 * c02 - c34 * c01 + c35 * c00 = 0) (h31 : c30 * c15 - c31 * c14 + c32 * c13 + c33 * c12 - c34 * c11 + c35 * c10 = 0) (h32 : c30 * c25 - c31 * c24 + c32 * c23 + c33 * c22 - c34 * c21 + c35 * c20 = D) (h33 : c30 * c35 - c31 * c34 + c32 * c33 + c33 * c32 - c34 * c31 + c35 * c30 = 0) (h34 : c30 * c45 - c31 * c44 + c32 * c43 + c33 * c42 - c34 * c41 + c35 * c40 = 0) (h35 : c30 * c55 - c31 * c54 + c32 * c53 + c33 * c52 - c34 * c51 + c35 * c50 = 0) (h40 : c40 * c05 - c41 * c04 + c42 * c03 + c43 * c02 - c44 * c01 + c45 * c00 = 0) (h41 : c40 * c15 - c41 * c14 + c42 * c13 + c43 * c12 - c44 * c11 + c45 * c10 = -D) (h42 : c40 * c25 - c41 * c24 + c42 * c23 + c43 * c22 - c44 * c21 + c45 * c20 = 0) (h43 : c40 * c35 - c41 * c34 + c42 * c33 + c43 * c32 - c44 * c31 + c45 * c30 = 0) (h44 : c40 * c45 - c41 * c44 + c42 * c43 + c43 * c42 - c44 * c41 + c45 * c40 = 0) (h45 : c40 * c55 - c41 * c54 + c42 * c53 + c43 * c52 - c44 * c51 + c45 * c50 = 0) (h50 : c50 * c05 - c51 * c04 + c52 * c03 + c53 * c02 - c54 * c01 + c55 * c00 = D) (h51 : c50 * c15 - c51 * c14 + c52 * c13 + c53 * c12 - c54 * c11 + c55 * c10 = 0) (h52 : c50 * c25 - c51 * c24 + c52 * c23 + c53 * c22 - c54 * c21 + c55 * c20 = 0) (h53 : c50 * c35 - c51 * c34 + c52 * c33 + c53 * c32 - c54 * c31 + c55 * c30 = 0) (h54 : c50 * c45 - c51 * c44 + c52 * c43 + c53 * c42 - c54 * c41 + c55 * c40 = 0) (h55 : c50 * c55 - c51 * c54 + c52 * c53 + c53 * c52 - c54 * c51 + c55 * c50 = 0) : (X0 * c00 + X1 * c10 + X2 * c20 + X3 * c30 + X4 * c40 + X5 * c50) * (Y0 * c05 + Y1 * c15 + Y2 * c25 + Y3 * c35 + Y4 * c45 + Y5 * c55) - (X0 * c01 + X1 * c11 + X2 * c21 + X3 * c31 + X4 * c41 + X5 * c51) * (Y0 * c04 + Y1 * c14 + Y2 * c24 + Y3 * c34 + Y4 * c44 + Y5 * c54) + (X0 * c02 + X1 * c12 + X2 * c22 + X3 * c32 + X4 * c42 + X5 * c52) * (Y0 * c03 + Y1 * c13 + Y2 * c23 + Y3 * c33 + Y4 * c43 + Y5 * c53) + (X0 * c03 + X1 * c13 + X2 * c23 + X3 * c33 + X4 * c43 + X5 * c53) * (Y0 * c02 + Y1 * c12 + Y2 * c22 + Y3 * c32 + Y4 * c42 + Y5 * c52) - (X0 * c04 + X1 * c14 + X2 * c24 + X3 * c34 + X4 * c44 + X5 * c54) * (Y0 * c01 + Y1 * c11 + Y2 * c21 + Y3 * c31 + Y4 * c41 + Y5 * c51) + (X0 * c05 + X1 * c15 + X2 * c25 + X3 * c35 + X4 * c45 + X5 * c55) * (Y0 * c00 + Y1 * c10 + Y2 * c20 + Y3 * c30 + Y4 * c40 + Y5 * c50) = (X0 * Y5 - X1 * Y4 + X2 * Y3 + X3 * Y2 - X4 * Y1 + X5 * Y0) * D := by
  rw [fr0, h00, h01, h02, h03, h04, h05, h10, h11, h12, h13, h14, h15, h20, h21, h22, h23, h24, h25, h30, h31, h32, h33, h34, h35, h40, h41, h42, h43, h44, h45, h50, h51, h52, h53, h54, h55]
  grind
theorem D4_mul (a00 a01 a02 a03 a10 a11 a12 a13 a20 a21 a22 a23 a30 a31 a32 a33 b00 b01 b02 b03 b10 b11 b12 b13 b20 b21 b22 b23 b30 b31 b32 b33 : Int) : D4 (a00 * b00 + a01 * b10 + a02 * b20 + a03 * b30) (a00 * b01 + a01 * b11 + a02 * b21 + a03 * b31) (a00 * b02 + a01 * b12 + a02 * b22 + a03 * b32) (a00 * b03 + a01 * b13 + a02 * b23 + a03 * b33) (a10 * b00 + a11 * b10 + a12 * b20 + a13 * b30) (a10 * b01 + a11 * b11 + a12 * b21 + a13 * b31) (a10 * b02 + a11 * b12 + a12 * b22 + a13 * b32) (a10 * b03 + a11 * b13 + a12 * b23 + a13 * b33) (a20 * b00 + a21 * b10 + a22 * b20 + a23 * b30) (a20 * b01 + a21 * b11 + a22 * b21 + a23 * b31) (a20 * b02 + a21 * b12 + a22 * b22 + a23 * b32) (a20 * b03 + a21 * b13 + a22 * b23 + a23 * b33) (a30 * b00 + a31 * b10 + a32 * b20 + a33 * b30) (a30 * b01 + a31 * b11 + a32 * b21 + a33 * b31) (a30 * b02 + a31 * b12 + a32 * b22 + a33 * b32) (a30 * b03 + a31 * b13 + a32 * b23 + a33 * b33) = D4 a00 a01 a02 a03 a10 a11 a12 a13 a20 a21 a22 a23 a30 a31 a32 a33 * D4 b00 b01 b02 b03 b10 b11 b12 b13 b20 b21 b22 b23 b30 b31 b32 b33 := by
  rw [lap, cb, cb, cb, cb, cb, cb, cb, cb, cb, cb, cb, cb, lap a00 a01 a02 a03 a10 a11 a12 a13 a20 a21 a22 a23 a30 a31 a32 a33]
  exact fr _ _ _ _ _ _ _ _ _ _ _ _ _ _ _ _ _ _ _ _ _ _ _ _ _ _ _ _ _ _ _ _ _ _ _ _ _ _ _ _ _ _ _ _ _ _ _ _ (D4 b00 b01 b02 b03 b10 b11 b12 b13 b20 b21 b22 b23 b30 b31 b32 b33) (e00 b00 b01 b02 b03 b10 b11 b12 b13 b20 b21 b22 b23 b30 b31 b32 b33) (e01 b00 b01 b02 b03 b10 b11 b12 b13 b20 b21 b22 b23 b30 b31 b32 b33) (e02 b00 b01 b02 b03 b10 b11 b12 b13 b20 b21 b22 b23 b30 b31 b32 b33) (e03 b00 b01 b02 b03 b10 b11 b12 b13 b20 b21 b22 b23 b30 b31 b32 b33) (e04 b00 b01 b02 b03 b10 b11 b12 b13 b20 b21 b22 b23 b30 b31 b32 b33) (e05 b00 b01 b02 b03 b10 b11 b12 b13 b20 b21 b22 b23 b30 b31 b32 b33) (e10 b00 b01 b02 b03 b10 b11 b12 b13 b20 b21 b22 b23 b30 b31 b32 b33) (e11 b00 b01 b02 b03 b10 b11 b12 b13 b20 b21 b22 b23 b30 b31 b32 b33) (e12 b00 b01 b02 b03 b10 b11 b12 b13 b20 b21 b22 b23 b30 b31 b32 b33) (e13 b00 b01 b02 b03 b10 b11 b12 b13 b20 b21 b22 b23 b30 b31 b32 b33) (e14 b00 b01 b02 b03 b10 b11 b12 b13 b20 b21 b22 b23 b30 b31 b32 b33) (e15 b00 b01 b02 b03 b10 b11 b12 b13 b20 b21 b22 b23 b30 b31 b32 b33) (e20 b00 b01 b02 b03 b10 b11 b12 b13 b20 b21 b22 b23 b30 b31 b32 b33) (e21 b00 b01 b02 b03 b10 b11 b12 b13 b20 b21 b22 b23 b30 b31 b32 b33) (e22 b00 b01 b02 b03 b10 b11 b12 b13 b20 b21 b22 b23 b30 b31 b32 b33) (e23 b00 b01 b02 b03 b10 b11 b12 b13 b20 b21 b22 b23 b30 b31 b32 b33) (e24 b00 b01 b02 b03 b10 b11 b12 b13 b20 b21 b22 b23 b30 b31 b32 b33) (e25 b00 b01 b02 b03 b10 b11 b12 b13 b20 b21 b22 b23 b30 b31 b32 b33) (e30 b00 b01 b02 b03 b10 b11 b12 b13 b20 b21 b22 b23 b30 b31 b32 b33) (e31 b00 b01 b02 b03 b10 b11 b12 b13 b20 b21 b22 b23 b30 b31 b32 b33) (e32 b00 b01 b02 b03 b10 b11 b12 b13 b20 b21 b22 b23 b30 b31 b32 b33) (e33 b00 b01 b02 b03 b10 b11 b12 b13 b20 b21 b22 b23 b30 b31 b32 b33) (e34 b00 b01 b02 b03 b10 b11 b12 b13 b20 b21 b22 b23 b30 b31 b32 b33) (e35 b00 b01 b02 b03 b10 b11 b12 b13 b20 b21 b22 b23 b30 b31 b32 b33) (e40 b00 b01 b02 b03 b10 b11 b12 b13 b20 b21 b22 b23 b30 b31 b32 b33) (e41 b00 b01 b02 b03 b10 b11 b12 b13 b20 b21 b22 b23 b30 b31 b32 b33) (e42 b00 b01 b02 b03 b10 b11 b12 b13 b20 b21 b22 b23 b30 b31 b32 b33) (e43 b00 b01 b02 b03 b10 b11 b12 b13 b20 b21 b22 b23 b30 b31 b32 b33) (e44 b00 b01 b02 b03 b10 b11 b12 b13 b20 b21 b22 b23 b30 b31 b32 b33) (e45 b00 b01 b02 b03 b10 b11 b12 b13 b20 b21 b22 b23 b30 b31 b32 b33) (e50 b00 b01 b02 b03 b10 b11 b12 b13 b20 b21 b22 b23 b30 b31 b32 b33) (e51 b00 b01 b02 b03 b10 b11 b12 b13 b20 b21 b22 b23 b30 b31 b32 b33) (e52 b00 b01 b02 b03 b10 b11 b12 b13 b20 b21 b22 b23 b30 b31 b32 b33) (e53 b00 b01 b02 b03 b10 b11 b12 b13 b20 b21 b22 b23 b30 b31 b32 b33) (e54 b00 b01 b02 b03 b10 b11 b12 b13 b20 b21 b22 b23 b30 b31 b32 b33) (e55 b00 b01 b02 b03 b10 b11 b12 b13 b20 b21 b22 b23 b30 b31 b32 b33)

def D3 (a b c d e f g h i : Int) : Int := a*(e*i-f*h) - b*(d*i-f*g) + c*(d*h-e*g)
abbrev Mx := Nat → Nat → Int
/-- the minor of the first k rows and row i, of the first k columns and column j -/
def mn : Nat → Mx → Nat → Nat → Int
  | 0, P, i, j => P i j
  | 1, P, i, j => P 0 0 * P i j - P i 0 * P 0 j
  | 2, P, i, j => D3 (P 0 0) (P 0 1) (P 0 j) (P 1 0) (P 1 1) (P 1 j) (P i 0) (P i 1) (P i j)
  | _, P, i, j => D4 (P 0 0) (P 0 1) (P 0 2) (P 0 j) (P 1 0) (P 1 1) (P 1 2) (P 1 j) (P 2 0) (P 2 1) (P 2 2) (P 2 j) (P i 0) (P i 1) (P i 2) (P i j)
def ld : Nat → Mx → Int
  | 0, _ => 1
  | k + 1, P => mn k P k k
def dt (n : Nat) (P : Mx) : Int := mn (n - 1) P (n - 1) (n - 1)
theorem mn_step {k : Nat} (hk : k < 3) (P : Mx) (i j : Nat) : mn k P k k * mn k P i j - mn k P i k * mn k P k j = ld k P * mn (k + 1) P i j := by
  match k, hk with
  | 0, _ => simp only [mn, ld]; grind
  | 1, _ => simp only [mn, ld, D3]; grind
  | 2, _ => simp only [mn, ld, D3, D4]; grind
/-- two rows exchanged -/
def sw (k at_ : Nat) (i : Nat) : Nat := if i = k then at_ else if i = at_ then k else i
def swp (k at_ : Nat) (P : Mx) : Mx := fun i j => P (sw k at_ i) j
theorem sw_lt {k a i : Nat} (h : k ≤ a) (hi : i < k) : sw k a i = i := by
  unfold sw
  rw [if_neg (by omega), if_neg (by omega)]
theorem mn_swp {k a : Nat} (hk : k < 4) (h : k ≤ a) (P : Mx) (i j : Nat) : mn k (swp k a P) i j = mn k P (sw k a i) j := by
  match k, hk with
  | 0, _ => rfl
  | 1, _ => simp only [mn, swp, sw_lt h (i := 0) (by omega)]
  | 2, _ => simp only [mn, swp, sw_lt h (i := 0) (by omega), sw_lt h (i := 1) (by omega)]
  | 3, _ => simp only [mn, swp, sw_lt h (i := 0) (by omega), sw_lt h (i := 1) (by omega), sw_lt h (i := 2) (by omega)]
theorem ld_swp {k a : Nat} (hk : k < 4) (h : k ≤ a) (P : Mx) : ld k (swp k a P) = ld k P := by
  match k, hk with
  | 0, _ => rfl
  | 1, _ => simp only [ld, mn, swp, sw_lt h (i := 0) (by omega)]
  | 2, _ => simp only [ld, mn, swp, sw_lt h (i := 0) (by omega), sw_lt h (i := 1) (by omega)]
  | 3, _ => simp only [ld, mn, swp, sw_lt h (i := 0) (by omega), sw_lt h (i := 1) (by omega), sw_lt h (i := 2) (by omega)]
theorem dt_swp {n k a : Nat} (hn : n ≤ 4) (hk : k < a) (ha : a < n) (P : Mx) : dt n (swp k a P) = -dt n P := by
  have hc : (n = 2 ∧ a = 1 ∧ k = 0) ∨ (n = 3 ∧ a = 1 ∧ k = 0) ∨ (n = 3 ∧ a = 2 ∧ k = 0) ∨ (n = 3 ∧ a = 2 ∧ k = 1) ∨ (n = 4 ∧ a = 1 ∧ k = 0) ∨ (n = 4 ∧ a = 2 ∧ k = 0) ∨ (n = 4 ∧ a = 2 ∧ k = 1) ∨ (n = 4 ∧ a = 3 ∧ k = 0) ∨ (n = 4 ∧ a = 3 ∧ k = 1) ∨ (n = 4 ∧ a = 3 ∧ k = 2) := by omega
  rcases hc with ⟨rfl, rfl, rfl⟩ | ⟨rfl, rfl, rfl⟩ | ⟨rfl, rfl, rfl⟩ | ⟨rfl, rfl, rfl⟩ | ⟨rfl, rfl, rfl⟩ | ⟨rfl, rfl, rfl⟩ | ⟨rfl, rfl, rfl⟩ | ⟨rfl, rfl, rfl⟩ | ⟨rfl, rfl, rfl⟩ | ⟨rfl, rfl, rfl⟩

  · simp [dt, mn, swp, sw, D3, D4]; try grind
  · simp [dt, mn, swp, sw, D3, D4]; try grind
  · simp [dt, mn, swp, sw, D3, D4]; try grind
  · simp [dt, mn, swp, sw, D3, D4]; try grind
  · simp [dt, mn, swp, sw, D3, D4]; try grind
  · simp [dt, mn, swp, sw, D3, D4]; try grind
  · simp [dt, mn, swp, sw, D3, D4]; try grind
  · simp [dt, mn, swp, sw, D3, D4]; try grind
  · simp [dt, mn, swp, sw, D3, D4]; try grind
  · simp [dt, mn, swp, sw, D3, D4]; try grind
/-- no entry in the column: the determinant is 0 -/
theorem dt_none {n k : Nat} (hn : n ≤ 4) (hk : k + 1 < n) (P : Mx) (h0 : ld k P ≠ 0) (hz : ∀ i, k ≤ i → i < n → mn k P i k = 0) : dt n P = 0 := by
  have hc : (n = 2 ∧ k = 0) ∨ (n = 3 ∧ k = 0) ∨ (n = 4 ∧ k = 0) ∨ (n = 3 ∧ k = 1) ∨ (n = 4 ∧ k = 2) ∨ (n = 4 ∧ k = 1) := by omega
  rcases hc with ⟨rfl, rfl⟩ | ⟨rfl, rfl⟩ | ⟨rfl, rfl⟩ | ⟨rfl, rfl⟩ | ⟨rfl, rfl⟩ | ⟨rfl, rfl⟩
  · skip
    have h0 := hz 0 (by omega) (by omega)
    have h1 := hz 1 (by omega) (by omega)
    simp only [mn] at h0 h1
    simp only [dt, mn, h0, h1]; grind
  · skip
    have h0 := hz 0 (by omega) (by omega)
    have h1 := hz 1 (by omega) (by omega)
    have h2 := hz 2 (by omega) (by omega)
    simp only [mn] at h0 h1 h2
    simp only [dt, mn, D3, h0, h1, h2]; grind
  · skip
    have h0 := hz 0 (by omega) (by omega)
    have h1 := hz 1 (by omega) (by omega)
    have h2 := hz 2 (by omega) (by omega)
    have h3 := hz 3 (by omega) (by omega)
    simp only [mn] at h0 h1 h2 h3
    simp only [dt, mn, D4, h0, h1, h2, h3]; grind
  · have hl := h0
    have h1 := hz 1 (by omega) (by omega)
    have h2 := hz 2 (by omega) (by omega)
    have e := mn_step (k := 1) (by omega) P 2 2
    rw [h1, h2] at e
    have e : ld 1 P * mn 2 P 2 2 = 0 := by rw [← e]; grind
    exact (Int.mul_eq_zero.mp e).resolve_left hl
  · have hl := h0
    have h1 := hz 2 (by omega) (by omega)
    have h2 := hz 3 (by omega) (by omega)
    have e := mn_step (k := 2) (by omega) P 3 3
    rw [h1, h2] at e
    have e : ld 2 P * mn 3 P 3 3 = 0 := by rw [← e]; grind
    exact (Int.mul_eq_zero.mp e).resolve_left hl
  · have hl := h0
    have h1 := hz 1 (by omega) (by omega)
    have h2 := hz 2 (by omega) (by omega)
    have h3 := hz 3 (by omega) (by omega)
    have e : P 0 0 * (P 0 0 * dt 4 P) = D3 (mn 1 P 1 1) (mn 1 P 1 2) (mn 1 P 1 3) (mn 1 P 2 1) (mn 1 P 2 2) (mn 1 P 2 3) (mn 1 P 3 1) (mn 1 P 3 2) (mn 1 P 3 3) := by
      simp only [dt, mn, D3, D4]; grind
    rw [h1, h2, h3] at e
    have e : P 0 0 * (P 0 0 * dt 4 P) = 0 := by rw [e]; unfold D3; grind
    exact (Int.mul_eq_zero.mp ((Int.mul_eq_zero.mp e).resolve_left hl)).resolve_left hl
/-- the product -/
def mm (n : Nat) (A B : Mx) : Mx := fun i j => (((List.range n).map fun k => A i k * B k j)).sum
theorem dt_mul {n : Nat} (h1 : 1 ≤ n) (hn : n ≤ 4) (A B : Mx) : dt n (mm n A B) = dt n A * dt n B := by
  match n, h1, hn with
  | 1, _, _ => simp [dt, mn, mm, List.range_succ]
  | 2, _, _ => simp [dt, mn, mm, List.range_succ]; grind
  | 3, _, _ => simp [dt, mn, mm, List.range_succ, D3]; grind
  | 4, _, _ =>
    have h := D4_mul (A 0 0) (A 0 1) (A 0 2) (A 0 3) (A 1 0) (A 1 1) (A 1 2) (A 1 3) (A 2 0) (A 2 1) (A 2 2) (A 2 3) (A 3 0) (A 3 1) (A 3 2) (A 3 3) (B 0 0) (B 0 1) (B 0 2) (B 0 3) (B 1 0) (B 1 1) (B 1 2) (B 1 3) (B 2 0) (B 2 1) (B 2 2) (B 2 3) (B 3 0) (B 3 1) (B 3 2) (B 3 3)
    have e : ∀ i j, mm 4 A B i j = A i 0 * B 0 j + A i 1 * B 1 j + A i 2 * B 2 j + A i 3 * B 3 j := fun i j => by
      simp [mm, List.range_succ]; grind
    show D4 (mm 4 A B 0 0) (mm 4 A B 0 1) (mm 4 A B 0 2) (mm 4 A B 0 3) (mm 4 A B 1 0) (mm 4 A B 1 1) (mm 4 A B 1 2) (mm 4 A B 1 3) (mm 4 A B 2 0) (mm 4 A B 2 1) (mm 4 A B 2 2) (mm 4 A B 2 3) (mm 4 A B 3 0) (mm 4 A B 3 1) (mm 4 A B 3 2) (mm 4 A B 3 3) = _
    simp only [e]
    exact h
/-- bounds -/
theorem ab_mul {a b : Int} {A B : Nat} (ha : a.natAbs ≤ A) (hb : b.natAbs ≤ B) : (a * b).natAbs ≤ A * B := by
  rw [Int.natAbs_mul]; exact Nat.mul_le_mul ha hb
theorem ab_sub {a b : Int} {A B : Nat} (ha : a.natAbs ≤ A) (hb : b.natAbs ≤ B) : (a - b).natAbs ≤ A + B := by omega
theorem ab_add {a b : Int} {A B : Nat} (ha : a.natAbs ≤ A) (hb : b.natAbs ≤ B) : (a + b).natAbs ≤ A + B := by omega
theorem D3_ab {x : Nat} {a b c d e f g h i : Int} (ha : a.natAbs ≤ x) (hb : b.natAbs ≤ x) (hc : c.natAbs ≤ x) (hd : d.natAbs ≤ x) (he : e.natAbs ≤ x) (hf : f.natAbs ≤ x) (hg : g.natAbs ≤ x) (hh : h.natAbs ≤ x) (hi : i.natAbs ≤ x) : (D3 a b c d e f g h i).natAbs ≤ x * (x * x + x * x) + x * (x * x + x * x) + x * (x * x + x * x) :=
  ab_add (ab_sub (ab_mul ha (ab_sub (ab_mul he hi) (ab_mul hf hh))) (ab_mul hb (ab_sub (ab_mul hd hi) (ab_mul hf hg)))) (ab_mul hc (ab_sub (ab_mul hd hh) (ab_mul he hg)))
theorem D4_eq (a b c d e f g h i j k l m n o p : Int) : D4 a b c d e f g h i j k l m n o p = a * D3 f g h j k l n o p - b * D3 e g h i k l m o p + c * D3 e f h i j l m n p - d * D3 e f g i j k m n o := by
  unfold D4 D3; grind
theorem mn_ab {x : Nat} {P : Mx} {n : Nat} (h : ∀ i j, i < n → j < n → (P i j).natAbs ≤ x) (hx : x ≤ 10000) {k i j : Nat} (hk : k < n) (hk4 : k < 4) (hi : i < n) (hj : j < n) : (mn k P i j).natAbs ≤ 240000000000000000 := by
  match k, hk4 with
  | 0, _ =>
    have := h i j hi hj
    simp only [mn]; omega
  | 1, _ =>
    have e := ab_sub (ab_mul (h 0 0 (by omega) (by omega)) (h i j hi hj)) (ab_mul (h i 0 hi (by omega)) (h 0 j (by omega) hj))
    have : x * x ≤ 10000 * 10000 := Nat.mul_le_mul hx hx
    simp only [mn]; omega
  | 2, _ =>
    have e := D3_ab (h 0 0 (by omega) (by omega)) (h 0 1 (by omega) (by omega)) (h 0 j (by omega) hj) (h 1 0 (by omega) (by omega)) (h 1 1 (by omega) (by omega)) (h 1 j (by omega) hj) (h i 0 hi (by omega)) (h i 1 hi (by omega)) (h i j hi hj)
    have h2 : x * x ≤ 10000 * 10000 := Nat.mul_le_mul hx hx
    have h3 : x * (x * x + x * x) ≤ 10000 * (10000 * 10000 + 10000 * 10000) := Nat.mul_le_mul hx (by omega)
    simp only [mn]; omega
  | 3, _ =>
    have h2 : x * x ≤ 10000 * 10000 := Nat.mul_le_mul hx hx
    have h3 : x * (x * x + x * x) ≤ 10000 * (10000 * 10000 + 10000 * 10000) := Nat.mul_le_mul hx (by omega)
    have b : ∀ {a b c d e f g h i : Int}, a.natAbs ≤ x → b.natAbs ≤ x → c.natAbs ≤ x → d.natAbs ≤ x → e.natAbs ≤ x → f.natAbs ≤ x → g.natAbs ≤ x → h.natAbs ≤ x → i.natAbs ≤ x → (D3 a b c d e f g h i).natAbs ≤ 6000000000000 := fun ha hb hc hd he hf hg hh hi => by
      have := D3_ab ha hb hc hd he hf hg hh hi
      omega
    have h00 := h 0 0 (by omega) (by omega)
    have h01 := h 0 1 (by omega) (by omega)
    have h02 := h 0 2 (by omega) (by omega)
    have h0j := h 0 j (by omega) hj
    have h10 := h 1 0 (by omega) (by omega)
    have h11 := h 1 1 (by omega) (by omega)
    have h12 := h 1 2 (by omega) (by omega)
    have h1j := h 1 j (by omega) hj
    have h20 := h 2 0 (by omega) (by omega)
    have h21 := h 2 1 (by omega) (by omega)
    have h22 := h 2 2 (by omega) (by omega)
    have h2j := h 2 j (by omega) hj
    have hi0 := h i 0 hi (by omega)
    have hi1 := h i 1 hi (by omega)
    have hi2 := h i 2 hi (by omega)
    have hij := h i j hi hj
    have e := ab_sub (ab_add (ab_sub (ab_mul h00 (b h11 h12 h1j h21 h22 h2j hi1 hi2 hij)) (ab_mul h01 (b h10 h12 h1j h20 h22 h2j hi0 hi2 hij))) (ab_mul h02 (b h10 h11 h1j h20 h21 h2j hi0 hi1 hij))) (ab_mul h0j (b h10 h11 h12 h20 h21 h22 hi0 hi1 hi2))
    rw [← D4_eq] at e
    have h4 : x * 6000000000000 ≤ 10000 * 6000000000000 := Nat.mul_le_mul_right _ hx
    simp only [mn]; omega
end Dt

namespace HwP
open PySem PySem.Spec PyProof.Rows L2 Hw
open C8 (pss_cut tCut)
open HwG RZ HwZ HwA
def topS (i : Nat) : Stmt := PySem.Challenge.pw_hullwright_k06_determinants.main.body.getD i (.Pass ⟨0, 0, 0, 0⟩)
/-- the built-in names that the text leaves as they are, and gcd -/
structure Glb (mg : Str → Option Value) : Prop where
  m_len : mg "len" = none
  m_range : mg "range" = none
  m_int : mg "int" = none
  m_list : mg "list" = none
  m_tuple : mg "tuple" = none
  m_bool : mg "bool" = none
  m_isinstance : mg "isinstance" = none
  m_abs : mg "abs" = none
  m_sum : mg "sum" = none
  m_zip : mg "zip" = none
  m_str : mg "str" = none
  m_any : mg "any" = none
  m_all : mg "all" = none
/-- what a body that calls a def wants of it -/
structure Call (P : Program) (w : World) (K : PySem.W.Frag) (mg : Str → Option Value) (base : Heap) (k : Nat) (nm : Str) (ps : List Str) (sp : Sp) where
  g : Addr
  gd : FuncData
  G : FnOk P w K mg base CX0 k g gd ps sp
  m : mg nm = some (.ref g)
  kp : PySem.W.keepIn K (.ref g) = true
  b : Binds K gd ps []
section
variable {P : Program} {w : World} {K : PySem.W.Frag} {mg : Str → Option Value} {base : Heap}

/-! ### the law's draws: what they leave is told by bounds alone -/
abbrev s__law_spread : Stmt := topS 5
theorem sc__law_spread : FnScope ["cell", "mixed", "total", "k"] ["cell"] (defScope s__law_spread) := ⟨rfl, rfl, rfl, by decide +kernel, rfl, by decide +kernel, by decide +kernel⟩
def spSpread : Sp := fun vs H Q _ => ∃ c : Int, vs = [.int c] ∧ ∀ t : Int, Q (.int t) H
theorem ok_spread {f : Addr} {fd : FuncData} {k : Nat} (F : Fun K "_law_spread" "_law_spread" s__law_spread f fd) (Z : Glb mg) : FnOk P w K mg base CX0 (k + 1) f fd ["cell"] spSpread := by
  refine F.ok sc__law_spread (fun vs H Q E h => ?_) (fun cdv A outer s H vs Q E hr h => ?_)
  · obtain ⟨c, rfl, _⟩ := h
    rfl
  · obtain ⟨c, rfl, q⟩ := h
    refine ⟨_, (pss_cons (ps_set (i := 1) sc__law_spread.nd rfl (.inl rfl) (pe_op op_modN (pe_callTy call_int1 (by rfl) Z.m_int (by decide +kernel) (pa_cons (pv 0) pa_nil)) pe_int))
      (pss_cons (ps_set (i := 2) sc__law_spread.nd rfl (.inl rfl) pe_int)
      (pss_cons (ps_for PassesOwn.never rfl (pi_range1 rfl Z.m_range (pa_cons pe_int pa_nil)) (pg_name (i := 3) sc__law_spread.nd rfl (.inl rfl)) (pss_cons (ps_set (i := 1) sc__law_spread.nd rfl (.inl rfl) (pe_op op_modN (pe_callTy call_int1 (by rfl) Z.m_int (by decide +kernel) (pa_cons (pe_op op_add (pe_op op_add (pe_op op_mul (pv 1) pe_int) pe_int) (pv 3)) pa_nil)) pe_int))
      (pss_one (ps_set (i := 2) sc__law_spread.nd rfl (.inl rfl) (pe_op op_add (pe_op op_mul (pv 2) pe_int) (pv 1))))))
      (pss_one (ps_ret (pv 2)))))), ?_⟩
    refine ⟨_, rfl, .inl ⟨_, rfl, _, _, rfl, rfl, (by show (2147483647 : Int) ≠ 0; decide), 4, rfl, by decide, by decide, ?_⟩⟩
    refine for_range (lo := 0) (n := 4) (fun i σ H' => H' = H ∧ ∃ (m t : Int) (y3 : Option V), σ = [some (.int c), some (.int m), some (.int t), y3]) ⟨rfl, _, _, _, rfl⟩ (fun i σ H' hi hP => ?_) (fun σ H' hP => ?_)
    · obtain ⟨rfl, m, t, y3, rfl⟩ := hP
      refine ⟨_, rfl, _, _, rfl, rfl, .inr ⟨by decide, by decide⟩, _, _, rfl, rfl, _, rfl, _, _, rfl, rfl, .inl ⟨_, rfl, _, _, rfl, rfl, (by show (2147483647 : Int) ≠ 0; decide), ?_⟩⟩
      exact ⟨_, rfl, _, _, rfl, rfl, .inr ⟨by decide, by decide⟩, _, rfl, _, _, rfl, rfl, rfl, _, _, _, rfl⟩
    · obtain ⟨rfl, m, t, y3, rfl⟩ := hP
      exact ⟨_, rfl, q t⟩
/-- a pool: its script's ints, then four ints -/
def Pl (H : Hp) (p : Addr) : Prop := ∃ (q : Addr) (ns : List Int) (a : Nat) (b c d : Int), H p = some (.lst [.ref q, .int a, .int b, .int c, .int d]) ∧ H q = some (.lst (ns.map V.int)) ∧ q ≠ p
/-- the head of the list at p -/
def Hd (H : Hp) (p q : Addr) : Prop := ∃ l, H p = some (.lst (.ref q :: l))
/-- all but p is as it was, and p has its head -/
def But (p : Addr) (H H' : Hp) : Prop := (∀ x, x ≠ p → H' x = H x) ∧ ∀ q, Hd H p q → Hd H' p q
theorem But.refl (p : Addr) (H : Hp) : But p H H := ⟨fun _ _ => rfl, fun _ h => h⟩
theorem But.trans {p : Addr} {H H1 H2 : Hp} (a : But p H H1) (b : But p H1 H2) : But p H H2 := ⟨fun x h => (b.1 x h).trans (a.1 x h), fun q h => b.2 q (a.2 q h)⟩
theorem But.upd {p q : Addr} {H : Hp} {l l' : List V} (hp : H p = some (.lst (.ref q :: l))) : But p H (upd H p (.lst (.ref q :: l'))) :=
  ⟨fun _ h => upd_ne h, fun q' h => by
    obtain ⟨l2, e⟩ := h
    have := hp.symm.trans e
    injection this with this
    injection this with this
    injection this with this
    injection this with this
    subst this
    exact ⟨l', upd_same⟩⟩
theorem pl_upd {H : Hp} {p q : Addr} {ns : List Int} (a : Nat) (b c d : Int) (hq : H q = some (.lst (ns.map V.int))) (ne : q ≠ p) : Pl (upd H p (.lst [.ref q, .int a, .int b, .int c, .int d])) p :=
  ⟨q, ns, a, b, c, d, upd_same, by rw [upd_ne ne]; exact hq, ne⟩
abbrev s__law_draw : Stmt := topS 6
theorem sc__law_draw : FnScope ["pool", "many", "cell", "mixed", "value"] ["pool", "many"] (defScope s__law_draw) := ⟨rfl, rfl, rfl, by decide +kernel, rfl, by decide +kernel, by decide +kernel⟩
def spDraw : Sp := fun vs H Q _ => ∃ (p : Addr) (m : Int), vs = [.ref p, .int m] ∧ 0 < m ∧ m.natAbs < 2 ^ 8000 ∧ Pl H p ∧ ∀ (v : Int) (H' : Hp), 0 ≤ v → v < m → Pl H' p → But p H H' → Q (.int v) H'
theorem ok_draw {f : Addr} {fd : FuncData} {k : Nat} (F : Fun K "_law_draw" "_law_draw" s__law_draw f fd) (Z : Glb mg)
    (C_law_spread : Call P w K mg base k "_law_spread" ["cell"] spSpread) : FnOk P w K mg base CX0 (k + 1) f fd ["pool", "many"] spDraw := by
  refine F.ok sc__law_draw (fun vs H Q E h => ?_) (fun cdv A outer s H vs Q E hr h => ?_)
  · obtain ⟨p, m, rfl, _⟩ := h
    rfl
  · obtain ⟨p, m, rfl, hm, hb, hP, q⟩ := h
    refine ⟨_, (pss_cut (ps_if (PW.pt (pw_and (pt_cmpR op_le (pe_ix (r := rIxL K) ix_list (pv 0) pe_int (fun _ _ => rfl)) pe_int (nomark _)) (pw_and1 (pt_cmpR op_lt (pe_ix (r := rIxL K) ix_list (pv 0) pe_int (fun _ _ => rfl)) (pe_callB call_len_seq (by rfl) Z.m_len PySem.boot_len (pa_cons (pe_ix (r := rIxL K) ix_list (pv 0) pe_int (fun _ _ => rfl)) pa_nil)) (nomark _))))) (pss_cons (ps_set (i := 2) sc__law_draw.nd rfl (.inl rfl) (pe_ix (r := rIxL K) ix_list (pe_ix (r := rIxL K) ix_list (pv 0) pe_int (fun _ _ => rfl)) (pe_ix (r := rIxL K) ix_list (pv 0) pe_int (fun _ _ => rfl)) (fun _ _ => rfl)))
      (pss_cons (ps_asg (pe_op op_add (pe_ix (r := rIxL K) ix_list (pv 0) pe_int (fun _ _ => rfl)) pe_int) (pg_sub (pv 0) pe_int set_list))
      (pss_cons (ps_asg (pv 2) (pg_sub (pv 0) pe_int set_list))
      (pss_one (ps_if (pt_cmpR op_lt (pv 2) pe_int (nomark _)) (pss_one (ps_asg (pe_call C_law_spread.G hr (by rfl) C_law_spread.m C_law_spread.kp C_law_spread.b .nil pass0 (pa_cons (pv 2) pa_nil)) (pg_sub (pv 0) pe_int set_list))) pss_nil))))) pss_nil)
      (pss_cons (ps_asg (pe_op op_add (pe_ix (r := rIxL K) ix_list (pv 0) pe_int (fun _ _ => rfl)) pe_int) (pg_sub (pv 0) pe_int set_list))
      (pss_cons (ps_if (pt_cmpR op_le (pe_ix (r := rIxL K) ix_list (pv 0) pe_int (fun _ _ => rfl)) pe_int (nomark _)) (pss_cons (ps_set (i := 3) sc__law_draw.nd rfl (.inl rfl) (pe_op op_modN (pe_callTy call_int1 (by rfl) Z.m_int (by decide +kernel) (pa_cons (pe_op op_add (pe_op op_add (pe_op op_mul (pe_ix (r := rIxL K) ix_list (pv 0) pe_int (fun _ _ => rfl)) pe_int) (pe_op op_mul (pe_ix (r := rIxL K) ix_list (pv 0) pe_int (fun _ _ => rfl)) pe_int)) pe_int) pa_nil)) pe_int))
      (pss_cons (ps_set (i := 3) sc__law_draw.nd rfl (.inl rfl) (pe_op op_modN (pe_callTy call_int1 (by rfl) Z.m_int (by decide +kernel) (pa_cons (pe_op op_add (pe_op op_mul (pv 3) pe_int) (pe_ix (r := rIxL K) ix_list (pv 0) pe_int (fun _ _ => rfl))) pa_nil)) pe_int))
      (pss_one (ps_ret (pe_op op_modN (pe_op op_fdivN (pv 3) pe_int) (pv 1)))))) pss_nil)
      (pss_cons (ps_set (i := 4) sc__law_draw.nd rfl (.inl rfl) (pe_op op_modN (pe_callTy call_int1 (by rfl) Z.m_int (by decide +kernel) (pa_cons (pe_ix (r := rIxL K) ix_list (pv 0) pe_int (fun _ _ => rfl)) pa_nil)) (pv 1)))
      (pss_cons (ps_asg (pe_op op_fdivW (pe_ix (r := rIxL K) ix_list (pv 0) pe_int (fun _ _ => rfl)) (pv 1)) (pg_sub (pv 0) pe_int set_list))
      (pss_one (ps_ret (pv 4)))))))), ?_⟩
    refine ⟨fun σ H' => ∃ y2 : Option V, σ = [some (.ref p), some (.int m), y2, none, none] ∧ Pl H' p ∧ But p H H', ?_, ?_⟩
    · obtain ⟨q', ns, a, b, c, d, hp, hq, ne⟩ := hP
      refine ⟨_, rfl, _, _, _, _, rfl, rfl, SqL.of hp, atI_nat (j := 2) rfl, _, _, rfl, rfl, _, rfl, ite2 (fun e1 => ?_) (fun e1 => ?_)⟩
      · refine ⟨_, rfl, _, _, _, _, rfl, rfl, SqL.of hp, atI_nat (j := 1) rfl, _, rfl, _, _, _, _, rfl, rfl, SqL.of hp, atI_nat (j := 0) rfl, _, _, rfl, .inl (SqL.of hq), _, _, rfl, rfl, _, rfl, ite2 (fun e2 => ?_) (fun e2 => ?_)⟩
        · have e3 : a < ns.length := by
            have := of_decide_eq_true e2
            rw [List.length_map] at this
            omega
          have g1 : (ns.map V.int)[a]? = some (.int ns[a]) := by
            rw [List.getElem?_map, List.getElem?_eq_getElem e3]
            rfl
          -- cell = pool[0][pool[1]]
          refine ⟨_, rfl, _, _, _, _, rfl, rfl, SqL.of hp, atI_nat (j := 0) rfl, _, rfl, _, _, _, _, rfl, rfl, SqL.of hp, atI_nat (j := 1) rfl, _, _, _, _, rfl, rfl, SqL.of hq, atI_nat g1, ?_⟩
          -- pool[1] = pool[1] + 1
          refine ⟨_, rfl, _, _, _, _, rfl, rfl, SqL.of hp, atI_nat (j := 1) rfl, _, _, rfl, rfl, _, rfl, _, _, _, 1, rfl, rfl, hp, rfl, ?_⟩
          -- pool[2] = cell
          refine ⟨_, rfl, _, rfl, _, _, _, 2, rfl, rfl, upd_same, rfl, ?_⟩
          rw [upd_upd]
          refine ⟨_, rfl, _, _, rfl, rfl, _, rfl, ite2 (fun e4 => ?_) (fun e4 => ?_)⟩
          · refine ⟨_, rfl, _, rfl, fun t => ⟨_, rfl, _, _, _, 2, rfl, rfl, upd_same, rfl, ?_⟩⟩
            rw [upd_upd]
            exact ⟨some (.int ns[a]), rfl, pl_upd (a + 1) t c d hq ne, (But.upd hp)⟩
          · exact ⟨some (.int ns[a]), rfl, pl_upd (a + 1) ns[a] c d hq ne, (But.upd hp)⟩
        · exact ⟨none, rfl, ⟨q', ns, a, b, c, d, hp, hq, ne⟩, But.refl _ _⟩
      · exact iteF ⟨none, rfl, ⟨q', ns, a, b, c, d, hp, hq, ne⟩, But.refl _ _⟩
    · intro σ H1 hW
      obtain ⟨y2, rfl, ⟨q', ns, a, b, c, d, hp, hq, ne⟩, hB⟩ := hW
      -- pool[3] = pool[3] + 1
      refine ⟨_, rfl, _, _, _, _, rfl, rfl, SqL.of hp, atI_nat (j := 3) rfl, _, _, rfl, rfl, _, rfl, _, _, _, 3, rfl, rfl, hp, rfl, ?_⟩
      have h0 : (upd H1 p (.lst [.ref q', .int a, .int b, .int (c + 1), .int d])) p = some (.lst [.ref q', .int a, .int b, .int (c + 1), .int d]) := upd_same
      refine ⟨_, rfl, _, _, _, _, rfl, rfl, SqL.of h0, atI_nat (j := 2) rfl, _, _, rfl, rfl, _, rfl, ite2 (fun e1 => ?_) (fun e1 => ?_)⟩
      · refine ⟨_, rfl, _, _, _, _, rfl, rfl, SqL.of h0, atI_nat (j := 4) rfl, _, _, rfl, rfl, .inr ⟨by decide, by decide⟩, _, rfl, _, _, _, _, rfl, rfl, SqL.of h0, atI_nat (j := 3) rfl, _, _, rfl, rfl, .inr ⟨by decide, by decide⟩, _, _, rfl, rfl, _, _, rfl, rfl, .inl ⟨_, rfl, _, _, rfl, rfl, (by show (2147483647 : Int) ≠ 0; decide), ?_⟩⟩
        refine ⟨_, rfl, _, _, rfl, rfl, .inr ⟨by decide, by decide⟩, _, rfl, _, _, _, _, rfl, rfl, SqL.of h0, atI_nat (j := 3) rfl, _, _, rfl, rfl, .inl ⟨_, rfl, _, _, rfl, rfl, (by show (2147483629 : Int) ≠ 0; decide), ?_⟩⟩
        refine ⟨_, rfl, _, _, rfl, rfl, ⟨by decide, by decide⟩, _, rfl, _, _, rfl, rfl, (by show m ≠ 0; omega), ?_⟩
        exact q _ _ (Int.fmod_nonneg_of_pos _ hm) (Int.fmod_lt_of_pos _ hm) (pl_upd a b (c + 1) d hq ne) (hB.trans (But.upd hp))
      · refine ⟨_, rfl, _, _, _, _, rfl, rfl, SqL.of h0, atI_nat (j := 2) rfl, .inl ⟨_, rfl, _, rfl, _, _, rfl, rfl, (by show m ≠ 0; omega), ?_⟩⟩
        refine ⟨_, rfl, _, _, _, _, rfl, rfl, SqL.of h0, atI_nat (j := 2) rfl, _, rfl, _, _, rfl, rfl, wide_div hm hb (by decide) (by decide), _, rfl, _, _, _, 2, rfl, rfl, h0, rfl, ?_⟩
        rw [upd_upd]
        refine ⟨_, rfl, ?_⟩
        exact q _ _ (Int.fmod_nonneg_of_pos _ hm) (Int.fmod_lt_of_pos _ hm) (pl_upd a _ (c + 1) d hq ne) (hB.trans (But.upd hp))

/-! ### the law's pool -/
abbrev s__law_pool : Stmt := topS 4
theorem sc__law_pool : FnScope ["script", "salt", "cell"] ["script"] (defScope s__law_pool) := ⟨rfl, rfl, rfl, by decide +kernel, rfl, by decide +kernel, by decide +kernel⟩
theorem same_upd {H : Hp} {p : Addr} {o : HO} (h : H p = none) : Same H (upd H p o) := fun b x e => by
  rw [upd_ne (ne_of_none e h)]
  exact e
theorem cut_int {ns : List Int} {lo hi : Option Int} {i : Nat} {x : V} (h : (cutV (ns.map V.int) lo hi)[i]? = some x) : ∃ n : Int, x = .int n := by
  have m := List.mem_of_getElem? h
  unfold cutV at m
  have m2 := List.mem_of_mem_drop (List.mem_of_mem_take m)
  obtain ⟨n, _, e⟩ := List.mem_map.mp m2
  exact ⟨n, e.symm⟩
def spPool (K : PySem.W.Frag) : Sp := fun vs H Q _ => ∃ (a : Addr) (ns : List Int), vs = [.ref a] ∧ SqL K H a (ns.map V.int) ∧ ∀ (H' : Hp) (p : Addr), Same H H' → H p = none → Pl H' p → Q (.ref p) H'
theorem ok_pool {f : Addr} {fd : FuncData} {k : Nat} (F : Fun K "_law_pool" "_law_pool" s__law_pool f fd) (Z : Glb mg) : FnOk P w K mg base CX0 (k + 1) f fd ["script"] (spPool K) := by
  refine F.ok sc__law_pool (fun vs H Q E h => ?_) (fun cdv A outer s H vs Q E hr h => ?_)
  · obtain ⟨a, ns, rfl, _⟩ := h
    rfl
  · obtain ⟨a, ns, rfl, hS, q⟩ := h
    refine ⟨_, (pss_cons (ps_set (i := 1) sc__law_pool.nd rfl (.inl rfl) pe_int)
      (pss_cons (ps_for PassesOwn.never rfl (pi_list (pe_slice (r := rSlL K) sl_list (pv 0) po_none (po_some pe_int))) (pg_name (i := 2) sc__law_pool.nd rfl (.inl rfl)) (pss_one (ps_set (i := 1) sc__law_pool.nd rfl (.inl rfl) (pe_op op_modN (pe_callTy call_int1 (by rfl) Z.m_int (by decide +kernel) (pa_cons (pe_op op_add (pe_op op_mul (pv 1) pe_int) (pv 2)) pa_nil)) pe_int))))
      (pss_one (ps_ret (pe_lst (pa_cons (pe_callTy call_list_of (by rfl) Z.m_list (by decide +kernel) (pa_cons (pv 0) pa_nil)) (pa_cons pe_int (pa_cons pe_int (pa_cons pe_int (pa_cons (pv 1) pa_nil)))))))))), ?_⟩
    refine ⟨_, rfl, _, rfl, a, ns.map V.int, rfl, hS, fun c nc => ?_⟩
    have s1 : Same H (upd H c (.lst (cutV (ns.map V.int) none (some 63)))) := same_upd nc
    refine ⟨c, rfl, ⟨_, SqL.of upd_same⟩, ?_⟩
    refine for_list (xs := cutV (ns.map V.int) none (some 63)) (fun i σ H' => H' = upd H c (.lst (cutV (ns.map V.int) none (some 63))) ∧ ∃ (m : Int) (y2 : Option V), σ = [some (.ref a), some (.int m), y2]) ⟨rfl, _, _, rfl⟩ (fun i σ H' _ hP => by obtain ⟨rfl, _⟩ := hP; exact SqL.of upd_same) (fun i x σ H' hx hP => ?_) (fun σ H' hP => ?_)
    · obtain ⟨rfl, m, y2, rfl⟩ := hP
      obtain ⟨n, rfl⟩ := cut_int hx
      exact ⟨_, rfl, _, _, rfl, rfl, .inr ⟨by decide, by decide⟩, _, rfl, _, _, rfl, rfl, .inl ⟨_, rfl, _, _, rfl, rfl, (by show (1000003 : Int) ≠ 0; decide), rfl, _, _, rfl⟩⟩
    · obtain ⟨rfl, m, y2, rfl⟩ := hP
      refine ⟨_, rfl, a, ns.map V.int, rfl, .inl (s1.seq hS), fun l nl => ⟨_, rfl, ?_, fun p np => ?_⟩⟩
      · exact Nat.le_of_lt (small1000 (show 5 ≤ 1000 by decide))
      · have s2 : Same (upd H c (.lst (cutV (ns.map V.int) none (some 63)))) (upd (upd H c (.lst (cutV (ns.map V.int) none (some 63)))) l (.lst (ns.map V.int))) := same_upd nl
        have lp : l ≠ p := ne_of_none upd_same np
        refine q _ _ ((s1.trans s2).trans (same_upd np)) ((s1.trans s2).free np) ⟨l, ns, 0, 0, 0, m, upd_same, ?_, lp⟩
        rw [upd_ne lp]
        exact upd_same

/-! ### the law's comparison of two answers: alike data is told to be the same -/
inductive Alike (H : Hp) : Nat → V → V → Prop where
  | int (n : Nat) (i : Int) : Alike H n (.int i) (.int i)
  | bl (n : Nat) (b : Bool) : Alike H n (.bl b) (.bl b)
  | non (n : Nat) : Alike H n .non .non
  | tup {n : Nat} {a b : Addr} {xs ys : List V} (ha : H a = some (.tup xs)) (hb : H b = some (.tup ys)) (hl : xs.length = ys.length) (hm : xs.length ≤ 1000000) (h : ∀ (i : Nat) (x y : V), xs[i]? = some x → ys[i]? = some y → Alike H n x y) : Alike H (n + 1) (.ref a) (.ref b)
  | lst {n : Nat} {a b : Addr} {xs ys : List V} (ha : H a = some (.lst xs)) (hb : H b = some (.lst ys)) (hl : xs.length = ys.length) (hm : xs.length ≤ 1000000) (h : ∀ (i : Nat) (x y : V), xs[i]? = some x → ys[i]? = some y → Alike H n x y) : Alike H (n + 1) (.ref a) (.ref b)
abbrev s__law_same : Stmt := topS 7
theorem sc__law_same : FnScope ["actual", "due", "k"] ["actual", "due"] (defScope s__law_same) := ⟨rfl, rfl, rfl, by decide +kernel, rfl, by decide +kernel, by decide +kernel⟩
def spSame (n : Nat) : Sp := fun vs H Q _ => ∃ x y : V, vs = [x, y] ∧ Alike H n x y ∧ Q (.bl true) H
structure SameG (mg : Str → Option Value) : Prop where
  mIs : mg "isinstance" = none
  mT : mg "tuple" = none
  mLi : mg "list" = none
  mL : mg "len" = none
  mR : mg "range" = none
  mB : mg "bool" = none
  mI : mg "int" = none
theorem ok_same {f : Addr} {fd : FuncData} {k n : Nat} (F : Fun K "_law_same" "_law_same" s__law_same f fd) (Z : Glb mg)
    (G : ∀ m, n = m + 1 → FnOk P w K mg base CX0 k f fd ["actual", "due"] (spSame m)) (gS : mg "_law_same" = some (.ref f)) (bS : Binds K fd ["actual", "due"] []) : FnOk P w K mg base CX0 (k + 1) f fd ["actual", "due"] (spSame n) := by
  refine F.ok sc__law_same (fun vs H Q E h => ?_) (fun cdv A outer s H vs Q E hr h => ?_)
  · obtain ⟨x, y, rfl, _⟩ := h
    rfl
  · obtain ⟨x, y, rfl, hA, q⟩ := h
    have nd := sc__law_same.nd
    cases hA with
    | int n i =>
      refine ⟨_, pss_cons (ps_if (PW.pt (pw_or (pt_val (pe_callB call_isi (by rfl) Z.m_isinstance (by decide +kernel) (pa_cons (pv 1) (pa_cons (pe_bltn (u := .type "tuple") (v := .ty "tuple") (by rfl) Z.m_tuple (by decide +kernel) rfl) pa_nil)))) (pw_or1 (pt_val (pe_callB call_isi (by rfl) Z.m_isinstance (by decide +kernel) (pa_cons (pv 1) (pa_cons (pe_bltn (u := .type "list") (v := .ty "list") (by rfl) Z.m_list (by decide +kernel) rfl) pa_nil))))))) (pss_cons ps_never (pss_cons ps_never (pss_cons ps_never (pss_one ps_never)))) pss_nil)
        (pss_cons (ps_if (pt_cmp (pc_isN (pv 1))) (pss_one ps_never) pss_nil)
        (pss_cons (ps_if (pt_val (pe_callB call_isi (by rfl) Z.m_isinstance (by decide +kernel) (pa_cons (pv 1) (pa_cons (pe_bltn (u := .type "bool") (v := .ty "bool") (by rfl) Z.m_bool (by decide +kernel) rfl) pa_nil)))) (pss_one ps_never) pss_nil)
        (pss_cons (ps_if (pt_val (pe_callB call_isi (by rfl) Z.m_isinstance (by decide +kernel) (pa_cons (pv 1) (pa_cons (pe_bltn (u := .type "int") (v := .ty "int") (by rfl) Z.m_int (by decide +kernel) rfl) pa_nil))))
          (pss_one (ps_ret (pe_and (pe_callB call_isi (by rfl) Z.m_isinstance (by decide +kernel) (pa_cons (pv 0) (pa_cons (pe_bltn (u := .type "int") (v := .ty "int") (by rfl) Z.m_int (by decide +kernel) rfl) pa_nil)))
            (pe_and (pe_not (pe_callB call_isi (by rfl) Z.m_isinstance (by decide +kernel) (pa_cons (pv 0) (pa_cons (pe_bltn (u := .type "bool") (v := .ty "bool") (by rfl) Z.m_bool (by decide +kernel) rfl) pa_nil))))
            (pe_one (pe_cmpR op_eq (pv 0) (pv 1) (nomark _))))))) pss_nil)
        (pss_one ps_never)))), ?_⟩
      have ty : TyX K H (.int i) (.type "int") := .base (.int i)
      refine ⟨_, rfl, _, _, _, _, _, rfl, ClsV.ty _, ty, kit_ty (by decide +kernel), false, rfl, iteF ⟨_, rfl, _, _, _, _, _, rfl, ClsV.ty _, ty, kit_ty (by decide +kernel), false, rfl, iteF ?_⟩⟩
      refine ⟨_, rfl, false, rfl, iteF ?_⟩
      refine ⟨_, rfl, _, _, _, _, _, rfl, ClsV.ty _, ty, kit_ty (by decide +kernel), false, rfl, iteF ?_⟩
      refine ⟨_, rfl, _, _, _, _, _, rfl, ClsV.ty _, ty, kit_ty (by decide +kernel), true, rfl, iteT ?_⟩
      refine ⟨_, rfl, _, _, _, _, _, rfl, ClsV.ty _, ty, kit_ty (by decide +kernel), true, rfl, iteT ?_⟩
      refine ⟨_, rfl, _, _, _, _, _, rfl, ClsV.ty _, ty, kit_ty (b := "bool") (r := false) (by decide +kernel), false, rfl, true, rfl, iteT ?_⟩
      refine ⟨_, rfl, _, rfl, rfl, ?_⟩
      rw [decide_eq_true rfl]
      exact q
    | bl n b =>
      refine ⟨_, pss_cons (ps_if (PW.pt (pw_or (pt_val (pe_callB call_isi (by rfl) Z.m_isinstance (by decide +kernel) (pa_cons (pv 1) (pa_cons (pe_bltn (u := .type "tuple") (v := .ty "tuple") (by rfl) Z.m_tuple (by decide +kernel) rfl) pa_nil)))) (pw_or1 (pt_val (pe_callB call_isi (by rfl) Z.m_isinstance (by decide +kernel) (pa_cons (pv 1) (pa_cons (pe_bltn (u := .type "list") (v := .ty "list") (by rfl) Z.m_list (by decide +kernel) rfl) pa_nil))))))) (pss_cons ps_never (pss_cons ps_never (pss_cons ps_never (pss_one ps_never)))) pss_nil)
        (pss_cons (ps_if (pt_cmp (pc_isN (pv 1))) (pss_one ps_never) pss_nil)
        (pss_cons (ps_if (pt_val (pe_callB call_isi (by rfl) Z.m_isinstance (by decide +kernel) (pa_cons (pv 1) (pa_cons (pe_bltn (u := .type "bool") (v := .ty "bool") (by rfl) Z.m_bool (by decide +kernel) rfl) pa_nil)))) (pss_one (ps_ret (pe_and (pe_callB call_isi (by rfl) Z.m_isinstance (by decide +kernel) (pa_cons (pv 0) (pa_cons (pe_bltn (u := .type "bool") (v := .ty "bool") (by rfl) Z.m_bool (by decide +kernel) rfl) pa_nil))) (pe_one (pe_cmpR op_eq (pv 0) (pv 1) (nomark _)))))) pss_nil)
        (pss_cons ps_never (pss_one ps_never)))), ?_⟩
      have ty : TyX K H (.bl b) (.type "bool") := .base (.bl b)
      refine ⟨_, rfl, _, _, _, _, _, rfl, ClsV.ty _, ty, kit_ty (by decide +kernel), false, rfl, iteF ⟨_, rfl, _, _, _, _, _, rfl, ClsV.ty _, ty, kit_ty (by decide +kernel), false, rfl, iteF ?_⟩⟩
      refine ⟨_, rfl, false, rfl, iteF ?_⟩
      refine ⟨_, rfl, _, _, _, _, _, rfl, ClsV.ty _, ty, kit_ty (by decide +kernel), true, rfl, iteT ?_⟩
      refine ⟨_, rfl, _, _, _, _, _, rfl, ClsV.ty _, ty, kit_ty (by decide +kernel), true, rfl, iteT ?_⟩
      refine ⟨_, rfl, _, rfl, rfl, ?_⟩
      rw [decide_eq_true rfl]
      exact q
    | non n =>
      refine ⟨_, pss_cons (ps_if (PW.pt (pw_or (pt_val (pe_callB call_isi (by rfl) Z.m_isinstance (by decide +kernel) (pa_cons (pv 1) (pa_cons (pe_bltn (u := .type "tuple") (v := .ty "tuple") (by rfl) Z.m_tuple (by decide +kernel) rfl) pa_nil)))) (pw_or1 (pt_val (pe_callB call_isi (by rfl) Z.m_isinstance (by decide +kernel) (pa_cons (pv 1) (pa_cons (pe_bltn (u := .type "list") (v := .ty "list") (by rfl) Z.m_list (by decide +kernel) rfl) pa_nil))))))) (pss_cons ps_never (pss_cons ps_never (pss_cons ps_never (pss_one ps_never)))) pss_nil)
        (pss_cons (ps_if (pt_cmp (pc_isN (pv 1))) (pss_one (ps_ret (pe_cmp (pc_isN (pv 0))))) pss_nil)
        (pss_cons ps_never (pss_cons ps_never (pss_one ps_never)))), ?_⟩
      have ty : TyX K H .non (.type "NoneType") := .base .non
      refine ⟨_, rfl, _, _, _, _, _, rfl, ClsV.ty _, ty, kit_ty (by decide +kernel), false, rfl, iteF ⟨_, rfl, _, _, _, _, _, rfl, ClsV.ty _, ty, kit_ty (by decide +kernel), false, rfl, iteF ?_⟩⟩
      refine ⟨_, rfl, true, rfl, iteT ?_⟩
      exact ⟨_, rfl, q⟩
    | @tup n a b xs ys ha hb hl hm hh =>
      refine ⟨_, pss_cons (ps_if (PW.pt (pw_or (pt_val (pe_callB call_isi (by rfl) Z.m_isinstance (by decide +kernel) (pa_cons (pv 1) (pa_cons (pe_bltn (u := .type "tuple") (v := .ty "tuple") (by rfl) Z.m_tuple (by decide +kernel) rfl) pa_nil)))) (pw_or1 (pt_val (pe_callB call_isi (by rfl) Z.m_isinstance (by decide +kernel) (pa_cons (pv 1) (pa_cons (pe_bltn (u := .type "list") (v := .ty "list") (by rfl) Z.m_list (by decide +kernel) rfl) pa_nil)))))))
        (pss_cons (ps_if (PW.pt (pw_or (pt_cmpR op_ne (pe_callB call_isi (by rfl) Z.m_isinstance (by decide +kernel) (pa_cons (pv 1) (pa_cons (pe_bltn (u := .type "tuple") (v := .ty "tuple") (by rfl) Z.m_tuple (by decide +kernel) rfl) pa_nil))) (pe_callB call_isi (by rfl) Z.m_isinstance (by decide +kernel) (pa_cons (pv 0) (pa_cons (pe_bltn (u := .type "tuple") (v := .ty "tuple") (by rfl) Z.m_tuple (by decide +kernel) rfl) pa_nil))) (nomark _)) (pw_or1 (pt_cmpR op_ne (pe_callB call_isi (by rfl) Z.m_isinstance (by decide +kernel) (pa_cons (pv 1) (pa_cons (pe_bltn (u := .type "list") (v := .ty "list") (by rfl) Z.m_list (by decide +kernel) rfl) pa_nil))) (pe_callB call_isi (by rfl) Z.m_isinstance (by decide +kernel) (pa_cons (pv 0) (pa_cons (pe_bltn (u := .type "list") (v := .ty "list") (by rfl) Z.m_list (by decide +kernel) rfl) pa_nil))) (nomark _))))) (pss_one ps_never) pss_nil)
          (pss_cons (ps_if (pt_cmpR op_ne (pe_callB call_len_seq (by rfl) Z.m_len PySem.boot_len (pa_cons (pv 0) pa_nil)) (pe_callB call_len_seq (by rfl) Z.m_len PySem.boot_len (pa_cons (pv 1) pa_nil)) (nomark _)) (pss_one ps_never) pss_nil)
          (pss_cons (ps_for PassesOwn.never rfl (pi_range1 rfl Z.m_range (pa_cons (pe_callB call_len_seq (by rfl) Z.m_len PySem.boot_len (pa_cons (pv 1) pa_nil)) pa_nil)) (pg_name (i := 2) nd rfl (.inl rfl))
            (pss_one (ps_if (pt_not (pt_val (pe_call (G _ rfl) hr (by rfl) gS F.kp bS .nil pass0 (pa_cons (pe_ix ix_tup (pv 0) (pv 2) (fun _ _ => rfl)) (pa_cons (pe_ix ix_tup (pv 1) (pv 2) (fun _ _ => rfl)) pa_nil))))) (pss_one ps_never) pss_nil)))
          (pss_one (ps_ret pe_bl))))) pss_nil)
        (pss_cons ps_never (pss_cons ps_never (pss_cons ps_never (pss_one ps_never)))), ?_⟩
      have ty0 : TyX K H (.ref a) (.type "tuple") := .base (.tup ha)
      have ty1 : TyX K H (.ref b) (.type "tuple") := .base (.tup hb)
      refine ⟨_, rfl, _, _, _, _, _, rfl, ClsV.ty _, ty1, kit_ty (b := "tuple") (r := true) (by decide +kernel), true, rfl, iteT ?_⟩
      refine ⟨_, rfl, _, _, _, _, _, rfl, ClsV.ty _, ty1, kit_ty (b := "tuple") (r := true) (by decide +kernel), _, rfl, _, _, _, _, _, rfl, ClsV.ty _, ty0, kit_ty (b := "tuple") (r := true) (by decide +kernel), rfl, false, rfl, iteF ⟨_, rfl, _, _, _, _, _, rfl, ClsV.ty _, ty1, kit_ty (b := "list") (r := false) (by decide +kernel), _, rfl, _, _, _, _, _, rfl, ClsV.ty _, ty0, kit_ty (b := "list") (r := false) (by decide +kernel), rfl, false, rfl, iteF ?_⟩⟩
      refine ⟨_, rfl, _, _, rfl, .inr (SqT.of ha), _, rfl, _, _, rfl, .inr (SqT.of hb), rfl, _, rfl, ?_⟩
      rw [hl, decide_eq_true rfl]
      refine iteF ⟨_, rfl, _, _, rfl, .inr (SqT.of hb), _, rfl, by omega, by omega, ?_⟩
      refine for_range (lo := 0) (n := ys.length) (fun i σ H' => H' = H ∧ ∃ y2 : Option V, σ = [some (.ref a), some (.ref b), y2]) ⟨rfl, _, rfl⟩ (fun i σ H' hi hP => ?_) (fun σ H' hP => ?_)
      · obtain ⟨rfl, y2, rfl⟩ := hP
        have g1 : xs[i]? = some xs[i] := List.getElem?_eq_getElem (by omega)
        have g2 : ys[i]? = some ys[i] := List.getElem?_eq_getElem hi
        have e0 : (0 : Int) + (i : Int) = ((i : Nat) : Int) := Int.zero_add _
        rw [e0]
        exact ⟨_, rfl, _, rfl, _, _, _, _, rfl, rfl, SqT.of ha, atI_nat g1, _, rfl, _, rfl, _, _, _, _, rfl, rfl, SqT.of hb, atI_nat g2, _, _, rfl, hh i _ _ g1 g2, true, rfl, iteF ⟨rfl, _, rfl⟩⟩
      · obtain ⟨rfl, y2, rfl⟩ := hP
        exact q
    | @lst n a b xs ys ha hb hl hm hh =>
      refine ⟨_, pss_cons (ps_if (PW.pt (pw_or (pt_val (pe_callB call_isi (by rfl) Z.m_isinstance (by decide +kernel) (pa_cons (pv 1) (pa_cons (pe_bltn (u := .type "tuple") (v := .ty "tuple") (by rfl) Z.m_tuple (by decide +kernel) rfl) pa_nil)))) (pw_or1 (pt_val (pe_callB call_isi (by rfl) Z.m_isinstance (by decide +kernel) (pa_cons (pv 1) (pa_cons (pe_bltn (u := .type "list") (v := .ty "list") (by rfl) Z.m_list (by decide +kernel) rfl) pa_nil)))))))
        (pss_cons (ps_if (PW.pt (pw_or (pt_cmpR op_ne (pe_callB call_isi (by rfl) Z.m_isinstance (by decide +kernel) (pa_cons (pv 1) (pa_cons (pe_bltn (u := .type "tuple") (v := .ty "tuple") (by rfl) Z.m_tuple (by decide +kernel) rfl) pa_nil))) (pe_callB call_isi (by rfl) Z.m_isinstance (by decide +kernel) (pa_cons (pv 0) (pa_cons (pe_bltn (u := .type "tuple") (v := .ty "tuple") (by rfl) Z.m_tuple (by decide +kernel) rfl) pa_nil))) (nomark _)) (pw_or1 (pt_cmpR op_ne (pe_callB call_isi (by rfl) Z.m_isinstance (by decide +kernel) (pa_cons (pv 1) (pa_cons (pe_bltn (u := .type "list") (v := .ty "list") (by rfl) Z.m_list (by decide +kernel) rfl) pa_nil))) (pe_callB call_isi (by rfl) Z.m_isinstance (by decide +kernel) (pa_cons (pv 0) (pa_cons (pe_bltn (u := .type "list") (v := .ty "list") (by rfl) Z.m_list (by decide +kernel) rfl) pa_nil))) (nomark _))))) (pss_one ps_never) pss_nil)
          (pss_cons (ps_if (pt_cmpR op_ne (pe_callB call_len_seq (by rfl) Z.m_len PySem.boot_len (pa_cons (pv 0) pa_nil)) (pe_callB call_len_seq (by rfl) Z.m_len PySem.boot_len (pa_cons (pv 1) pa_nil)) (nomark _)) (pss_one ps_never) pss_nil)
          (pss_cons (ps_for PassesOwn.never rfl (pi_range1 rfl Z.m_range (pa_cons (pe_callB call_len_seq (by rfl) Z.m_len PySem.boot_len (pa_cons (pv 1) pa_nil)) pa_nil)) (pg_name (i := 2) nd rfl (.inl rfl))
            (pss_one (ps_if (pt_not (pt_val (pe_call (G _ rfl) hr (by rfl) gS F.kp bS .nil pass0 (pa_cons (pe_ix ix_list (pv 0) (pv 2) (fun _ _ => rfl)) (pa_cons (pe_ix ix_list (pv 1) (pv 2) (fun _ _ => rfl)) pa_nil))))) (pss_one ps_never) pss_nil)))
          (pss_one (ps_ret pe_bl))))) pss_nil)
        (pss_cons ps_never (pss_cons ps_never (pss_cons ps_never (pss_one ps_never)))), ?_⟩
      have ty0 : TyX K H (.ref a) (.type "list") := .base (.lst ha)
      have ty1 : TyX K H (.ref b) (.type "list") := .base (.lst hb)
      refine ⟨_, rfl, _, _, _, _, _, rfl, ClsV.ty _, ty1, kit_ty (b := "tuple") (r := false) (by decide +kernel), false, rfl, iteF ⟨_, rfl, _, _, _, _, _, rfl, ClsV.ty _, ty1, kit_ty (b := "list") (r := true) (by decide +kernel), true, rfl, iteT ?_⟩⟩
      refine ⟨_, rfl, _, _, _, _, _, rfl, ClsV.ty _, ty1, kit_ty (b := "tuple") (r := false) (by decide +kernel), _, rfl, _, _, _, _, _, rfl, ClsV.ty _, ty0, kit_ty (b := "tuple") (r := false) (by decide +kernel), rfl, false, rfl, iteF ⟨_, rfl, _, _, _, _, _, rfl, ClsV.ty _, ty1, kit_ty (b := "list") (r := true) (by decide +kernel), _, rfl, _, _, _, _, _, rfl, ClsV.ty _, ty0, kit_ty (b := "list") (r := true) (by decide +kernel), rfl, false, rfl, iteF ?_⟩⟩
      refine ⟨_, rfl, _, _, rfl, .inl (SqL.of ha), _, rfl, _, _, rfl, .inl (SqL.of hb), rfl, _, rfl, ?_⟩
      rw [hl, decide_eq_true rfl]
      refine iteF ⟨_, rfl, _, _, rfl, .inl (SqL.of hb), _, rfl, by omega, by omega, ?_⟩
      refine for_range (lo := 0) (n := ys.length) (fun i σ H' => H' = H ∧ ∃ y2 : Option V, σ = [some (.ref a), some (.ref b), y2]) ⟨rfl, _, rfl⟩ (fun i σ H' hi hP => ?_) (fun σ H' hP => ?_)
      · obtain ⟨rfl, y2, rfl⟩ := hP
        have g1 : xs[i]? = some xs[i] := List.getElem?_eq_getElem (by omega)
        have g2 : ys[i]? = some ys[i] := List.getElem?_eq_getElem hi
        have e0 : (0 : Int) + (i : Int) = ((i : Nat) : Int) := Int.zero_add _
        rw [e0]
        exact ⟨_, rfl, _, rfl, _, _, _, _, rfl, rfl, SqL.of ha, atI_nat g1, _, rfl, _, rfl, _, _, _, _, rfl, rfl, SqL.of hb, atI_nat g2, _, _, rfl, hh i _ _ g1 g2, true, rfl, iteF ⟨rfl, _, rfl⟩⟩
      · obtain ⟨rfl, y2, rfl⟩ := hP
        exact q

/-- all but p is as it was, and there may be more -/
def Keep (p : Addr) (H H' : Hp) : Prop := ∀ x o, x ≠ p → H x = some o → H' x = some o
theorem But.keep {p : Addr} {H H' : Hp} (h : But p H H') : Keep p H H' := fun x o n e => (h.1 x n).trans e
theorem Keep.trans {p : Addr} {H H1 H2 : Hp} (a : Keep p H H1) (b : Keep p H1 H2) : Keep p H H2 := fun x o n e => b x o n (a x o n e)
theorem Keep.refl (p : Addr) (H : Hp) : Keep p H H := fun _ _ _ e => e
theorem Same.keep {p : Addr} {H H' : Hp} (h : Same H H') : Keep p H H' := fun x o _ e => h x o e
theorem Pl.lst {H : Hp} {p : Addr} (h : Pl H p) : ∃ xs, H p = some (.lst xs) := by
  obtain ⟨q, ns, a, b, c, d, e, _⟩ := h
  exact ⟨_, e⟩
theorem Pl.ne {H : Hp} {p x : Addr} {ys : List V} (h : Pl H p) (hx : H x = some (.tup ys)) : x ≠ p := by
  obtain ⟨xs, e⟩ := h.lst
  exact ne_of hx e (fun z => nomatch z)
theorem Pl.same {H H' : Hp} {p : Addr} (h : Pl H p) (s : Same H H') : Pl H' p := by
  obtain ⟨q, ns, a, b, c, d, e, e2, n⟩ := h
  exact ⟨q, ns, a, b, c, d, s _ _ e, s _ _ e2, n⟩
/-- a pool whose list stands at q -/
def Plq (H : Hp) (p q : Addr) : Prop := ∃ (ns : List Int) (a : Nat) (b c d : Int), H p = some (.lst [.ref q, .int a, .int b, .int c, .int d]) ∧ H q = some (.lst (ns.map V.int)) ∧ q ≠ p
theorem Pl.q {H : Hp} {p : Addr} (h : Pl H p) : ∃ q, Plq H p q := h
theorem Plq.pl {H : Hp} {p q : Addr} (h : Plq H p q) : Pl H p := ⟨q, h⟩
theorem Plq.but {H H' : Hp} {p q : Addr} (h : Plq H p q) (hB : But p H H') (h' : Pl H' p) : Plq H' p q := by
  obtain ⟨ns, a, b, c, d, e, e2, n⟩ := h
  obtain ⟨l, hl⟩ := hB.2 q ⟨_, e⟩
  obtain ⟨q2, ns2, a2, b2, c2, d2, f, f2, n2⟩ := h'
  have := hl.symm.trans f
  injection this with this
  injection this with this
  injection this with this
  injection this with this
  subst this
  exact ⟨ns2, a2, b2, c2, d2, f, f2, n2⟩
theorem Plq.upd {H : Hp} {p q D : Addr} {o : HO} (h : Plq H p q) (h1 : p ≠ D) (h2 : q ≠ D) : Plq (upd H D o) p q := by
  obtain ⟨ns, a, b, c, d, e, e2, n⟩ := h
  exact ⟨ns, a, b, c, d, by rw [upd_ne h1]; exact e, by rw [upd_ne h2]; exact e2, n⟩
theorem Plq.same {H H' : Hp} {p q : Addr} (h : Plq H p q) (s : Same H H') : Plq H' p q := by
  obtain ⟨ns, a, b, c, d, e, e2, n⟩ := h
  exact ⟨ns, a, b, c, d, s _ _ e, s _ _ e2, n⟩
theorem Plq.ne_free {H : Hp} {p q D : Addr} (h : Plq H p q) (n : H D = none) : p ≠ D ∧ q ≠ D := by
  obtain ⟨ns, a, b, c, d, e, e2, _⟩ := h
  exact ⟨ne_of_none e n, ne_of_none e2 n⟩

theorem cmul {x y : Int} {a b : Nat} (ha : x.natAbs < 2 ^ a) (hb : y.natAbs < 2 ^ b) (h0 : 0 < a := by decide) (h1 : 0 < b := by decide) (h : a + b ≤ 1000000 := by decide) : CMulW x y := wide_mul ha hb h0 h1 h

/-! ### vectors: tuples of ints -/
/-- the greatest common divisor of a list -/
def gl (ns : List Int) : Int := ns.foldl g2 0
theorem g2_max {c x : Int} {B : Nat} (hc : c.natAbs < B) (hx : x.natAbs < B) : (g2 c x).natAbs < B := by
  by_cases h : x = 0
  · subst h
    unfold g2
    rw [show (0 : Int).natAbs = 0 from rfl, Nat.gcd_zero_right]
    omega
  · exact Nat.lt_of_le_of_lt (g2_le h) hx
theorem g2_nn (a b : Int) : 0 ≤ g2 a b := by
  unfold g2
  omega
theorem gl_step {ns : List Int} {i : Nat} {x : Int} (h : ns[i]? = some x) : gl (ns.take (i + 1)) = g2 (gl (ns.take i)) x := by
  unfold gl
  rw [List.take_add_one, h, List.foldl_append]
  rfl
theorem gl_lim {ns : List Int} {B : Nat} (h0 : 0 < B) (h : ∀ n ∈ ns, n.natAbs < B) : (gl ns).natAbs < B := by
  unfold gl
  have : ∀ (l : List Int) (c : Int), c.natAbs < B → (∀ n ∈ l, n.natAbs < B) → (l.foldl g2 c).natAbs < B := by
    intro l
    induction l with
    | nil => intro c hc _; exact hc
    | cons x r ih =>
      intro c hc hl
      exact ih _ (g2_max hc (hl x List.mem_cons_self)) fun n hn => hl n (List.mem_cons_of_mem _ hn)
  exact this ns 0 (by show 0 < B; exact h0) h
theorem gl_nn (ns : List Int) : 0 ≤ gl ns := by
  unfold gl
  have : ∀ (l : List Int) (c : Int), 0 ≤ c → 0 ≤ l.foldl g2 c := by
    intro l
    induction l with
    | nil => intro c hc; exact hc
    | cons x r ih => intro c _; exact ih _ (g2_nn _ _)
  exact this ns 0 (Int.le_refl 0)
theorem gl_take_lim {ns : List Int} {B i : Nat} (h0 : 0 < B) (h : ∀ n ∈ ns, n.natAbs < B) : (gl (ns.take i)).natAbs < B := gl_lim h0 fun n hn => h n (List.mem_of_mem_take hn)
def prim (ns : List Int) : List Int := if gl ns = 0 then ns else ns.map (· / gl ns)
def dotz (ns ms : List Int) : List Int := (ns.zip ms).map fun p => p.1 * p.2
theorem prim_len (ns : List Int) : (prim ns).length = ns.length := by
  unfold prim
  split
  · rfl
  · rw [List.length_map]
theorem map_get {ns : List Int} {i : Nat} {x : V} (h : (ns.map V.int)[i]? = some x) : ∃ n, ns[i]? = some n ∧ x = .int n := by
  rw [List.getElem?_map] at h
  cases e : ns[i]? with
  | none => rw [e] at h; cases h
  | some n => rw [e] at h; exact ⟨n, rfl, (Option.some.inj h).symm⟩
theorem get_map {ns : List Int} {i : Nat} {n : Int} (h : ns[i]? = some n) : (ns.map V.int)[i]? = some (.int n) := by
  rw [List.getElem?_map, h]
  rfl
theorem lt_of_get {α : Type} {xs : List α} {i : Nat} {x : α} (h : xs[i]? = some x) : i < xs.length := (List.getElem?_eq_some_iff.mp h).1
/-- the vector at a -/
def Vc (H : Hp) (a : Addr) (ns : List Int) : Prop := H a = some (.tup (ns.map V.int))
theorem vc_alike {H : Hp} {a b : Addr} {ns : List Int} (n : Nat) (ha : Vc H a ns) (hb : Vc H b ns) (hl : ns.length ≤ 1000) : Alike H (n + 1) (.ref a) (.ref b) :=
  .tup ha hb rfl (by rw [List.length_map]; omega) fun i x y h1 h2 => by
    have e := Option.some.inj (h1.symm.trans h2)
    subst e
    obtain ⟨m, _, rfl⟩ := map_get h1
    exact .int n m
theorem Vc.ne {H : Hp} {p a : Addr} {ns : List Int} (h : Vc H a ns) (hp : Pl H p) : a ≠ p := hp.ne h
theorem Vc.keep {H H' : Hp} {p a : Addr} {ns : List Int} (h : Vc H a ns) (hp : Pl H p) (k : Keep p H H') : Vc H' a ns := k _ _ (h.ne hp) h
theorem Vc.same {H H' : Hp} {a : Addr} {ns : List Int} (h : Vc H a ns) (k : Same H H') : Vc H' a ns := k _ _ h
theorem dotz_get {ns ms : List Int} {i : Nat} {x y : Int} (h1 : ns[i]? = some x) (h2 : ms[i]? = some y) : (dotz ns ms)[i]? = some (x * y) := by
  unfold dotz
  rw [List.getElem?_map, List.getElem?_zip_eq_some (z := (x, y)) |>.mpr ⟨h1, h2⟩]
  rfl
theorem dotz_len {ns ms : List Int} (h : ns.length = ms.length) : (dotz ns ms).length = ns.length := by
  unfold dotz
  rw [List.length_map, List.length_zip, h, Nat.min_self]
theorem take_get {α : Type} {xs : List α} {i : Nat} {x : α} (h : xs[i]? = some x) : xs.take (i + 1) = xs.take i ++ [x] := by
  rw [List.take_add_one, h]
  rfl

/-! ### walks of a list or a tuple -/
section
variable {X : Cx}
theorem PI.or {tg iter : Expr} {w1 w2 : TI} (h1 : PI X tg iter w1) (h2 : PI X tg iter w2) : PI X tg iter (fun σ H R => w1 σ H R ∨ w2 σ H R) := ⟨fun pins s σ H R I h => by
  rcases h with h | h
  · exact h1.run pins s σ H R I h
  · exact h2.run pins s σ H R I h⟩
theorem OpR.or {f : Value → Value → Sem Value} {r1 r2 : R2} (h1 : OpR X f r1) (h2 : OpR X f r2) : OpR X f (fun x y H Q => r1 x y H Q ∨ r2 x y H Q) := by
  intro pins s σ H x y v u Q I rx ry q
  rcases q with q | q
  · exact h1 pins s σ H x y v u Q I rx ry q
  · exact h2 pins s σ H x y v u Q I rx ry q
end

/-- all but p stands, and p has its head -/
structure Kp (p : Addr) (H H' : Hp) : Prop where
  k : Keep p H H'
  h : ∀ q, Hd H p q → Hd H' p q
theorem But.kp {p : Addr} {H H' : Hp} (h : But p H H') : Kp p H H' := ⟨h.keep, h.2⟩
theorem Same.kp {p : Addr} {H H' : Hp} (h : Same H H') : Kp p H H' := ⟨Same.keep h, fun q ⟨l, e⟩ => ⟨l, h _ _ e⟩⟩
theorem Kp.trans {p : Addr} {H H1 H2 : Hp} (a : Kp p H H1) (b : Kp p H1 H2) : Kp p H H2 := ⟨a.k.trans b.k, fun q h => b.h q (a.h q h)⟩
theorem Plq.hd {H : Hp} {p q : Addr} (h : Plq H p q) : Hd H p q := by
  obtain ⟨ns, a, b, c, d, e, _⟩ := h
  exact ⟨_, e⟩
theorem hd_inj {H : Hp} {p q r : Addr} (h : Hd H p q) (h' : Hd H p r) : q = r := by
  obtain ⟨l, e⟩ := h
  obtain ⟨l', e'⟩ := h'
  have := e.symm.trans e'
  injection this with this
  injection this with this
  injection this with this
  injection this
theorem Plq.kp {H H' : Hp} {p q : Addr} (h : Plq H p q) (k : Kp p H H') (h' : Pl H' p) : Plq H' p q := by
  obtain ⟨q2, e⟩ := h'.q
  rw [hd_inj (k.h _ h.hd) e.hd]
  exact e
/-- a comprehension over range whose turn draws: what it leaves -/
def Dr (p : Addr) (H : Hp) (D : Addr) (B : Nat) (i : Nat) (H' : Hp) : Prop := (∃ q, Plq H p q ∧ Plq H' p q ∧ q ≠ D) ∧ Keep p H H' ∧ ∃ ns : List Int, H' D = some (.lst (ns.map V.int)) ∧ ns.length = i ∧ ∀ n ∈ ns, n.natAbs < 2 ^ B
theorem dr0 {p D : Addr} {H : Hp} {B : Nat} (hp : Pl H p) (nD : H D = none) : Dr p H D B 0 (upd H D (.lst [])) := by
  obtain ⟨q, hq⟩ := hp.q
  exact ⟨⟨q, hq, hq.same (same_upd nD), (hq.ne_free nD).2⟩, Same.keep (same_upd nD), [], upd_same, rfl, fun n h => nomatch h⟩
theorem dr_step {p D : Addr} {H H' H2 : Hp} {B i : Nat} {n : Int} (nD : H D = none) (hP : Pl H p) (h : Dr p H D B i H') (hB : But p H' H2) (P2 : Pl H2 p) (hn : n.natAbs < 2 ^ B) :
    ∃ acc, H2 D = some (.lst acc) ∧ acc.length = i ∧ Dr p H D B (i + 1) (upd H2 D (.lst (acc ++ [.int n]))) := by
  obtain ⟨⟨q, hq0, hq, qD⟩, K1, ns, e, hl, hb⟩ := h
  have ne : D ≠ p := by
    obtain ⟨q0, h0⟩ := hP.q
    exact (h0.ne_free nD).1.symm
  refine ⟨ns.map V.int, (hB.1 D ne).trans e, by rw [List.length_map]; exact hl, ⟨q, hq0, (hq.but hB P2).upd ne.symm qD, qD⟩, ?_, ns ++ [n], ?_, ?_, ?_⟩
  · intro x o hx ho
    have hxD : x ≠ D := ne_of_none ho nD
    rw [upd_ne hxD]
    exact hB.keep _ _ hx (K1 _ _ hx ho)
  · rw [upd_same, List.map_append]
    rfl
  · rw [List.length_append, hl]
    rfl
  · intro m hm
    rcases List.mem_append.mp hm with h | h
    · exact hb m h
    · rw [List.mem_singleton.mp h]
      exact hn
theorem Dr.kp {p D : Addr} {H H' : Hp} {B i : Nat} (h : Dr p H D B i H') : Kp p H H' := by
  obtain ⟨⟨q, h1, h2, _⟩, k, _⟩ := h
  exact ⟨k, fun q' hq => by rw [hd_inj hq h1.hd]; exact h2.hd⟩

theorem cat_h {H : Hp} {a b : Addr} {xs ys : List V} {Q : VK} (ha : H a = some (.tup xs)) (hb : H b = some (.tup ys)) (hz : xs.length + ys.length ≤ 1000) (q : ∀ (H' : Hp) (r : Addr), Same H H' → H' r = some (.tup (xs ++ ys)) → Q (.ref r) H') : rCatA K (.ref a) (.ref b) H Q :=
  ⟨a, b, xs, ys, rfl, rfl, SqT.of ha, SqT.of hb, Nat.le_of_lt (small1000 hz), fun e => q _ _ (Same.refl _) (by rw [e]; exact hb), fun _ e => q _ _ (Same.refl _) (by rw [e, List.append_nil]; exact ha), fun _ _ p np => q _ _ (same_upd np) upd_same⟩
theorem cut_whole {xs : List V} {lo hi : Option Int} (h : HT.sIx xs.length 0 lo = 0 ∧ HT.sIx xs.length xs.length hi = xs.length) : cutV xs lo hi = xs := by
  unfold cutV
  rw [h.1, h.2]
  exact List.take_length
theorem sl_h {H : Hp} {a : Addr} {xs : List V} {lo hi : Option Int} {Q : VK} (ha : H a = some (.tup xs)) (q : ∀ (H' : Hp) (r : Addr), Same H H' → H' r = some (.tup (cutV xs lo hi)) → Q (.ref r) H') : rSlA K (.ref a) lo hi H Q :=
  ⟨a, xs, rfl, SqT.of ha, fun e => q _ _ (Same.refl _) (by rw [cut_whole e]; exact ha), fun _ p np => q _ _ (same_upd np) upd_same⟩
theorem cut_mem {xs : List V} {lo hi : Option Int} {x : V} (h : x ∈ cutV xs lo hi) : x ∈ xs := List.mem_of_mem_drop (List.mem_of_mem_take h)
theorem cut_take (xs : List V) (j : Nat) : cutV xs none (some (j : Int)) = xs.take j := by
  unfold cutV
  rw [HT.sIx_none, HT.sIx_nat, List.drop_zero, Nat.sub_zero]
  by_cases h : j ≤ xs.length
  · rw [Nat.min_eq_left h]
  · rw [Nat.min_eq_right (by omega), List.take_length, List.take_of_length_le (by omega)]
theorem cut_drop (xs : List V) (j : Nat) : cutV xs (some (j : Int)) none = xs.drop j := by
  unfold cutV
  rw [HT.sIx_none, HT.sIx_nat]
  by_cases h : j ≤ xs.length
  · rw [Nat.min_eq_left h]
    exact List.take_of_length_le (by rw [List.length_drop]; exact Nat.le_refl _)
  · rw [Nat.min_eq_right (by omega), Nat.sub_self, List.take_zero, List.drop_eq_nil_of_le (by omega)]

/-! ### == of tuples of ints -/
theorem eqv_ints : ∀ ns ms : List Int, PyData.eqvAll (ns.map PyData.int) (ms.map PyData.int) = decide (ns = ms)
  | [], [] => by rw [List.map_nil, PyData.eqvAll]; rfl
  | [], m :: ms => by rw [List.map_nil, List.map_cons, PyData.eqvAll]; rfl
  | n :: ns, [] => by rw [List.map_nil, List.map_cons, PyData.eqvAll]; rfl
  | n :: ns, m :: ms => by
    rw [List.map_cons, List.map_cons, PyData.eqvAll, PyData.eqv, eqv_ints ns ms]
    by_cases h : n = m
    · subst h
      by_cases h2 : ns = ms <;> simp [h2]
    · simp [h]
theorem lay_ints : ∀ ns : List Int, PyData.canLayAll0 (ns.map PyData.int) = true
  | [] => by rw [List.map_nil, PyData.canLayAll0]
  | n :: ns => by
    rw [List.map_cons, PyData.canLayAll0, lay_ints ns]
    rfl
theorem depth_ints : ∀ ns : List Int, PyData.depthAll (ns.map PyData.int) ≤ 1
  | [] => by rw [List.map_nil, PyData.depthAll]; omega
  | n :: ns => by
    have := depth_ints ns
    rw [List.map_cons, PyData.depthAll, PyData.depth]
    omega
theorem shaped_ints (ns : List Int) (h : ns.length ≤ 1000) : SeqAt.shaped (.tuple (ns.map PyData.int)) = true := by
  unfold SeqAt.shaped
  rw [Bool.and_eq_true]
  refine ⟨?_, ?_⟩
  · rw [PyData.canLay0, lay_ints]
  · rw [decide_eq_true_iff, PyData.depth]
    have := depth_ints ns
    omega
theorem dp_ints {H : Hp} : ∀ ns : List Int, DpAll K H (ns.map V.int) (ns.map PyData.int)
  | [] => .nil
  | n :: ns => .cons (.int n) (dp_ints ns)

/-! ### lists of vectors -/
def RL (H : Hp) (a : Addr) (n : Nat) (R : Nat → Addr → Prop) : Prop := ∃ rs : List Addr, H a = some (.lst (rs.map V.ref)) ∧ rs.length = n ∧ ∀ i r, rs[i]? = some r → R i r
def VL (H : Hp) (a : Addr) (vs : List (List Int)) : Prop := RL H a vs.length fun i r => ∃ v, vs[i]? = some v ∧ Vc H r v
theorem VL.same {H H' : Hp} {a : Addr} {vs : List (List Int)} (h : VL H a vs) (s : Same H H') : VL H' a vs := by
  obtain ⟨rs, e, l, g⟩ := h
  exact ⟨rs, s _ _ e, l, fun i r hr => by obtain ⟨v, h1, h2⟩ := g i r hr; exact ⟨v, h1, h2.same s⟩⟩
theorem VL.kp {H H' : Hp} {a p : Addr} {vs : List (List Int)} (h : VL H a vs) (hP : Pl H p) (ne : a ≠ p) (s : Keep p H H') : VL H' a vs := by
  obtain ⟨rs, e, l, g⟩ := h
  exact ⟨rs, s _ _ ne e, l, fun i r hr => by obtain ⟨v, h1, h2⟩ := g i r hr; exact ⟨v, h1, h2.keep hP s⟩⟩
theorem ref_get {rs : List Addr} {i : Nat} {x : V} (h : (rs.map V.ref)[i]? = some x) : ∃ r, rs[i]? = some r ∧ x = .ref r := by
  rw [List.getElem?_map] at h
  obtain ⟨r, h1, h2⟩ := Option.map_eq_some_iff.mp h
  exact ⟨r, h1, h2.symm⟩
theorem get_ref {rs : List Addr} {i : Nat} {r : Addr} (h : rs[i]? = some r) : (rs.map V.ref)[i]? = some (.ref r) := by
  rw [List.getElem?_map, h]
  rfl
theorem VL.at {H : Hp} {a : Addr} {vs : List (List Int)} {i : Nat} (h : VL H a vs) (hi : i < vs.length) : ∃ (rs : List Addr) (r : Addr), H a = some (.lst (rs.map V.ref)) ∧ rs.length = vs.length ∧ rs[i]? = some r ∧ Vc H r (vs[i]'hi) := by
  obtain ⟨rs, e, l, g⟩ := h
  have er : rs[i]? = some (rs[i]'(by omega)) := List.getElem?_eq_getElem (by omega)
  obtain ⟨v, h1, h2⟩ := g i _ er
  rw [List.getElem?_eq_getElem hi] at h1
  cases h1
  exact ⟨rs, _, e, l, er, h2⟩
theorem no_get {α : Type} {j : Nat} {r : α} {P : Prop} (h : ([] : List α)[j]? = some r) : P := by
  rw [List.getElem?_nil] at h
  cases h
theorem app_get {α : Type} {xs : List α} {x y : α} {j : Nat} (h : (xs ++ [x])[j]? = some y) : xs[j]? = some y ∨ (j = xs.length ∧ y = x) := by
  rw [List.getElem?_append] at h
  split at h
  · exact .inl h
  · have := lt_of_get h
    rw [List.length_singleton] at this
    have hj : j = xs.length := by omega
    subst hj
    rw [Nat.sub_self] at h
    cases h
    exact .inr ⟨rfl, rfl⟩
/-- a vector more at the end -/
theorem VL.push {H : Hp} {a r : Addr} {vs : List (List Int)} {v : List Int} {acc : List V} (h : VL H a vs) (hr : Vc H r v) (e : H a = some (.lst acc)) : VL (upd H a (.lst (acc ++ [.ref r]))) a (vs ++ [v]) := by
  obtain ⟨rs, e', l, g⟩ := h
  rw [e'] at e
  have e := HO.lst.inj (Option.some.inj e)
  subst e
  have tups : ∀ t (u : List Int), Vc H t u → Vc (upd H a (.lst (rs.map V.ref ++ [.ref r]))) t u := fun t u ht => by
    unfold Vc at ht ⊢
    rw [upd_ne (ne_of ht e' (fun z => nomatch z))]
    exact ht
  refine ⟨rs ++ [r], by rw [upd_same, List.map_append]; rfl, by rw [List.length_append, List.length_append, l]; rfl, fun i t ht => ?_⟩
  rcases app_get ht with h1 | ⟨h1, rfl⟩
  · obtain ⟨u, h2, h3⟩ := g i t h1
    exact ⟨u, by rw [List.getElem?_append_left (lt_of_get h2)]; exact h2, tups _ _ h3⟩
  · refine ⟨v, ?_, tups _ _ hr⟩
    rw [h1, l, List.getElem?_append_right (Nat.le_refl _), Nat.sub_self]
    rfl
theorem vl0 {H : Hp} {a : Addr} : VL (upd H a (.lst [])) a [] := ⟨[], upd_same, rfl, fun i r h => no_get h⟩

/-! ### a comprehension that makes the values f 0, f 1, .. -/
def PvF (H : Hp) (D : Addr) (f : Nat → V) (j : Nat) (H' : Hp) : Prop := Same H H' ∧ H' D = some (.lst ((List.range j).map f))
theorem pvf0 {H : Hp} {D : Addr} {f : Nat → V} (nD : H D = none) : PvF H D f 0 (upd H D (.lst [])) := ⟨same_upd nD, upd_same⟩
theorem pvf_step {H H' H'' : Hp} {D : Addr} {f : Nat → V} {j : Nat} {x : V} (nD : H D = none) (hP : PvF H D f j H') (s : Same H' H'') (hj : j < 1000) (hx : x = f j) :
    ∃ acc, H'' D = some (.lst acc) ∧ acc.length < sizeLine ∧ PvF H D f (j + 1) (upd H'' D (.lst (acc ++ [x]))) := by
  refine ⟨_, s _ _ hP.2, ?_, ?_, ?_⟩
  · rw [List.length_map, List.length_range]
    exact small1000 (by omega)
  · intro y o hy
    rw [upd_ne (ne_of_none hy nD)]
    exact s _ _ (hP.1 _ _ hy)
  · rw [upd_same, List.range_succ, List.map_append, hx]
    rfl

open Dt
def rowV (n : Nat) (f : Nat → Int) : List V := (List.range n).map fun j => V.int (f j)
theorem rowV_len (n : Nat) (f : Nat → Int) : (rowV n f).length = n := by unfold rowV; rw [List.length_map, List.length_range]
theorem rowV_get {n j : Nat} (f : Nat → Int) (h : j < n) : (rowV n f)[j]? = some (.int (f j)) := by
  unfold rowV
  rw [List.getElem?_map, List.getElem?_range h]
  rfl
/-- a list of n lists of n integers -/
def WM (H : Hp) (w : Addr) (n : Nat) (W : Mx) : Prop := ∃ rs : List Addr, H w = some (.lst (rs.map V.ref)) ∧ rs.length = n ∧ ∀ i r, rs[i]? = some r → H r = some (.lst (rowV n (W i)))
theorem refget {rs : List Addr} {i : Nat} {r : Addr} (h : rs[i]? = some r) : (rs.map V.ref)[i]? = some (.ref r) := by
  rw [List.getElem?_map, h]; rfl
abbrev s_first_with_entry : Stmt := topS 1
theorem sc_first_with_entry : FnScope ["rows", "column", "start", "k"] ["rows", "column", "start"] (defScope s_first_with_entry) := ⟨rfl, rfl, rfl, by decide +kernel, rfl, by decide +kernel, by decide +kernel⟩
def spFirst : Sp := fun vs H Q _ => ∃ (w : Addr) (n c s : Nat) (W : Mx), vs = [.ref w, .int c, .int s] ∧ WM H w n W ∧ n ≤ 100 ∧ c < n ∧ s ≤ n ∧ ((∀ i, s ≤ i → i < n → W i c = 0) → Q .non H) ∧ (∀ a : Nat, s ≤ a → a < n → W a c ≠ 0 → Q (.int a) H)
theorem ok_first {f : Addr} {fd : FuncData} {k : Nat} (F : Fun K "first_with_entry" "first_with_entry" s_first_with_entry f fd) (Z : Glb mg) : FnOk P w K mg base CX0 (k + 1) f fd ["rows", "column", "start"] spFirst := by
  refine F.ok sc_first_with_entry (fun vs H Q E h => ?_) (fun cdv A outer s H vs Q E hr h => ?_)
  · obtain ⟨w, n, c, s, W, rfl, _⟩ := h
    rfl
  · obtain ⟨a, n, c, s, W, rfl, ⟨rs, ea, rl, rg⟩, n1, hc, hs, q0, q1⟩ := h
    refine ⟨_, (pss_cons (ps_for PassesOwn.never rfl (pi_range2 rfl Z.m_range (pa_cons (pv 2) (pa_cons (pe_callB call_len_seq (by rfl) Z.m_len PySem.boot_len (pa_cons (pv 0) pa_nil)) pa_nil))) (pg_name (i := 3) sc_first_with_entry.nd rfl (.inl rfl)) (pss_one (ps_if (pt_cmpR op_ne (pe_ix (r := rIxL K) ix_list (pe_ix (r := rIxL K) ix_list (pv 0) (pv 3) (fun _ _ => rfl)) (pv 1) (fun _ _ => rfl)) pe_int (nomark _)) (pss_one (ps_ret (pv 3))) pss_nil)))
      (pss_one (ps_ret pe_non))), ?_⟩
    refine ⟨_, rfl, _, rfl, a, _, rfl, .inl (SqL.of ea), ?_⟩
    rw [List.length_map, rl]
    refine ⟨_, _, rfl, ⟨by omega, by omega, by omega, by omega⟩, ?_⟩
    rw [show ((n : Int) - (s : Int)).toNat = n - s by omega]
    refine for_range (lo := s) (n := n - s) (fun i σ H' => H' = H ∧ (∃ y3 : Option V, σ = [some (.ref a), some (.int c), some (.int s), y3]) ∧ ∀ j, s ≤ j → j < s + i → W j c = 0) ⟨rfl, ⟨_, rfl⟩, fun j h1 h2 => by omega⟩ (fun i σ H' hi hP => ?_) (fun σ H' hP => ?_)
    · obtain ⟨rfl, ⟨y3, rfl⟩, hz⟩ := hP
      have hk : s + i < n := by omega
      have er : rs[s + i]? = some (rs[s + i]'(by omega)) := List.getElem?_eq_getElem (by omega)
      have e1 : (s : Int) + (i : Int) = ((s + i : Nat) : Int) := by omega
      rw [e1]
      refine ⟨_, rfl, _, rfl, _, _, _, _, rfl, rfl, SqL.of ea, atI_nat (refget er), _, rfl, _, _, _, _, rfl, rfl, SqL.of (rg _ _ er), atI_nat (rowV_get _ hc), rfl, _, rfl, ite2 (fun e => ?_) (fun e => ?_)⟩
      · have ne : W (s + i) c ≠ 0 := fun z => by
          rw [z] at e
          exact absurd e (by decide)
        exact ⟨_, rfl, q1 (s + i) (by omega) hk ne⟩
      · have e0 : W (s + i) c = 0 := by
          by_cases z : W (s + i) c = 0
          · exact z
          · exact absurd (by rw [dec_int]; simp [z]) e
        exact ⟨rfl, ⟨_, rfl⟩, fun j h1 h2 => by
          by_cases z : j = s + i
          · rw [z]; exact e0
          · exact hz j h1 (by omega)⟩
    · obtain ⟨rfl, ⟨y3, rfl⟩, hz⟩ := hP
      exact q0 fun i h1 h2 => hz i h1 (by omega)

theorem WM.ne {H : Hp} {w : Addr} {n : Nat} {W : Mx} (h : WM H w n W) (h1 : 1 ≤ n) {t : Addr} {f : Nat → Int} (ht : H t = some (.lst (rowV n f))) : t ≠ w := by
  obtain ⟨rs, e, l, g⟩ := h
  intro z
  subst z
  rw [ht] at e
  have e := HO.lst.inj (Option.some.inj e)
  have a := rowV_get (n := n) f (j := 0) (by omega)
  have er : rs[0]? = some (rs[0]'(by rw [l]; exact h1)) := List.getElem?_eq_getElem (by rw [l]; exact h1)
  rw [e, refget er] at a
  cases a
/-- a row put in place i -/
theorem WM.put {H : Hp} {w : Addr} {n : Nat} {W : Mx} (h : WM H w n W) (h1 : 1 ≤ n) {t : Addr} {f : Nat → Int} (ht : H t = some (.lst (rowV n f))) {i : Nat} {xs : List V} (hx : H w = some (.lst xs)) :
    WM (upd H w (.lst (xs.set i (V.ref t)))) w n (fun i' => if i' = i then f else W i') := by
  have tw := h.ne h1 ht
  obtain ⟨rs, e, l, g⟩ := id h
  rw [e] at hx
  have hx := HO.lst.inj (Option.some.inj hx)
  subst hx
  refine ⟨rs.set i t, by rw [upd_same, List.map_set], by rw [List.length_set, l], fun j r hr => ?_⟩
  rw [List.getElem?_set] at hr
  by_cases hj : i = j
  · subst hj
    rw [if_pos rfl] at hr
    by_cases hlt : i < rs.length
    · rw [if_pos hlt] at hr
      cases hr
      rw [upd_ne tw]
      simp only [if_true]
      exact ht
    · rw [if_neg hlt] at hr
      cases hr
  · rw [if_neg hj] at hr
    have := g j r hr
    have hj' : ¬ j = i := fun z => hj z.symm
    rw [upd_ne (h.ne h1 this)]
    simp only [if_neg hj']
    exact this
theorem WM.same {H H' : Hp} {w : Addr} {n : Nat} {W : Mx} (h : WM H w n W) (s : Same H H') : WM H' w n W := by
  obtain ⟨rs, e, l, g⟩ := h
  exact ⟨rs, s _ _ e, l, fun i r hr => s _ _ (g i r hr)⟩
theorem WM.congr {H : Hp} {w : Addr} {n : Nat} {W W' : Mx} (h : WM H w n W) (e : ∀ i j, i < n → j < n → W i j = W' i j) : WM H w n W' := by
  obtain ⟨rs, e1, l, g⟩ := h
  refine ⟨rs, e1, l, fun i r hr => ?_⟩
  rw [g i r hr]
  have hi : i < n := by rw [← l]; exact lt_of_get hr
  congr 2
  unfold rowV
  exact List.map_congr_left fun j hj => by rw [e i j hi (List.mem_range.mp hj)]

/-- a list of n tuples of n integers -/
def TM (H : Hp) (w : Addr) (n : Nat) (W : Mx) : Prop := ∃ rs : List Addr, H w = some (.lst (rs.map V.ref)) ∧ rs.length = n ∧ ∀ i r, rs[i]? = some r → H r = some (.tup (rowV n (W i)))
theorem TM.same {H H' : Hp} {w : Addr} {n : Nat} {W : Mx} (h : TM H w n W) (s : Same H H') : TM H' w n W := by
  obtain ⟨rs, e, l, g⟩ := h
  exact ⟨rs, s _ _ e, l, fun i r hr => s _ _ (g i r hr)⟩
def rListOf (K : PySem.W.Frag) : List V → Hp → VK → Prop := fun xs H Q => ∃ p ys, xs = [V.ref p] ∧ (SqL K H p ys ∨ SqT K H p ys) ∧ ∀ l, H l = none → Q (V.ref l) (upd H l (HO.lst ys))
theorem sw_ge {k a i : Nat} (h : k ≤ a) (hi : k ≤ i) : k ≤ sw k a i := by
  unfold sw
  split
  · exact h
  · split <;> omega
theorem sw_in {n k a i : Nat} (h : a < n) (hk : k < n) (hi : i < n) : sw k a i < n := by
  unfold sw
  split
  · exact h
  · split <;> omega
abbrev s_determinant : Stmt := topS 2
theorem sc_determinant : FnScope ["rows", "work", "size", "turn", "last", "k", "at", "i", "row", "j"] ["rows"] (defScope s_determinant) := ⟨rfl, rfl, rfl, by decide +kernel, rfl, by decide +kernel, by decide +kernel⟩
def spDet : Sp := fun vs H Q _ => ∃ (a : Addr) (n : Nat) (A : Mx), vs = [.ref a] ∧ TM H a n A ∧ 1 ≤ n ∧ n ≤ 4 ∧ (∀ i j, i < n → j < n → (A i j).natAbs ≤ 10000) ∧ (∀ H', Same H H' → Q (.int (dt n A)) H')
/-- the state of the elimination before step k -/
def InvP (n : Nat) (A : Mx) (k : Nat) (P W : Mx) (turn last : Int) : Prop := (turn = 1 ∨ turn = -1) ∧ turn * dt n P = dt n A ∧ (∀ i j, i < n → j < n → (P i j).natAbs ≤ 10000) ∧ last = ld k P ∧ last ≠ 0 ∧ (∀ i j, k ≤ i → i < n → j < n → W i j = mn k P i j)
theorem ixNn {n j : Nat} (hj : j < n) : ixN n (j : Int) = some j := by
  unfold ixN
  rw [if_pos (by omega), if_pos (by omega)]
  simp
/-- the first m rows below row k have made the step -/
def nx6 (k m : Nat) (P W : Mx) : Mx := fun i => if k + 1 ≤ i ∧ i < k + 1 + m then mn (k + 1) P i else W i
theorem ld_ab {P : Mx} {n k : Nat} (n1 : 1 ≤ n) (n4 : n ≤ 4) (h : ∀ i j, i < n → j < n → (P i j).natAbs ≤ 10000) (hk : k < n) : (Dt.ld k P).natAbs ≤ 240000000000000000 := by
  cases k with
  | zero => exact (show (1 : Int).natAbs ≤ 240000000000000000 by decide)
  | succ k => exact mn_ab h (Nat.le_refl _) (by omega) (by omega) (by omega) (by omega)
theorem inv_swp {n k a : Nat} {A P W : Mx} {turn last : Int} (hn : n ≤ 4) (hk : k < a) (ha : a < n) (h : InvP n A k P W turn last) : InvP n A k (swp k a P) (swp k a W) (-turn) last := by
  obtain ⟨h1, h2, h3, h4, h5, h6⟩ := h
  refine ⟨by omega, ?_, fun i j hi hj => h3 _ j (sw_in ha (by omega) hi) hj, ?_, h5, fun i j h7 hi hj => ?_⟩
  · rw [dt_swp hn hk ha, Int.neg_mul_neg]
    exact h2
  · rw [ld_swp (by omega) (by omega)]
    exact h4
  · rw [mn_swp (by omega) (by omega)]
    exact h6 _ j (sw_ge (by omega) h7) (sw_in ha (by omega) hi) hj
/-- Same but for the list itself -/
theorem same_new {H H' : Hp} {w : Addr} {o : HO} (nw : H w = none) (s : Same H H') : Same H (upd H' w o) := fun y x hy => by
  rw [upd_ne (ne_of_none hy nw)]
  exact s _ _ hy
theorem ok_det {f : Addr} {fd : FuncData} {k : Nat} (F : Fun K "determinant" "determinant" s_determinant f fd) (Z : Glb mg)
    (Cfirst_with_entry : Call P w K mg base k "first_with_entry" ["rows", "column", "start"] spFirst) : FnOk P w K mg base CX0 (k + 1) f fd ["rows"] spDet := by
  refine F.ok sc_determinant (fun vs H Q E h => ?_) (fun cdv A outer s H vs Q E hr h => ?_)
  · obtain ⟨a, n, A, rfl, _⟩ := h
    rfl
  · obtain ⟨a, n, A, rfl, hA, n1, n4, bA, q⟩ := h
    obtain ⟨rs, ea, rl, rg⟩ := hA
    refine ⟨_, (pss_cut (ps_set (i := 1) sc_determinant.nd rfl (.inr rfl) (pe_lc (own := [("row", 8)]) (g := gName 8) (tt := tYes) (by rfl) sc_determinant.nd (pi_list (pv 0)) (blkOk_by (own := [("row", 8)]) (N := ["rows", "work", "size", "turn", "last", "k", "at", "i", "row", "j"]) (sc := defScope s_determinant) (by first | decide +kernel | kernel_rfl)) (fun _ _ _ _ _ => (pg_name (i := 8) sc_determinant.nd rfl (.inl rfl))) (fun _ _ _ _ _ => pts_nil) (fun _ _ _ _ _ => (pe_callTy (T := "list") (r := rListOf K) call_list_of (by rfl) Z.m_list (by decide +kernel) (pa_cons (pv 8) pa_nil)))))
      (pss_cons (ps_set (i := 2) sc_determinant.nd rfl (.inl rfl) (pe_callB call_len_seq (by rfl) Z.m_len PySem.boot_len (pa_cons (pv 1) pa_nil)))
      (pss_cons (ps_set (i := 3) sc_determinant.nd rfl (.inl rfl) pe_int)
      (pss_cons (ps_set (i := 4) sc_determinant.nd rfl (.inr rfl) pe_int)
      (pss_cut (ps_for PassesOwn.never rfl (pi_range1 rfl Z.m_range (pa_cons (pe_op op_sub (pv 2) pe_int) pa_nil)) (pg_name (i := 5) sc_determinant.nd rfl (.inr rfl)) (pss_cons (ps_set (i := 6) sc_determinant.nd rfl (.inl rfl) (pe_call Cfirst_with_entry.G hr (by rfl) Cfirst_with_entry.m Cfirst_with_entry.kp Cfirst_with_entry.b .nil pass0 (pa_cons (pv 1) (pa_cons (pv 5) (pa_cons (pv 5) pa_nil)))))
      (pss_cons (ps_if (pt_cmp (pc_isN (pv 6))) (pss_one (ps_ret pe_int)) pss_nil)
      (pss_cut (ps_if (pt_cmpR op_ne (pv 6) (pv 5) (nomark _)) (pss_cons (ps_asg (pe_tup (pa_cons (pe_ix (r := rIxL K) ix_list (pv 1) (pv 6) (fun _ _ => rfl)) (pa_cons (pe_ix (r := rIxL K) ix_list (pv 1) (pv 5) (fun _ _ => rfl)) pa_nil))) (pg_tup rfl (pgs_cons (pg_sub (pv 1) (pv 5) set_list) (pgs_cons (pg_sub (pv 1) (pv 6) set_list) pgs_nil))))
      (pss_one (ps_set (i := 3) sc_determinant.nd rfl (.inl rfl) (pe_un un_neg (pv 3))))) pss_nil)
      (pss_cut (ps_for PassesOwn.never rfl (pi_range2 rfl Z.m_range (pa_cons (pe_op op_add (pv 5) pe_int) (pa_cons (pv 2) pa_nil))) (pg_name (i := 7) sc_determinant.nd rfl (.inr rfl)) (pss_one (ps_asg (pe_lc (own := [("j", 9)]) (g := gName 9) (tt := tYes) (by rfl) sc_determinant.nd (pi_range1 rfl Z.m_range (pa_cons (pv 2) pa_nil)) (blkOk_by (own := [("j", 9)]) (N := ["rows", "work", "size", "turn", "last", "k", "at", "i", "row", "j"]) (sc := defScope s_determinant) (by first | decide +kernel | kernel_rfl)) (fun _ _ _ _ _ => (pg_name (i := 9) sc_determinant.nd rfl (.inl rfl))) (fun _ _ _ _ _ => pts_nil) (fun _ _ _ _ _ => (pe_op op_fdivA (pe_op op_sub (pe_op op_mulW (pe_ix (r := rIxL K) ix_list (pe_ix (r := rIxL K) ix_list (pv 1) (pv 5) (fun _ _ => rfl)) (pv 5) (fun _ _ => rfl)) (pe_ix (r := rIxL K) ix_list (pe_ix (r := rIxL K) ix_list (pv 1) (pv 7) (fun _ _ => rfl)) (pv 9) (fun _ _ => rfl))) (pe_op op_mulW (pe_ix (r := rIxL K) ix_list (pe_ix (r := rIxL K) ix_list (pv 1) (pv 7) (fun _ _ => rfl)) (pv 5) (fun _ _ => rfl)) (pe_ix (r := rIxL K) ix_list (pe_ix (r := rIxL K) ix_list (pv 1) (pv 5) (fun _ _ => rfl)) (pv 9) (fun _ _ => rfl)))) (pv 4)))) (pg_sub (pv 1) (pv 7) set_list))))
      (pss_one (ps_set (i := 4) sc_determinant.nd rfl (.inr rfl) (pe_ix (r := rIxL K) ix_list (pe_ix (r := rIxL K) ix_list (pv 1) (pv 5) (fun _ _ => rfl)) (pv 5) (fun _ _ => rfl)))))))))
      (pss_one (ps_ret (pe_op op_mulW (pv 3) (pe_ix (r := rIxL K) ix_list (pe_ix (r := rIxL K) ix_list (pv 1) (pe_op op_sub (pv 2) pe_int) (fun _ _ => rfl)) (pe_op op_sub (pv 2) pe_int) (fun _ _ => rfl)))))))))), ?_⟩
    refine ⟨fun σ H' => ∃ wk : Addr, σ = [some (.ref a), some (.ref wk), none, none, none, none, none, none, none, none] ∧ Same H H' ∧ H wk = none ∧ WM H' wk n A, ?_, ?_⟩
    · refine ⟨_, rfl, a, rfl, ⟨_, SqL.of ea⟩, fun D nD => ?_⟩
      refine lc_list (xs := rs.map V.ref) (fun i H' => Same H H' ∧ ∃ ts : List Addr, H' D = some (.lst (ts.map V.ref)) ∧ ts.length = i ∧ ∀ k r, ts[k]? = some r → r ≠ D ∧ H' r = some (.lst (rowV n (A k)))) ⟨same_upd nD, [], upd_same, rfl, fun k r h => by cases h⟩ (fun i H' _ hP => SqL.of (hP.1 _ _ ea)) (fun i x H' hx hP => ?_) (fun H' hP => ?_)
      · obtain ⟨s1, ts, eD, tl, tg⟩ := hP
        rw [List.getElem?_map] at hx
        obtain ⟨r, er, rfl⟩ := Option.map_eq_some_iff.mp hx
        have hi := lt_of_get er
        refine ⟨rfl, ?_⟩
        unfold tYes
        refine iteT ?_
        refine ⟨_, rfl, r, _, rfl, .inr (SqT.of (s1 _ _ (rg _ _ er))), fun l nl => ?_⟩
        have lD : l ≠ D := fun z => by rw [z, eD] at nl; cases nl
        have s2 := s1.trans (same_upd (o := .lst (rowV n (A i))) nl)
        refine ⟨_, (upd_ne (fun z => lD z.symm)).trans eD, ?_, ?_, ts ++ [l], ?_, ?_, ?_⟩
        · rw [List.length_map, tl]
          exact small1000 (by omega)
        · intro y o hy
          have : y ≠ D := ne_of_none hy nD
          rw [upd_ne this]
          exact s2 _ _ hy
        · rw [upd_same, List.map_append]
          rfl
        · rw [List.length_append, tl]
          rfl
        · intro k r' hr
          rw [List.getElem?_append] at hr
          by_cases hk : k < ts.length
          · rw [if_pos hk] at hr
            obtain ⟨h1, h2⟩ := tg k r' hr
            refine ⟨h1, ?_⟩
            rw [upd_ne h1]
            exact same_upd nl _ _ h2
          · rw [if_neg hk] at hr
            have := lt_of_get hr
            have hk0 : k - ts.length = 0 := by
              rw [List.length_singleton] at this
              omega
            rw [hk0] at hr
            cases hr
            refine ⟨lD, ?_⟩
            rw [upd_ne lD, upd_same, show k = i by omega]
      · obtain ⟨s1, ts, eD, tl, tg⟩ := hP
        rw [List.length_map, rl] at tl
        exact ⟨D, rfl, s1, nD, ts, eD, tl, fun k r hr => (tg k r hr).2⟩
    intro σ H1 hW
    obtain ⟨wk, rfl, s1, nw, W1⟩ := hW
    obtain ⟨ws, ew, wl, wg⟩ := id W1
    refine ⟨_, rfl, wk, _, rfl, .inl (SqL.of ew), ?_⟩
    rw [List.length_map, wl]
    refine ⟨fun σ H' => ∃ (P W : Mx) (turn last : Int) (y5 y6 y7 : Option V), σ = [some (.ref a), some (.ref wk), some (.int n), some (.int turn), some (.int last), y5, y6, y7, none, none] ∧ Same H H' ∧ WM H' wk n W ∧ InvP n A (n - 1) P W turn last, ?_, ?_⟩
    · refine ⟨_, rfl, _, _, rfl, rfl, _, rfl, by omega, by omega, ?_⟩
      rw [show ((n : Int) - 1).toNat = n - 1 by omega]
      refine for_range (lo := 0) (n := n - 1) (fun i σ H' => ∃ (P W : Mx) (turn last : Int) (y5 y6 y7 : Option V), σ = [some (.ref a), some (.ref wk), some (.int n), some (.int turn), some (.int last), y5, y6, y7, none, none] ∧ Same H H' ∧ WM H' wk n W ∧ InvP n A i P W turn last) ⟨A, A, 1, 1, none, none, none, rfl, s1, W1, .inl rfl, Int.one_mul _, bA, rfl, by decide, fun i j _ _ _ => rfl⟩ (fun k σ H2 hk hP => ?_) (fun σ H2 hP => hP)
      obtain ⟨P, W, turn, last, y5, y6, y7, rfl, s2, W2, I2⟩ := hP
      rw [Int.zero_add]
      refine ⟨_, rfl, _, rfl, _, rfl, wk, n, k, k, W, rfl, W2, by omega, by omega, by omega, fun hz => ?_, fun at_ h1 h2 h3 => ?_⟩
      · have z : dt n A = 0 := by
          obtain ⟨_, e, _, el, e0, g⟩ := I2
          rw [← e, dt_none (k := k) n4 (by omega) P (by rw [← el]; exact e0) (fun i h1 h2 => by rw [← g i k h1 h2 (by omega)]; exact hz i h1 h2), Int.mul_zero]
        refine ⟨_, rfl, true, rfl, iteT ?_⟩
        have := q H2 s2
        rw [z] at this
        exact this
      · refine ⟨_, rfl, false, rfl, iteF ?_⟩
        refine ⟨fun σ H' => ∃ (P W : Mx) (turn : Int), σ = [some (.ref a), some (.ref wk), some (.int n), some (.int turn), some (.int last), some (.int k), some (.int at_), y7, none, none] ∧ Same H H' ∧ WM H' wk n W ∧ InvP n A k P W turn last ∧ W k k ≠ 0, ?_, ?_⟩
        · refine ⟨_, rfl, _, rfl, rfl, _, rfl, ite2 (fun e => ?_) (fun e => ?_)⟩
          · have ne : at_ ≠ k := fun z => by
              rw [z] at e
              rw [decide_eq_true rfl] at e
              cases e
            obtain ⟨ws, ew, wl, wg⟩ := id W2
            have ea' : ws[at_]? = some (ws[at_]'(by omega)) := List.getElem?_eq_getElem (by omega)
            have ek' : ws[k]? = some (ws[k]'(by omega)) := List.getElem?_eq_getElem (by omega)
            refine ⟨_, rfl, _, rfl, _, _, _, _, rfl, rfl, SqL.of ew, atI_nat (refget ea'), _, rfl, _, rfl, _, _, _, _, rfl, rfl, SqL.of ew, atI_nat (refget ek'), (show 2 ≤ sizeLine by decide), fun p np => ?_⟩
            have s3 : Same H2 (upd H2 p (.tup [.ref (ws[at_]'(by omega)), .ref (ws[k]'(by omega))])) := same_upd np
            have W3 := W2.same s3
            have W4 := W3.put n1 (s3 _ _ (wg _ _ ea')) (i := k) (s3 _ _ ew)
            have k4 := (W3.ne n1 (s3 _ _ (wg _ _ ek')))
            have e4 := (upd_ne (o := .lst ((ws.map V.ref).set k (V.ref (ws[at_]'(by omega))))) k4).trans (s3 _ _ (wg _ _ ek'))
            have W5 := W4.put n1 e4 (i := at_) upd_same
            refine ⟨p, _, rfl, SqT.of upd_same, rfl, _, _, rfl, _, rfl, _, rfl, wk, _, k, k, rfl, rfl, s3 _ _ ew, ixNn (by rw [List.length_map]; omega), _, _, rfl, _, rfl, _, rfl, wk, _, at_, at_, rfl, rfl, upd_same, ixNn (by rw [List.length_set, List.length_map]; omega), rfl, ?_⟩
            refine ⟨_, rfl, _, rfl, swp k at_ P, swp k at_ W, -turn, rfl, ?_, ?_, inv_swp n4 (by omega) h2 I2, ?_⟩
            · exact same_new nw (same_new nw (s2.trans s3))
            · refine W5.congr fun i j _ _ => ?_
              unfold swp sw
              by_cases z1 : i = at_
              · rw [if_pos z1, if_neg (by omega), if_pos z1]
              · rw [if_neg z1]
                by_cases z2 : i = k
                · rw [if_pos z2, if_pos z2]
                · rw [if_neg z2, if_neg z2, if_neg z1]
            · unfold swp sw
              rw [if_pos rfl]
              exact h3
          · have eq : at_ = k := by
              by_cases z : at_ = k
              · exact z
              · exact absurd (by rw [dec_int]; simp; omega) e
            refine ⟨P, W, turn, rfl, s2, W2, I2, ?_⟩
            rw [← eq] at h3 ⊢
            exact h3
        intro σ H3 hW
        obtain ⟨P, W, turn, rfl, s3, W3, I3, wkk⟩ := hW
        have I3' := I3
        obtain ⟨i1, i2, i3, i4, i5, i6⟩ := I3'
        have b58 : ∀ i j, i < n → j < n → (mn k P i j).natAbs < 2 ^ 60 := fun i j hi hj => Nat.lt_of_le_of_lt (mn_ab i3 (Nat.le_refl _) (by omega) (by omega) hi hj) (by decide)
        refine ⟨fun σ H' => ∃ (y7 : Option V), σ = [some (.ref a), some (.ref wk), some (.int n), some (.int turn), some (.int last), some (.int k), some (.int at_), y7, none, none] ∧ Same H H' ∧ WM H' wk n (nx6 k (n - (k + 1)) P W), ?_, ?_⟩
        · refine ⟨_, rfl, _, _, rfl, rfl, _, rfl, _, _, rfl, ⟨by omega, by omega, by omega, by omega⟩, ?_⟩
          rw [show ((n : Int) - ((k : Int) + 1)).toNat = n - (k + 1) by omega]
          refine for_range (lo := (k : Int) + 1) (n := n - (k + 1)) (fun m σ H' => ∃ (y7 : Option V), σ = [some (.ref a), some (.ref wk), some (.int n), some (.int turn), some (.int last), some (.int k), some (.int at_), y7, none, none] ∧ Same H H' ∧ WM H' wk n (nx6 k m P W)) ⟨_, rfl, s3, W3.congr fun i j _ _ => by unfold nx6; rw [if_neg (by omega)]⟩ (fun m σ H4 hm hP => ?_) (fun σ H4 hP => hP)
          obtain ⟨y7, rfl, s4, W4⟩ := hP
          rw [show (k : Int) + 1 + (m : Int) = ((k + 1 + m : Nat) : Int) by omega]
          have hi : k + 1 + m < n := by omega
          obtain ⟨ws, ew, wl, wg⟩ := id W4
          have ek' : ws[k]? = some (ws[k]'(by omega)) := List.getElem?_eq_getElem (by omega)
          have ei' : ws[k + 1 + m]? = some (ws[k + 1 + m]'(by omega)) := List.getElem?_eq_getElem (by omega)
          have gk := wg _ _ ek'
          have gi := wg _ _ ei'
          rw [show nx6 k m P W k = W k by unfold nx6; rw [if_neg (by omega)]] at gk
          rw [show nx6 k m P W (k + 1 + m) = W (k + 1 + m) by unfold nx6; rw [if_neg (by omega)]] at gi
          refine ⟨_, rfl, n, rfl, by omega, by omega, fun D nD => ?_⟩
          refine lc_range (lo := 0) (n := (n : Int).toNat) (fun j H' => Same H4 H' ∧ H' D = some (.lst ((rowV n (mn (k + 1) P (k + 1 + m))).take j))) ⟨same_upd nD, by rw [upd_same]; rfl⟩ (fun j H' hj hP => ?_) (fun H' hP => ?_)
          · obtain ⟨s5, eD⟩ := hP
            have hj : j < n := by omega
            rw [Int.zero_add]
            refine ⟨rfl, ?_⟩
            unfold tYes
            refine iteT ?_
            have e1 := i6 k k (by omega) (by omega) (by omega)
            have e2 := i6 (k + 1 + m) j (by omega) (by omega) hj
            have e3 := i6 (k + 1 + m) k (by omega) (by omega) (by omega)
            have e4 := i6 k j (by omega) (by omega) hj
            have ed : (W k k * W (k + 1 + m) j - W (k + 1 + m) k * W k j).fdiv last = mn (k + 1) P (k + 1 + m) j := by
              rw [e1, e2, e3, e4, mn_step (by omega), ← i4]
              exact Int.mul_fdiv_cancel_left _ i5
            refine ⟨_, rfl, _, rfl, _, _, _, _, rfl, rfl, SqL.of (s5 _ _ ew), atI_nat (refget ek'), _, rfl, _, _, _, _, rfl, rfl, SqL.of (s5 _ _ gk), atI_nat (rowV_get _ (by omega)), _, rfl, _, rfl, _, _, _, _, rfl, rfl, SqL.of (s5 _ _ ew), atI_nat (refget ei'), _, rfl, _, _, _, _, rfl, rfl, SqL.of (s5 _ _ gi), atI_nat (rowV_get _ hj), _, _, rfl, rfl, cmul (a := 60) (b := 60) (by rw [e1]; exact b58 _ _ (by omega) (by omega)) (by rw [e2]; exact b58 _ _ hi hj),
              _, rfl, _, rfl, _, _, _, _, rfl, rfl, SqL.of (s5 _ _ ew), atI_nat (refget ei'), _, rfl, _, _, _, _, rfl, rfl, SqL.of (s5 _ _ gi), atI_nat (rowV_get _ (by omega)), _, rfl, _, rfl, _, _, _, _, rfl, rfl, SqL.of (s5 _ _ ew), atI_nat (refget ek'), _, rfl, _, _, _, _, rfl, rfl, SqL.of (s5 _ _ gk), atI_nat (rowV_get _ hj), _, _, rfl, rfl, cmul (a := 60) (b := 60) (by rw [e3]; exact b58 _ _ hi (by omega)) (by rw [e4]; exact b58 _ _ (by omega) hj), _, _, rfl, rfl, _, rfl, _, _, rfl, rfl, ⟨i5, ?_⟩, ?_⟩
            · refine (Nat.log2_lt (by omega)).mpr (Nat.lt_of_le_of_lt (m := 240000000000000000) ?_ ?_)
              · rw [i4]; exact ld_ab n1 n4 i3 (by omega)
              · exact Nat.lt_of_lt_of_le (show 240000000000000000 < 2 ^ 60 by decide) (Nat.pow_le_pow_right (by decide) (by decide))
            · refine ⟨_, eD, ?_, ?_, ?_⟩
              · rw [List.length_take]
                exact Nat.lt_of_le_of_lt (Nat.min_le_left _ _) (small1000 (by omega))
              · intro y o hy
                rw [upd_ne (ne_of_none hy nD)]
                exact s5 _ _ hy
              · rw [upd_same, take_get (rowV_get _ hj), ← ed]
          · obtain ⟨s5, eD⟩ := hP
            rw [List.take_of_length_le (by rw [rowV_len]; omega)] at eD
            refine ⟨_, rfl, _, rfl, wk, _, _, k + 1 + m, rfl, rfl, s5 _ _ ew, ixNn (by rw [List.length_map]; omega), ?_⟩
            refine ⟨_, rfl, same_new nw (s4.trans s5), ?_⟩
            refine ((W4.same s5).put n1 eD (i := k + 1 + m) (s5 _ _ ew)).congr fun i j _ _ => ?_
            unfold nx6
            by_cases z : i = k + 1 + m
            · rw [if_pos z, if_pos (by omega), z]
            · rw [if_neg z]
              by_cases z2 : k + 1 ≤ i ∧ i < k + 1 + m
              · rw [if_pos z2, if_pos (by omega)]
              · rw [if_neg z2, if_neg (by omega)]
        intro σ H4 hW
        obtain ⟨y7, rfl, s4, W4⟩ := hW
        obtain ⟨ws, ew, wl, wg⟩ := id W4
        have ek' : ws[k]? = some (ws[k]'(by omega)) := List.getElem?_eq_getElem (by omega)
        have gk := wg _ _ ek'
        rw [show nx6 k (n - (k + 1)) P W k = W k by unfold nx6; rw [if_neg (by omega)]] at gk
        refine ⟨_, rfl, _, rfl, _, _, _, _, rfl, rfl, SqL.of ew, atI_nat (refget ek'), _, rfl, _, _, _, _, rfl, rfl, SqL.of gk, atI_nat (rowV_get _ (by omega)), ?_⟩
        refine ⟨P, _, turn, W k k, _, _, _, rfl, s4, W4, i1, i2, i3, ?_, wkk, fun i j h1 h2 h3 => ?_⟩
        · exact i6 k k (by omega) (by omega) (by omega)
        · unfold nx6
          rw [if_pos (by omega)]
    intro σ H2 hW
    obtain ⟨P, W, turn, last, y5, y6, y7, rfl, s2, W2, i1, i2, i3, i4, i5, i6⟩ := hW
    obtain ⟨ws, ew, wl, wg⟩ := id W2
    have ee : ws[n - 1]? = some (ws[n - 1]'(by omega)) := List.getElem?_eq_getElem (by omega)
    have e0 := i6 (n - 1) (n - 1) (by omega) (by omega) (by omega)
    have e1 : turn * W (n - 1) (n - 1) = dt n A := by rw [e0]; exact i2
    have en : ((n : Int) - 1) = ((n - 1 : Nat) : Int) := by omega
    have r := q H2 s2
    rw [← e1] at r
    refine ⟨_, rfl, _, rfl, _, rfl, _, _, rfl, rfl, _, _, _, _, rfl, rfl, SqL.of ew, (by rw [en]; exact atI_nat (refget ee)), _, rfl, _, _, rfl, rfl, _, _, _, _, rfl, rfl, SqL.of (wg _ _ ee), (by rw [en]; exact atI_nat (rowV_get _ (by omega))), _, _, rfl, rfl, cmul (a := 2) (b := 60) (by omega) (by rw [e0]; exact Nat.lt_of_le_of_lt (mn_ab i3 (Nat.le_refl _) (by omega) (by omega) (by omega) (by omega)) (by decide)), r⟩

/-! ### the law's matrices -/
theorem ne_pool {H : Hp} {p D : Addr} (hP : Pl H p) (nD : H D = none) : D ≠ p := by
  obtain ⟨q0, h0⟩ := hP.q
  exact (h0.ne_free nD).1.symm
theorem Kp.refl (p : Addr) (H : Hp) : Kp p H H := ⟨Keep.refl p H, fun _ h => h⟩
abbrev s__law_matrix : Stmt := topS 8
theorem sc__law_matrix : FnScope ["pool", "many", "size", "rows", "k", "a", "other", "j"] ["pool", "many", "size"] (defScope s__law_matrix) := ⟨rfl, rfl, rfl, by decide +kernel, rfl, by decide +kernel, by decide +kernel⟩
/-- the bound of the entries of the first i rows -/
def MB (i : Nat) (v : List Int) : Prop := ∀ x ∈ v, 2 * x.natAbs + 2 ≤ 5 * 2 ^ i
theorem MB.up {i j : Nat} {v : List Int} (h : MB i v) (l : i ≤ j) : MB j v := fun x hx => by
  have := h x hx
  have : 2 ^ i ≤ 2 ^ j := Nat.pow_le_pow_right (by decide) l
  omega
def spMatrix : Sp := fun vs H Q _ => ∃ (p : Addr) (m s : Nat), vs = [.ref p, .int m, .int s] ∧ m ≤ 8 ∧ s ≤ 10 ∧ Pl H p ∧ ∀ (H' : Hp) (l : Addr) (M : List (List Int)), Pl H' p → Kp p H H' → l ≠ p → H l = none → VL H' l M → M.length = m → (∀ v ∈ M, v.length = s) → (∀ v ∈ M, MB m v) → Q (.ref l) H'
/-- Kp, with what is fresh staying out -/
theorem mem_push {α : Type} {xs : List α} {x : α} {R : α → Prop} (h : ∀ v ∈ xs, R v) (hx : R x) : ∀ v ∈ xs ++ [x], R v := fun v hv => by
  rcases List.mem_append.mp hv with h1 | h1
  · exact h v h1
  · rw [List.mem_singleton.mp h1]; exact hx
theorem kp_new {p D : Addr} {H H' : Hp} {o : HO} (nD : H D = none) (hP : Pl H p) (k : Kp p H H') : Kp p H (upd H' D o) := by
  obtain ⟨q0, h0⟩ := hP.q
  have nq := (h0.ne_free nD).1
  refine ⟨fun x y hx hy => ?_, fun q hq => ?_⟩
  · rw [upd_ne (ne_of_none hy nD)]
    exact k.k x y hx hy
  · obtain ⟨l, e⟩ := k.h q hq
    exact ⟨l, by rw [upd_ne nq]; exact e⟩
theorem pl_new {p D : Addr} {H H' : Hp} {o : HO} (nD : H D = none) (hP : Pl H p) (k : Kp p H H') (hP' : Pl H' p) : Pl (upd H' D o) p := by
  obtain ⟨q0, h0⟩ := hP.q
  have := h0.ne_free nD
  exact ((h0.kp k hP').upd this.1 this.2).pl
theorem ok_matrix {f : Addr} {fd : FuncData} {k : Nat} (F : Fun K "_law_matrix" "_law_matrix" s__law_matrix f fd) (Z : Glb mg)
    (C_law_draw : Call P w K mg base k "_law_draw" ["pool", "many"] spDraw) : FnOk P w K mg base CX0 (k + 1) f fd ["pool", "many", "size"] spMatrix := by
  refine F.ok sc__law_matrix (fun vs H Q E h => ?_) (fun cdv A outer s H vs Q E hr h => ?_)
  · obtain ⟨p, m, s, rfl, _⟩ := h
    rfl
  · obtain ⟨p, m, s, rfl, m8, s10, hP, q⟩ := h
    refine ⟨_, (pss_cons (ps_set (i := 3) sc__law_matrix.nd rfl (.inl rfl) (pe_lst pa_nil))
      (pss_cons (ps_for PassesOwn.never rfl (pi_range1 rfl Z.m_range (pa_cons (pv 1) pa_nil)) (pg_name (i := 4) sc__law_matrix.nd rfl (.inl rfl)) (pss_one (ps_if (PW.pt (pw_and (pt_cmpR op_gt (pv 4) pe_int (nomark _)) (pw_and1 (pt_cmpR op_eq (pe_call C_law_draw.G hr (by rfl) C_law_draw.m C_law_draw.kp C_law_draw.b .nil pass0 (pa_cons (pv 0) (pa_cons pe_int pa_nil))) pe_int (nomark _))))) (pss_cons (ps_set (i := 5) sc__law_matrix.nd rfl (.inr rfl) (pe_op op_sub (pe_call C_law_draw.G hr (by rfl) C_law_draw.m C_law_draw.kp C_law_draw.b .nil pass0 (pa_cons (pv 0) (pa_cons pe_int pa_nil))) pe_int))
      (pss_cons (ps_set (i := 6) sc__law_matrix.nd rfl (.inr rfl) (pe_ix (r := rIxL K) ix_list (pv 3) (pe_call C_law_draw.G hr (by rfl) C_law_draw.m C_law_draw.kp C_law_draw.b .nil pass0 (pa_cons (pv 0) (pa_cons (pe_callB call_len_seq (by rfl) Z.m_len PySem.boot_len (pa_cons (pv 3) pa_nil)) pa_nil))) (fun _ _ => rfl)))
      (pss_one (ps_expr (pe_bm PySem.F.plainAttrs_list PySem.F.slot_list_append PySem.F.type_list_append mt_append (pv 3) (pa_cons (pe_callTy call_tuple_of (by rfl) Z.m_tuple (by decide +kernel) (pa_cons (pe_lc (own := [("j", 7)]) (g := gName 7) (tt := tYes) (by rfl) sc__law_matrix.nd (pi_range1 rfl Z.m_range (pa_cons (pv 2) pa_nil)) (blkOk_by (own := [("j", 7)]) (N := ["pool", "many", "size", "rows", "k", "a", "other", "j"]) (sc := defScope s__law_matrix) (by first | decide +kernel | kernel_rfl)) (fun _ _ _ _ _ => (pg_name (i := 7) sc__law_matrix.nd rfl (.inl rfl))) (fun _ _ _ _ _ => pts_nil) (fun _ _ _ _ _ => (pe_op op_add (pe_op op_mulW (pv 5) (pe_ix (r := rIxT K) ix_tup (pv 6) (pv 7) (fun _ _ => rfl))) (pe_callTy call_int1 (by rfl) Z.m_int (by decide +kernel) (pa_cons (pe_cmpR op_eq (pe_call C_law_draw.G hr (by rfl) C_law_draw.m C_law_draw.kp C_law_draw.b .nil pass0 (pa_cons (pv 0) (pa_cons pe_int pa_nil))) pe_int (nomark _)) pa_nil))))) pa_nil)) pa_nil)))))) (pss_one (ps_expr (pe_bm PySem.F.plainAttrs_list PySem.F.slot_list_append PySem.F.type_list_append mt_append (pv 3) (pa_cons (pe_callTy call_tuple_of (by rfl) Z.m_tuple (by decide +kernel) (pa_cons (pe_lc (own := [("j", 7)]) (g := gName 7) (tt := tYes) (by rfl) sc__law_matrix.nd (pi_range1 rfl Z.m_range (pa_cons (pv 2) pa_nil)) (blkOk_by (own := [("j", 7)]) (N := ["pool", "many", "size", "rows", "k", "a", "other", "j"]) (sc := defScope s__law_matrix) (by first | decide +kernel | kernel_rfl)) (fun _ _ _ _ _ => (pg_name (i := 7) sc__law_matrix.nd rfl (.inl rfl))) (fun _ _ _ _ _ => pts_nil) (fun _ _ _ _ _ => (pe_op op_sub (pe_call C_law_draw.G hr (by rfl) C_law_draw.m C_law_draw.kp C_law_draw.b .nil pass0 (pa_cons (pv 0) (pa_cons pe_int pa_nil))) pe_int))) pa_nil)) pa_nil)))))))
      (pss_one (ps_ret (pv 3))))), ?_⟩
    refine ⟨Nat.zero_le _, fun l nl => ?_⟩
    have lp : l ≠ p := by
      obtain ⟨q0, h0⟩ := hP.q
      exact (h0.ne_free nl).1.symm
    refine ⟨_, rfl, m, rfl, by omega, by omega, ?_⟩
    refine for_range (lo := 0) (n := m) (fun i σ H' => ∃ (M : List (List Int)) (y4 y5 y6 : Option V), σ = [some (.ref p), some (.int m), some (.int s), some (.ref l), y4, y5, y6, none] ∧ Pl H' p ∧ Kp p H H' ∧ VL H' l M ∧ M.length = i ∧ (∀ v ∈ M, v.length = s) ∧ (∀ v ∈ M, MB i v))
      ⟨[], none, none, none, rfl, pl_new nl hP (Kp.refl _ _) hP, kp_new nl hP (Kp.refl _ _), vl0, rfl, (fun v h => nomatch h), (fun v h => nomatch h)⟩ (fun i σ H1 hi hW => ?_) (fun σ H1 hW => ?_)
    · obtain ⟨M, y4, y5, y6, rfl, P1, K1, V1, lM, lv, bM⟩ := hW
      have pow1 : 2 ^ (i + 1) = 2 * 2 ^ i := by rw [Nat.pow_succ, Nat.mul_comm]
      have pow0 : 1 ≤ 2 ^ i := Nat.one_le_two_pow
      refine ⟨_, rfl, _, _, rfl, rfl, _, rfl, ite2 (fun e1 => ?_) (fun e1 => ?_)⟩
      · have i1 : 1 ≤ i := by
          have := of_decide_eq_true e1
          omega
        refine ⟨_, rfl, p, _, rfl, by decide, by decide, P1, fun v0 H2 l2 u2 P2 B2 => ⟨rfl, _, rfl, ite2 (fun e2 => ?_) (fun e2 => ?_)⟩⟩
        · have K2 := K1.trans B2.kp
          have V2 := V1.kp P1 lp B2.keep
          refine ⟨_, rfl, p, _, rfl, by decide, by decide, P2, fun a0 H3 l3 u3 P3 B3 => ⟨_, _, rfl, rfl, ?_⟩⟩
          have K3 := K2.trans B3.kp
          have V3 := V2.kp P2 lp B3.keep
          obtain ⟨rs3, e3, lr3, g3⟩ := id V3
          refine ⟨_, rfl, _, rfl, _, rfl, l, _, rfl, .inl (SqL.of e3), p, _, rfl, by rw [List.length_map]; omega, by rw [List.length_map]; exact Nat.lt_of_lt_of_le (show rs3.length < 2 ^ 4 by omega) (Nat.pow_le_pow_right (by decide) (by decide)), P3, fun o0 H4 l4 u4 P4 B4 => ?_⟩
          have K4 := K3.trans B4.kp
          have V4 := V3.kp P3 lp B4.keep
          obtain ⟨on, rfl⟩ := Int.eq_ofNat_of_zero_le l4
          rw [List.length_map] at u4
          obtain ⟨rs4, ro, e4, lr4, hro, Vo⟩ := V4.at (i := on) (by omega)
          refine ⟨_, _, _, _, rfl, rfl, SqL.of e4, atI_nat (get_ref hro), ?_⟩
          have lo : (M[on]'(by omega)).length = s := lv _ (List.getElem_mem _)
          have bo : MB i (M[on]'(by omega)) := bM _ (List.getElem_mem _)
          generalize M[on]'(by omega) = ov at *
          refine ⟨_, rfl, .inl ⟨rfl, _, SqL.of e4⟩, _, rfl, s, rfl, by omega, by omega, fun D nD => ?_⟩
          refine lc_range (lo := 0) (n := s) (fun j H5 => Dr p H4 D 20 j H5 ∧ ∃ ns : List Int, H5 D = some (.lst (ns.map V.int)) ∧ MB (i + 1) ns) ⟨dr0 P4 nD, [], upd_same, fun x hx => nomatch hx⟩ (fun j H5 hj hW => ?_) (fun H5 hW => ?_)
          · obtain ⟨hW, zs, ez, bz⟩ := hW
            refine ⟨rfl, ?_⟩
            unfold tYes
            refine iteT ?_
            have P5 := hW.1.choose_spec.2.1.pl
            have Vo5 := Vo.keep P4 hW.kp.k
            have ej : ov[j]? = some (ov[j]'(by omega)) := List.getElem?_eq_getElem (by omega)
            have bj := bo _ (List.getElem_mem (l := ov) (n := j) (by omega))
            have p8 : 2 ^ i ≤ 2 ^ 8 := Nat.pow_le_pow_right (by decide) (by omega)
            have e0 : (0 : Int) + (j : Int) = ((j : Nat) : Int) := Int.zero_add _
            rw [e0]
            generalize ov[j]'(by omega) = oj at *
            have bm : ((a0 - 2) * oj).natAbs ≤ 2 * oj.natAbs := by
              rw [Int.natAbs_mul]
              exact Nat.mul_le_mul_right _ (by omega)
            refine ⟨_, rfl, _, rfl, _, rfl, _, _, _, _, rfl, rfl, SqT.of Vo5, atI_nat (get_map ej), _, _, rfl, rfl, cmul (a := 5) (b := 12) (by omega) (by omega), _, rfl, p, _, rfl, by decide, by decide, P5, fun n H6 l6 u6 P6 B6 => ⟨rfl, .inr ⟨_, rfl, _, _, rfl, rfl, ?_⟩⟩⟩
            obtain ⟨x, hx⟩ : ∃ x : Int, x = (a0 - 2) * oj + (if decide (V.int n = V.int 0) = true then 1 else 0) := ⟨_, rfl⟩
            have bx : 2 * x.natAbs + 2 ≤ 5 * 2 ^ (i + 1) := by
              have : x.natAbs ≤ ((a0 - 2) * oj).natAbs + 1 := by
                rw [hx]
                split <;> omega
              omega
            obtain ⟨acc, h1, h2, h3⟩ := dr_step (n := x) nD P4 hW B6 P6 (by
              have : 2 ^ (i + 1) ≤ 2 ^ 9 := Nat.pow_le_pow_right (by decide) (by omega)
              omega)
            refine ⟨acc, h1, small1000 (by omega), (by rw [hx] at h3; exact h3), ?_⟩
            have e0 : acc = zs.map V.int := by
              have := (B6.1 D (ne_pool P4 nD)).trans ez
              rw [h1] at this
              exact HO.lst.inj (Option.some.inj this)
            exact ⟨zs ++ [x], by rw [upd_same, e0, List.map_append, hx]; rfl, fun y hy => by
              rcases List.mem_append.mp hy with h | h
              · exact bz y h
              · rw [List.mem_singleton.mp h]; exact bx⟩
          · obtain ⟨hW, zs, ez, bz⟩ := hW
            have K5 := hW.kp
            obtain ⟨⟨q3, _, hq3, _⟩, _, xs, eD, hlen, hB⟩ := hW
            have exz : xs = zs := by
              rw [ez] at eD
              have := HO.lst.inj (Option.some.inj eD)
              exact (List.map_inj_right (fun a b h => by injection h)).mp this.symm
            subst exz
            refine ⟨D, _, rfl, .inl ⟨SqL.of eD, fun t nt => ?_⟩⟩
            have st := same_upd (o := .tup (xs.map V.int)) nt
            have V6 := (V4.kp P4 lp K5.k).same st
            obtain ⟨rs6, e6, l6, g6⟩ := id V6
            refine ⟨l, _, _, rfl, rfl, e6, by rw [List.length_map, l6]; exact small1000 (by omega), ?_⟩
            have K7 := (K4.trans K5).trans (Same.kp st)
            exact ⟨M ++ [xs], _, _, _, rfl, pl_new nl hP K7 (hq3.pl.same st), kp_new nl hP K7, V6.push upd_same e6, by rw [List.length_append, lM]; rfl, mem_push lv hlen, mem_push (fun v hv => (bM v hv).up (by omega)) bz⟩
        · have K2 := K1.trans B2.kp
          have V2 := V1.kp P1 lp B2.keep
          obtain ⟨rs, eL, lR, gR⟩ := id V2
          refine ⟨_, rfl, .inl ⟨rfl, _, SqL.of eL⟩, _, rfl, s, rfl, by omega, by omega, fun D nD => ?_⟩
          refine lc_range (lo := 0) (n := s) (fun j H5 => Dr p H2 D 20 j H5 ∧ ∃ ns : List Int, H5 D = some (.lst (ns.map V.int)) ∧ MB (i + 1) ns) ⟨dr0 P2 nD, [], upd_same, (fun x hx => nomatch hx)⟩ (fun j H3 hj hW => ?_) (fun H3 hW => ?_)
          · refine ⟨rfl, ?_⟩
            unfold tYes
            refine iteT ?_
            obtain ⟨hW, zs, ez, bz⟩ := hW
            have P5 := hW.1.choose_spec.2.1.pl
            refine ⟨_, rfl, p, _, rfl, by decide, by decide, P5, fun n H4 l4 u4 P4 B4 => ⟨_, _, rfl, rfl, ?_⟩⟩
            obtain ⟨acc, h1, h2, h3⟩ := dr_step (n := n - 4) nD P2 hW B4 P4 (by omega)
            refine ⟨acc, h1, small1000 (by omega), h3, ?_⟩
            have e0 : acc = zs.map V.int := by
              have := (B4.1 D (ne_pool P2 nD)).trans ez
              rw [h1] at this
              exact HO.lst.inj (Option.some.inj this)
            exact ⟨zs ++ [n - 4], by rw [upd_same, e0, List.map_append]; rfl, mem_push (R := fun x : Int => 2 * x.natAbs + 2 ≤ 5 * 2 ^ (i + 1)) bz (by omega)⟩
          · obtain ⟨hW, zs, ez, bz⟩ := hW
            have K3 := hW.kp
            obtain ⟨⟨q3, _, hq3, _⟩, _, xs, eD, hlen, hB⟩ := hW
            have exz : xs = zs := by
              rw [ez] at eD
              have := HO.lst.inj (Option.some.inj eD)
              exact (List.map_inj_right (fun a b h => by injection h)).mp this.symm
            subst exz
            refine ⟨D, _, rfl, .inl ⟨SqL.of eD, fun t nt => ?_⟩⟩
            have st := same_upd (o := .tup (xs.map V.int)) nt
            have V3 := (V2.kp P2 lp K3.k).same st
            obtain ⟨rs3, e3, l3, g3⟩ := id V3
            refine ⟨l, _, _, rfl, rfl, e3, by rw [List.length_map, l3]; exact small1000 (by omega), ?_⟩
            have K5 := (K2.trans K3).trans (Same.kp st)
            exact ⟨M ++ [xs], _, _, _, rfl, pl_new nl hP K5 (hq3.pl.same st), kp_new nl hP K5, V3.push upd_same e3, by rw [List.length_append, lM]; rfl, mem_push lv hlen, mem_push (fun v hv => (bM v hv).up (by omega)) bz⟩
      · refine iteF ?_
        obtain ⟨rs, eL, lR, gR⟩ := id V1
        refine ⟨_, rfl, .inl ⟨rfl, _, SqL.of eL⟩, _, rfl, s, rfl, by omega, by omega, fun D nD => ?_⟩
        refine lc_range (lo := 0) (n := s) (fun j H5 => Dr p H1 D 20 j H5 ∧ ∃ ns : List Int, H5 D = some (.lst (ns.map V.int)) ∧ MB (i + 1) ns) ⟨dr0 P1 nD, [], upd_same, (fun x hx => nomatch hx)⟩ (fun j H3 hj hW => ?_) (fun H3 hW => ?_)
        · refine ⟨rfl, ?_⟩
          unfold tYes
          refine iteT ?_
          obtain ⟨hW, zs, ez, bz⟩ := hW
          have P5 := hW.1.choose_spec.2.1.pl
          refine ⟨_, rfl, p, _, rfl, by decide, by decide, P5, fun n H4 l4 u4 P4 B4 => ⟨_, _, rfl, rfl, ?_⟩⟩
          obtain ⟨acc, h1, h2, h3⟩ := dr_step (n := n - 4) nD P1 hW B4 P4 (by omega)
          refine ⟨acc, h1, small1000 (by omega), h3, ?_⟩
          have e0 : acc = zs.map V.int := by
            have := (B4.1 D (ne_pool P1 nD)).trans ez
            rw [h1] at this
            exact HO.lst.inj (Option.some.inj this)
          exact ⟨zs ++ [n - 4], by rw [upd_same, e0, List.map_append]; rfl, mem_push (R := fun x : Int => 2 * x.natAbs + 2 ≤ 5 * 2 ^ (i + 1)) bz (by omega)⟩
        · obtain ⟨hW, zs, ez, bz⟩ := hW
          have K3 := hW.kp
          obtain ⟨⟨q3, _, hq3, _⟩, _, xs, eD, hlen, hB⟩ := hW
          have exz : xs = zs := by
            rw [ez] at eD
            have := HO.lst.inj (Option.some.inj eD)
            exact (List.map_inj_right (fun a b h => by injection h)).mp this.symm
          subst exz
          refine ⟨D, _, rfl, .inl ⟨SqL.of eD, fun t nt => ?_⟩⟩
          have st := same_upd (o := .tup (xs.map V.int)) nt
          have V3 := (V1.kp P1 lp K3.k).same st
          obtain ⟨rs3, e3, l3, g3⟩ := id V3
          refine ⟨l, _, _, rfl, rfl, e3, by rw [List.length_map, l3]; exact small1000 (by omega), ?_⟩
          have K5 := (K1.trans K3).trans (Same.kp st)
          exact ⟨M ++ [xs], _, _, _, rfl, pl_new nl hP K5 (hq3.pl.same st), kp_new nl hP K5, V3.push upd_same e3, by rw [List.length_append, lM]; rfl, mem_push lv hlen, mem_push (fun v hv => (bM v hv).up (by omega)) bz⟩
    · obtain ⟨M, y4, y5, y6, rfl, P1, K1, V1, lM, lv, bM⟩ := hW
      exact ⟨_, rfl, q H1 l M P1 K1 lp nl V1 lM lv bM⟩

/-! ### the orders of a list -/
theorem shapedL_ints (ns : List Int) (h : ns.length ≤ 1000) : SeqAt.shaped (.list (ns.map PyData.int)) = true := by
  unfold SeqAt.shaped
  rw [Bool.and_eq_true]
  refine ⟨?_, ?_⟩
  · rw [PyData.canLay0, lay_ints]
  · rw [decide_eq_true_iff, PyData.depth]
    have := depth_ints ns
    omega
theorem getD_at {α : Type} {xs : List α} {i : Nat} {d : α} (h : i < xs.length) : xs.getD i d = xs[i] := by
  rw [List.getD_eq_getElem?_getD, List.getElem?_eq_getElem h]; rfl
def ordP (k : Nat) (xs : List Int) (o : List Int × Int) : List Int × Int := ([xs.getD k 0] ++ o.1, o.2 - 2 * o.2 * ((k % 2 : Nat) : Int))
def ords : Nat → List Int → List (List Int × Int)
  | 0, _ => [([], 1)]
  | n + 1, xs => (List.range xs.length).flatMap fun k => (ords n (xs.take k ++ xs.drop (k + 1))).map (ordP k xs)
theorem rest_len {xs : List Int} {n k : Nat} (h : xs.length = n + 1) (hk : k < n + 1) : (xs.take k ++ xs.drop (k + 1)).length = n := by
  rw [List.length_append, List.length_take, List.length_drop]
  omega
theorem ords_sign : ∀ (n : Nat) (xs : List Int), xs.length = n → ∀ o ∈ ords n xs, (o.2 = 1 ∨ o.2 = -1) ∧ o.1.length = n
  | 0, _, _, o, h => by
    rw [ords, List.mem_singleton] at h
    subst h
    exact ⟨.inl rfl, rfl⟩
  | n + 1, xs, hl, o, h => by
    rw [ords, List.mem_flatMap] at h
    obtain ⟨k, hk, h⟩ := h
    obtain ⟨o', h1, rfl⟩ := List.mem_map.mp h
    have hk := List.mem_range.mp hk
    obtain ⟨a, b⟩ := ords_sign n _ (rest_len hl (by omega)) o' h1
    refine ⟨?_, ?_⟩
    · show o'.2 - 2 * o'.2 * _ = 1 ∨ o'.2 - 2 * o'.2 * _ = -1
      have : k % 2 = 0 ∨ k % 2 = 1 := by omega
      rcases this with e | e <;> rw [e] <;> rcases a with a | a <;> rw [a] <;> decide
    · show ([_] ++ o'.1).length = n + 1
      rw [List.length_append, b]
      exact Nat.add_comm 1 n
def accK (n : Nat) (xs : List Int) (k : Nat) : List (List Int × Int) := (List.range k).flatMap fun k => (ords n (xs.take k ++ xs.drop (k + 1))).map (ordP k xs)
theorem accK_succ (n : Nat) (xs : List Int) (k : Nat) : accK n xs (k + 1) = accK n xs k ++ (ords n (xs.take k ++ xs.drop (k + 1))).map (ordP k xs) := by
  unfold accK
  rw [List.range_succ, List.flatMap_append, List.flatMap_singleton]
theorem ords_len : ∀ (n : Nat) (xs : List Int), xs.length = n → n ≤ 4 → (ords n xs).length ≤ 4 ^ n
  | 0, _, _, _ => Nat.le_refl 1
  | n + 1, xs, hl, h4 => by
    have : ∀ k, k ≤ n + 1 → (accK n xs k).length ≤ k * 4 ^ n := by
      intro k
      induction k with
      | zero => intro _; exact Nat.zero_le _
      | succ k ih =>
        intro hk
        have h1 := ih (by omega)
        have h2 := ords_len n _ (rest_len hl (k := k) (by omega)) (by omega)
        rw [accK_succ, List.length_append, List.length_map, Nat.succ_mul]
        omega
    have h := this (n + 1) (Nat.le_refl _)
    have e : accK n xs (n + 1) = ords (n + 1) xs := by rw [ords, hl]; rfl
    rw [e] at h
    refine Nat.le_trans h ?_
    rw [Nat.pow_succ, Nat.mul_comm]
    exact Nat.mul_le_mul_left _ h4
theorem accK_len {n : Nat} {xs : List Int} (hl : xs.length = n + 1) (h4 : n + 1 ≤ 4) : ∀ k, k ≤ n + 1 → (accK n xs k).length ≤ k * 64 := by
  intro k
  induction k with
  | zero => intro _; exact Nat.zero_le _
  | succ k ih =>
    intro hk
    have h1 := ih (by omega)
    have h2 := ords_len n _ (rest_len hl (k := k) (by omega)) (by omega)
    have h3 : 4 ^ n ≤ 4 ^ 3 := Nat.pow_le_pow_right (by decide) (by omega)
    rw [accK_succ, List.length_append, List.length_map]
    omega
def OT (H0 H : Hp) (a r : Addr) (o : List Int × Int) : Prop := ∃ l, l ≠ a ∧ H0 l = none ∧ H r = some (.tup [.ref l, .int o.2]) ∧ H l = some (.lst (o.1.map V.int))
def OL (H0 H : Hp) (a : Addr) (os : List (List Int × Int)) : Prop := ∃ rs : List Addr, H a = some (.lst (rs.map V.ref)) ∧ rs.length = os.length ∧ ∀ (i : Nat) (r : Addr) (o : List Int × Int), rs[i]? = some r → os[i]? = some o → OT H0 H a r o
theorem OL.same {H0 H H' : Hp} {a : Addr} {os : List (List Int × Int)} (h : OL H0 H a os) (s : Same H H') : OL H0 H' a os := by
  obtain ⟨rs, e, l, g⟩ := h
  exact ⟨rs, s _ _ e, l, fun i r o h1 h2 => by
    obtain ⟨q, n, n0, a1, a2⟩ := g i r o h1 h2
    exact ⟨q, n, n0, s _ _ a1, s _ _ a2⟩⟩
theorem OL.push {H0 H : Hp} {a r q : Addr} {os : List (List Int × Int)} {o : List Int × Int} {acc : List V} (h : OL H0 H a os) (nq : q ≠ a) (nq0 : H0 q = none) (hr : H r = some (.tup [.ref q, .int o.2])) (hq : H q = some (.lst (o.1.map V.int))) (e : H a = some (.lst acc)) : OL H0 (upd H a (.lst (acc ++ [.ref r]))) a (os ++ [o]) := by
  obtain ⟨rs, e', l, g⟩ := h
  rw [e'] at e
  have e := HO.lst.inj (Option.some.inj e)
  subst e
  have up : ∀ (x : HO) (t q : Addr) (o : List Int × Int), q ≠ a → H0 q = none → H t = some (.tup [.ref q, .int o.2]) → H q = some (.lst (o.1.map V.int)) → OT H0 (upd H a x) a t o := fun x t q o h1 h0 h2 h3 =>
    ⟨q, h1, h0, by rw [upd_ne (ne_of h2 e' (fun z => nomatch z))]; exact h2, by rw [upd_ne h1]; exact h3⟩
  refine ⟨rs ++ [r], by rw [upd_same, List.map_append]; rfl, by rw [List.length_append, List.length_append, l]; rfl, fun i t o' h1 h2 => ?_⟩
  rcases app_get h1 with h1 | ⟨h1, rfl⟩
  · rcases app_get h2 with h2 | ⟨h2, _⟩
    · obtain ⟨q', b1, b0, b2, b3⟩ := g i t o' h1 h2
      exact up _ _ _ _ b1 b0 b2 b3
    · have := lt_of_get h1
      omega
  · rcases app_get h2 with h2 | ⟨h2, rfl⟩
    · have := lt_of_get h2
      omega
    · exact up _ _ _ _ nq nq0 hr hq
abbrev s__law_orders : Stmt := topS 9
theorem sc__law_orders : FnScope ["items", "found", "k", "rest", "sign"] ["items"] (defScope s__law_orders) := ⟨rfl, rfl, rfl, by decide +kernel, rfl, by decide +kernel, by decide +kernel⟩
def spOrders (n : Nat) : Sp := fun vs H Q _ => ∃ (a : Addr) (xs : List Int), vs = [.ref a] ∧ H a = some (.lst (xs.map V.int)) ∧ xs.length = n ∧ n ≤ 4 ∧ ∀ (H' : Hp) (l : Addr), Same H H' → H l = none → OL H H' l (ords n xs) → Q (.ref l) H'
theorem ok_orders {f : Addr} {fd : FuncData} {k n : Nat} (F : Fun K "_law_orders" "_law_orders" s__law_orders f fd) (Z : Glb mg)
    (G : ∀ m, n = m + 1 → FnOk P w K mg base CX0 k f fd ["items"] (spOrders m)) (gS : mg "_law_orders" = some (.ref f)) (bS : Binds K fd ["items"] []) : FnOk P w K mg base CX0 (k + 1) f fd ["items"] (spOrders n) := by
  refine F.ok sc__law_orders (fun vs H Q E h => ?_) (fun cdv A outer s H vs Q E hr h => ?_)
  · obtain ⟨a, xs, rfl, _⟩ := h
    rfl
  · obtain ⟨a, xs, rfl, ha, hl, h4, q⟩ := h
    cases n with
    | zero =>
      refine ⟨_, (pss_cons (ps_if (pt_cmpR (r := rEqD K) (op_eqD hr.units) (pv 0) (pe_lst pa_nil) (nomark _)) (pss_one (ps_ret (pe_lst (pa_cons (pe_tup (pa_cons (pe_lst pa_nil) (pa_cons pe_int pa_nil))) pa_nil)))) pss_nil)
      (pss_cons ps_never
      (pss_cons ps_never
      (pss_one ps_never)))), ?_⟩
      refine ⟨_, rfl, Nat.zero_le _, fun z nz => ?_⟩
      have sz := same_upd (o := .lst []) nz
      refine ⟨_, _, .lst (SqL.of (sz _ _ ha)) (dp_ints xs), .lst (SqL.of (show (upd H z (.lst [])) z = some (.lst (([] : List Int).map V.int)) from upd_same)) (dp_ints []), shapedL_ints _ (by omega), shapedL_ints [] (by decide), ?_⟩
      rw [PyData.eqv, eqv_ints, List.eq_nil_of_length_eq_zero hl]
      refine ⟨_, rfl, iteT ?_⟩
      refine ⟨Nat.zero_le _, fun l1 n1 => ⟨(show 2 ≤ sizeLine by decide), fun t nt => ⟨(show 1 ≤ sizeLine by decide), fun r nr => ?_⟩⟩⟩
      have s1 := same_upd (o := .lst []) n1
      have s2 := same_upd (o := .tup [.ref l1, .int 1]) nt
      have s3 := same_upd (o := .lst [.ref t]) nr
      refine q _ r (((sz.trans s1).trans s2).trans s3) (((sz.trans s1).trans s2).free nr) ⟨[t], upd_same, rfl, fun i t' o h1 h2 => ?_⟩
      match i with
      | 0 =>
        cases h1
        cases h2
        have e1 := s3 _ _ (s2 _ _ (show (upd (upd H z (.lst [])) l1 (.lst [])) l1 = some (.lst []) from upd_same))
        exact ⟨l1, ne_of_none (s2 _ _ upd_same) nr, sz.free n1, s3 _ _ upd_same, e1⟩
      | i + 1 => cases h1
    | succ n =>
      have G := G n rfl
      refine ⟨_, (pss_cons (ps_if (pt_cmpR (r := rEqD K) (op_eqD hr.units) (pv 0) (pe_lst pa_nil) (nomark _)) (pss_one ps_never) pss_nil)
      (pss_cons (ps_set (i := 1) sc__law_orders.nd rfl (.inl rfl) (pe_lst pa_nil))
      (pss_cons (ps_for PassesOwn.never rfl (pi_range1 rfl Z.m_range (pa_cons (pe_callB call_len_seq (by rfl) Z.m_len PySem.boot_len (pa_cons (pv 0) pa_nil)) pa_nil)) (pg_name (i := 2) sc__law_orders.nd rfl (.inl rfl)) (pss_one (ps_for PassesOwn.never rfl (pi_list (pe_call G hr (by rfl) gS F.kp bS .nil pass0 (pa_cons (pe_op op_cat (pe_slice (r := rSlL K) sl_list (pv 0) po_none (po_some (pv 2))) (pe_slice (r := rSlL K) sl_list (pv 0) (po_some (pe_op op_add (pv 2) pe_int)) po_none)) pa_nil))) (pg_tup rfl (pgs_cons (pg_name (i := 3) sc__law_orders.nd rfl (.inl rfl)) (pgs_cons (pg_name (i := 4) sc__law_orders.nd rfl (.inl rfl)) pgs_nil))) (pss_one (ps_expr (pe_bm PySem.F.plainAttrs_list PySem.F.slot_list_append PySem.F.type_list_append mt_append (pv 1) (pa_cons (pe_tup (pa_cons (pe_op op_cat (pe_lst (pa_cons (pe_ix (r := rIxL K) ix_list (pv 0) (pv 2) (fun _ _ => rfl)) pa_nil)) (pv 3)) (pa_cons (pe_op op_sub (pv 4) (pe_op op_mulW (pe_op op_mul pe_int (pv 4)) (pe_op op_odd (pv 2) pe_int))) pa_nil))) pa_nil)))))))
      (pss_one (ps_ret (pv 1)))))), ?_⟩
      refine ⟨_, rfl, Nat.zero_le _, fun z nz => ?_⟩
      have sz := same_upd (o := .lst []) nz
      refine ⟨_, _, .lst (SqL.of (sz _ _ ha)) (dp_ints xs), .lst (SqL.of (show (upd H z (.lst [])) z = some (.lst (([] : List Int).map V.int)) from upd_same)) (dp_ints []), shapedL_ints _ (by omega), shapedL_ints [] (by decide), ?_⟩
      rw [PyData.eqv, eqv_ints, decide_eq_false (show ¬ xs = [] from fun e => by rw [e] at hl; cases hl)]
      refine ⟨_, rfl, iteF ?_⟩
      refine ⟨Nat.zero_le _, fun l nl => ?_⟩
      have sl := sz.trans (same_upd (o := .lst []) nl)
      have el : (upd (upd H z (.lst [])) l (.lst [])) l = some (.lst []) := upd_same
      have nl0 : H l = none := sz.free nl
      generalize upd (upd H z (.lst [])) l (.lst []) = H1 at *
      refine ⟨_, rfl, a, _, rfl, .inl (SqL.of (sl _ _ ha)), _, rfl, by rw [List.length_map]; omega, by rw [List.length_map]; omega, ?_⟩
      rw [List.length_map]
      refine for_range (lo := 0) (n := xs.length) (fun i σ H' => ∃ (y2 y3 y4 : Option V), σ = [some (.ref a), some (.ref l), y2, y3, y4] ∧ Same H H' ∧ OL H H' l (accK n xs i)) ⟨none, none, none, rfl, sl, [], el, rfl, fun i r o (h : ([] : List Addr)[i]? = some r) => no_get h⟩ (fun i σ H' hi hP => ?_) (fun σ H' hP => ?_)
      · obtain ⟨y2, y3, y4, rfl, s1, O1⟩ := hP
        have e0 : (0 : Int) + (i : Int) = ((i : Nat) : Int) := Int.zero_add _
        rw [e0]
        have ea := s1 _ _ ha
        refine ⟨_, rfl, _, rfl, _, rfl, a, _, rfl, SqL.of ea, fun c1 n1 => ?_⟩
        rw [cut_take]
        have s2 := same_upd (o := .lst ((xs.map V.int).take i)) n1
        have e1 : (upd H' c1 (.lst ((xs.map V.int).take i))) c1 = some (.lst ((xs.map V.int).take i)) := upd_same
        generalize upd H' c1 (.lst ((xs.map V.int).take i)) = H2 at *
        refine ⟨_, rfl, _, rfl, _, _, rfl, rfl, _, rfl, a, _, rfl, SqL.of (s2 _ _ ea), fun c2 n2 => ?_⟩
        rw [show (i : Int) + 1 = ((i + 1 : Nat) : Int) by omega, cut_drop]
        have s3 := same_upd (o := .lst ((xs.map V.int).drop (i + 1))) n2
        have e2 : (upd H2 c2 (.lst ((xs.map V.int).drop (i + 1)))) c2 = some (.lst ((xs.map V.int).drop (i + 1))) := upd_same
        generalize upd H2 c2 (.lst ((xs.map V.int).drop (i + 1))) = H3 at *
        refine ⟨c1, c2, _, _, rfl, rfl, s3 _ _ e1, e2, ?_, fun c3 n3 => ?_⟩
        · rw [List.length_take, List.length_drop, List.length_map]
          exact Nat.le_of_lt (small1000 (by omega))
        rw [← List.map_take, ← List.map_drop, ← List.map_append]
        have rl := rest_len (xs := xs) (k := i) hl (by omega)
        have s4 := same_upd (o := .lst ((xs.take i ++ xs.drop (i + 1)).map V.int)) n3
        have e3 : (upd H3 c3 (.lst ((xs.take i ++ xs.drop (i + 1)).map V.int))) c3 = some (.lst ((xs.take i ++ xs.drop (i + 1)).map V.int)) := upd_same
        generalize upd H3 c3 (.lst ((xs.take i ++ xs.drop (i + 1)).map V.int)) = H4 at *
        refine ⟨c3, _, rfl, e3, rl, by omega, fun H5 b s5 nb O5 => ?_⟩
        have s14 := (s2.trans s3).trans s4
        have O0 := O1
        have O1 := O1.same (s14.trans s5)
        have el4 : ∃ o, H4 l = some o := by
          obtain ⟨_, e, _⟩ := O0
          exact ⟨_, s14 _ _ e⟩
        obtain ⟨ol, el4⟩ := el4
        have bl : b ≠ l := fun z => by rw [z, el4] at nb; cases nb
        have s1 := s1.trans (s14.trans s5)
        obtain ⟨rs, eb, lb, gb⟩ := O5
        have sg := ords_sign n _ rl
        have al := accK_len hl h4 (i + 1) (by omega)
        rw [accK_succ, List.length_append, List.length_map] at al
        refine ⟨b, rfl, ⟨_, SqL.of eb⟩, ?_⟩
        refine for_list (xs := rs.map V.ref) (fun j σ H' => ∃ (y3 y4 : Option V), σ = [some (.ref a), some (.ref l), some (.int i), y3, y4] ∧ Same H H' ∧ Keep l H5 H' ∧ OL H H' l (accK n xs i ++ ((ords n (xs.take i ++ xs.drop (i + 1))).take j).map (ordP i xs))) ⟨y3, y4, rfl, s1, Keep.refl _ _, by rw [List.take_zero, List.map_nil, List.append_nil]; exact O1⟩ (fun j σ H' _ hP => ?_) (fun j x σ H' hx hP => ?_) (fun σ H' hP => ?_)
        · obtain ⟨_, _, _, _, k5, _⟩ := hP
          exact SqL.of (k5 _ _ bl eb)
        · obtain ⟨y3, y4, rfl, s6, k5, O6⟩ := hP
          obtain ⟨r, hr1, rfl⟩ := ref_get hx
          have hj := lt_of_get hr1
          have ho : (ords n (xs.take i ++ xs.drop (i + 1)))[j]? = some ((ords n (xs.take i ++ xs.drop (i + 1)))[j]'(by omega)) := List.getElem?_eq_getElem (by omega)
          obtain ⟨sgn, lo⟩ := sg _ (List.mem_of_getElem? ho)
          obtain ⟨ql, q1, q0, q2, q3⟩ := gb j r _ hr1 ho
          have hst : (ords n (xs.take i ++ xs.drop (i + 1))).take (j + 1) = (ords n (xs.take i ++ xs.drop (i + 1))).take j ++ [(ords n (xs.take i ++ xs.drop (i + 1)))[j]'(by omega)] := take_get ho
          have jlen : ((ords n (xs.take i ++ xs.drop (i + 1))).take j).length = j := by rw [List.length_take]; omega
          generalize (ords n (xs.take i ++ xs.drop (i + 1)))[j]'(by omega) = o at *
          have ql4 : ql ≠ l := fun z => by rw [z, el4] at q0; cases q0
          obtain ⟨_, el5, _⟩ := O1
          have q2 := k5 _ _ (ne_of q2 el5 (fun z => nomatch z)) q2
          have q3 := k5 _ _ ql4 q3
          obtain ⟨ws, ew, lw, gw⟩ := id O6
          rw [List.length_append, List.length_map, jlen] at lw
          have ei : xs[i]? = some (xs[i]'hi) := List.getElem?_eq_getElem hi
          refine ⟨r, _, rfl, SqT.of q2, rfl, _, _, rfl, _, _, rfl, rfl, ?_⟩
          refine ⟨_, rfl, .inl ⟨rfl, _, SqL.of ew⟩, _, rfl, _, rfl, _, _, _, _, rfl, rfl, SqL.of (s6 _ _ ha), atI_nat (get_map ei), (show 1 ≤ sizeLine by decide), fun d1 m1 => ?_⟩
          have t1 := same_upd (o := .lst [.int (xs[i]'hi)]) m1
          have f1 : (upd H' d1 (.lst [.int (xs[i]'hi)])) d1 = some (.lst [.int (xs[i]'hi)]) := upd_same
          generalize upd H' d1 (.lst [.int (xs[i]'hi)]) = H7 at *
          refine ⟨_, rfl, d1, ql, _, _, rfl, rfl, f1, t1 _ _ q3, ?_, fun d2 m2 => ?_⟩
          · rw [List.length_map, lo]
            exact Nat.le_of_lt (small1000 (show 1 + n ≤ 1000 by omega))
          have t2 := same_upd (o := .lst ([.int (xs[i]'hi)] ++ o.1.map V.int)) m2
          have f2 : (upd H7 d2 (.lst ([.int (xs[i]'hi)] ++ o.1.map V.int))) d2 = some (.lst ([.int (xs[i]'hi)] ++ o.1.map V.int)) := upd_same
          generalize upd H7 d2 (.lst ([.int (xs[i]'hi)] ++ o.1.map V.int)) = H8 at *
          refine ⟨_, rfl, _, rfl, _, _, rfl, rfl, .inl ⟨by decide, by decide⟩, _, rfl, i, rfl, rfl, _, _, rfl, rfl, cmul (a := 3) (b := 2) (by rcases sgn with e | e <;> rw [e] <;> decide) (by omega), _, _, rfl, rfl, (show 2 ≤ sizeLine by decide), fun d3 m3 => ?_⟩
          have t3 := same_upd (o := .tup [.ref d2, .int (o.2 - 2 * o.2 * ((i % 2 : Nat) : Int))]) m3
          have t13 := (t1.trans t2).trans t3
          have O8 := O6.same t13
          have ew8 := t13 _ _ ew
          have d2l : d2 ≠ l := (ne_of_none ((t1 _ _ ew)) m2).symm
          refine ⟨l, _, _, rfl, rfl, ew8, by rw [List.length_map, lw]; exact small1000 (by omega), ?_⟩
          refine ⟨_, _, rfl, ?_, ?_, ?_⟩
          · exact same_new nl0 (s6.trans t13)
          · intro x y hx hy
            rw [upd_ne hx]
            exact t13 _ _ (k5 _ _ hx hy)
          · rw [hst, List.map_append, ← List.append_assoc]
            refine O8.push (o := ordP i xs o) d2l ((s6.trans t1).free m2) upd_same ?_ ew8
            rw [t3 _ _ f2]
            unfold ordP
            rw [getD_at hi]
            rfl
        · obtain ⟨y3, y4, rfl, s6, k5, O6⟩ := hP
          rw [List.take_of_length_le (by rw [List.length_map]; omega), ← accK_succ] at O6
          exact ⟨_, _, _, rfl, s6, O6⟩
      · obtain ⟨y2, y3, y4, rfl, s1, O1⟩ := hP
        have e : accK n xs xs.length = ords (n + 1) xs := by rw [ords]; rfl
        rw [e] at O1
        exact ⟨_, rfl, q _ _ s1 nl0 O1⟩

/-! ### the law -/
open Dt
def matM (M : List (List Int)) : Mx := fun i j => (M.getD i []).getD j 0
theorem row_is {v : List Int} {n : Nat} (h : v.length = n) : v.map V.int = rowV n (fun j => v.getD j 0) := by
  unfold rowV
  apply List.ext_getElem?
  intro i
  rw [List.getElem?_map, List.getElem?_map]
  by_cases hi : i < n
  · rw [List.getElem?_range hi, List.getElem?_eq_getElem (by omega)]
    show some (V.int (v[i]'(by omega))) = some (V.int (v.getD i 0))
    rw [getD_at (by omega)]
  · rw [List.getElem?_eq_none (by omega), List.getElem?_eq_none (by rw [List.length_range]; omega)]
    rfl
theorem VL.tm {H : Hp} {a : Addr} {M : List (List Int)} {n : Nat} (h : VL H a M) (hn : M.length = n) (hl : ∀ v ∈ M, v.length = n) : TM H a n (matM M) := by
  obtain ⟨rs, e, l, g⟩ := h
  refine ⟨rs, e, by omega, fun i r hr => ?_⟩
  obtain ⟨v, h1, h2⟩ := g i r hr
  unfold Vc at h2
  have h3 : (fun j => v.getD j 0) = matM M i := by
    funext j
    unfold matM
    rw [List.getD_eq_getElem?_getD (l := M), h1]
    rfl
  rw [h2, row_is (hl v (List.mem_of_getElem? h1)), h3]
theorem matM_ab {M : List (List Int)} {B : Nat} (hb : ∀ v ∈ M, ∀ x ∈ v, x.natAbs ≤ B) (i j : Nat) : (matM M i j).natAbs ≤ B := by
  unfold matM
  rw [List.getD_eq_getElem?_getD, List.getD_eq_getElem?_getD]
  cases h1 : M[i]? with
  | none => simp
  | some v =>
    cases h2 : v[j]? with
    | none => simp [h2]
    | some x =>
      simp only [Option.getD_some, h2]
      exact hb v (List.mem_of_getElem? h1) x (List.mem_of_getElem? h2)
/-- the product along an order, m factors of it -/
def pk (W : Mx) (o : List Int) (s : Int) : Nat → Int
  | 0 => s
  | m + 1 => pk W o s m * W m (o.getD m 0).toNat
theorem pk_lim {W : Mx} {o : List Int} {s : Int} (hs : s = 1 ∨ s = -1) (hW : ∀ i j, (W i j).natAbs ≤ 64) : ∀ m, (pk W o s m).natAbs ≤ 64 ^ m
  | 0 => by unfold pk; omega
  | m + 1 => by
    unfold pk
    rw [Int.natAbs_mul, Nat.pow_succ]
    exact Nat.mul_le_mul (pk_lim hs hW m) (hW _ _)
def rgI (n : Nat) : List Int := (List.range n).map fun i : Nat => (i : Int)
theorem rgV_rgI (n : Nat) : rgV 0 (n : Int) = (rgI n).map V.int := by
  unfold rgV rgI
  rw [List.map_map, show ((n : Int) - 0).toNat = n by omega]
  refine List.map_congr_left fun i _ => ?_
  rw [Int.zero_add]
  rfl
def totS (W : Mx) (n : Nat) (os : List (List Int × Int)) : Int := (os.map fun o => pk W o.1 o.2 n).sum
theorem ords_1 : ords 1 (rgI 1) = [([0], 1)] := by decide
theorem ords_2 : ords 2 (rgI 2) = [([0, 1], 1), ([1, 0], -1)] := by decide
theorem ords_3 : ords 3 (rgI 3) = [([0, 1, 2], 1), ([0, 2, 1], -1), ([1, 0, 2], -1), ([1, 2, 0], 1), ([2, 0, 1], 1), ([2, 1, 0], -1)] := by decide
theorem ords_4 : ords 4 (rgI 4) = [([0, 1, 2, 3], 1), ([0, 1, 3, 2], -1), ([0, 2, 1, 3], -1), ([0, 2, 3, 1], 1), ([0, 3, 1, 2], 1), ([0, 3, 2, 1], -1), ([1, 0, 2, 3], -1), ([1, 0, 3, 2], 1), ([1, 2, 0, 3], 1), ([1, 2, 3, 0], -1), ([1, 3, 0, 2], -1), ([1, 3, 2, 0], 1), ([2, 0, 1, 3], 1), ([2, 0, 3, 1], -1), ([2, 1, 0, 3], -1), ([2, 1, 3, 0], 1), ([2, 3, 0, 1], 1), ([2, 3, 1, 0], -1), ([3, 0, 1, 2], -1), ([3, 0, 2, 1], 1), ([3, 1, 0, 2], 1), ([3, 1, 2, 0], -1), ([3, 2, 0, 1], -1), ([3, 2, 1, 0], 1)] := by decide
theorem ords_in {n : Nat} (h1 : 1 ≤ n) (h4 : n ≤ 4) : ∀ o ∈ ords n (rgI n), ∀ x ∈ o.1, 0 ≤ x ∧ x < n := by
  match n, h1, h4 with
  | 1, _, _ => decide
  | 2, _, _ => decide
  | 3, _, _ => decide
  | 4, _, _ => rw [ords_4]; decide
theorem totS_dt {n : Nat} (h1 : 1 ≤ n) (h4 : n ≤ 4) (W : Mx) : totS W n (ords n (rgI n)) = dt n W := by
  match n, h1, h4 with
  | 1, _, _ => rw [ords_1]; simp [totS, pk, dt, mn]
  | 2, _, _ => rw [ords_2]; simp [totS, pk, dt, mn]; grind
  | 3, _, _ => rw [ords_3]; simp [totS, pk, dt, mn, D3]; grind
  | 4, _, _ => rw [ords_4]; simp [totS, pk, dt, mn, D4]; grind
theorem totS_step {W : Mx} {n i : Nat} {os : List (List Int × Int)} {o : List Int × Int} (h : os[i]? = some o) : totS W n (os.take (i + 1)) = totS W n (os.take i) + pk W o.1 o.2 n := by
  unfold totS
  rw [List.take_add_one, h, List.map_append, List.sum_append]
  show _ + (_ + 0) = _
  rw [Int.add_zero]
theorem dt_ab {n : Nat} {W : Mx} (h1 : 1 ≤ n) (h4 : n ≤ 4) (h : ∀ i j, (W i j).natAbs ≤ 10000) : (dt n W).natAbs < 2 ^ 60 := by
  unfold dt
  exact Nat.lt_of_le_of_lt (mn_ab (n := n) (fun i j _ _ => h i j) (Nat.le_refl _) (by omega) (by omega) (by omega) (by omega)) (by decide)
theorem mm_ab {n : Nat} {A B : Mx} (h4 : n ≤ 4) (hA : ∀ i j, (A i j).natAbs ≤ 39) (hB : ∀ i j, (B i j).natAbs ≤ 39) (i j : Nat) : (mm n A B i j).natAbs ≤ 10000 := by
  unfold mm
  have : ∀ m, (((List.range m).map fun k => A i k * B k j).sum).natAbs ≤ m * 1521 := by
    intro m
    induction m with
    | zero => exact Nat.zero_le _
    | succ m ih =>
      rw [List.range_succ, List.map_append, List.sum_append]
      have h1 : (A i m * B m j).natAbs ≤ 39 * 39 := by
        rw [Int.natAbs_mul]
        exact Nat.mul_le_mul (hA _ _) (hB _ _)
      show (_ + (A i m * B m j + 0)).natAbs ≤ _
      omega
  have := this n
  omega
def spOrdersAny : Sp := fun vs H Q E => ∃ n, n ≤ 4 ∧ spOrders n vs H Q E
theorem fn_any {CX : CXT} {k : Nat} {f : Addr} {fd : FuncData} {ps : List Str} {sp : Nat → Sp} {N : Nat} (h : ∀ n, n ≤ N → FnOk P w K mg base CX k f fd ps (sp n)) : FnOk P w K mg base CX k f fd ps (fun vs H Q E => ∃ n, n ≤ N ∧ sp n vs H Q E) :=
  ⟨fun vs H Q E ⟨n, h1, h2⟩ => (h n h1).len _ _ _ _ h2, fun A outer s H args us vs Q E hr e b r ⟨n, h1, h2⟩ => (h n h1).run A outer s H args us vs Q E hr e b r h2⟩
abbrev s_law : Stmt := topS 10
theorem sc_law : FnScope ["script", "pool", "size", "rows", "total", "order", "sign", "part", "k", "other", "product", "row", "j"] ["script"] (defScope s_law) := ⟨rfl, rfl, rfl, by decide +kernel, rfl, by decide +kernel, by decide +kernel⟩
def spLaw (K : PySem.W.Frag) : Sp := fun vs H Q _ => ∃ (a : Addr) (ns : List Int), vs = [.ref a] ∧ SqL K H a (ns.map V.int) ∧ ∀ H', Q (.bl true) H'
theorem ok_law {f : Addr} {fd : FuncData} {k : Nat} (F : Fun K "law" "law" s_law f fd) (Z : Glb mg)
    (C_law_pool : Call P w K mg base k "_law_pool" ["script"] (spPool K))
    (C_law_draw : Call P w K mg base k "_law_draw" ["pool", "many"] spDraw)
    (C_law_same : Call P w K mg base k "_law_same" ["actual", "due"] (spSame 0))
    (C_law_matrix : Call P w K mg base k "_law_matrix" ["pool", "many", "size"] spMatrix)
    (C_law_orders : Call P w K mg base k "_law_orders" ["items"] spOrdersAny)
    (Cdeterminant : Call P w K mg base k "determinant" ["rows"] spDet) : FnOk P w K mg base CX0 (k + 1) f fd ["script"] (spLaw K) := by
  refine F.ok sc_law (fun vs H Q E h => ?_) (fun cdv A outer s H vs Q E hr h => ?_)
  · obtain ⟨a, ns, rfl, _⟩ := h
    rfl
  · obtain ⟨sa, ns, rfl, hS, q⟩ := h
    refine ⟨_, (pss_cons (ps_set (i := 1) sc_law.nd rfl (.inl rfl) (pe_call C_law_pool.G hr (by rfl) C_law_pool.m C_law_pool.kp C_law_pool.b .nil pass0 (pa_cons (pv 0) pa_nil)))
      (pss_cons (ps_set (i := 2) sc_law.nd rfl (.inr rfl) (pe_op op_add pe_int (pe_call C_law_draw.G hr (by rfl) C_law_draw.m C_law_draw.kp C_law_draw.b .nil pass0 (pa_cons (pv 1) (pa_cons pe_int pa_nil)))))
      (pss_cons (ps_set (i := 3) sc_law.nd rfl (.inl rfl) (pe_call C_law_matrix.G hr (by rfl) C_law_matrix.m C_law_matrix.kp C_law_matrix.b .nil pass0 (pa_cons (pv 1) (pa_cons (pv 2) (pa_cons (pv 2) pa_nil)))))
      (pss_cons (ps_set (i := 4) sc_law.nd rfl (.inl rfl) pe_int)
      (pss_cons (ps_for PassesOwn.never rfl (pi_list (pe_call C_law_orders.G hr (by rfl) C_law_orders.m C_law_orders.kp C_law_orders.b .nil pass0 (pa_cons (pe_listRg rfl (by rfl) Z.m_list (prg_1 (by rfl) Z.m_range (pv 2))) pa_nil))) (pg_tup rfl (pgs_cons (pg_name (i := 5) sc_law.nd rfl (.inl rfl)) (pgs_cons (pg_name (i := 6) sc_law.nd rfl (.inl rfl)) pgs_nil))) (pss_cons (ps_set (i := 7) sc_law.nd rfl (.inl rfl) (pv 6))
      (pss_cons (ps_for PassesOwn.never rfl (pi_range1 rfl Z.m_range (pa_cons (pv 2) pa_nil)) (pg_name (i := 8) sc_law.nd rfl (.inl rfl)) (pss_one (ps_set (i := 7) sc_law.nd rfl (.inl rfl) (pe_op op_mulW (pv 7) (pe_ix (r := rIxT K) ix_tup (pe_ix (r := rIxL K) ix_list (pv 3) (pv 8) (fun _ _ => rfl)) (pe_ix (r := rIxL K) ix_list (pv 5) (pv 8) (fun _ _ => rfl)) (fun _ _ => rfl))))))
      (pss_one (ps_set (i := 4) sc_law.nd rfl (.inl rfl) (pe_op op_add (pv 4) (pv 7)))))))
      (pss_cons (ps_if (pt_not (pt_val (pe_call C_law_same.G hr (by rfl) C_law_same.m C_law_same.kp C_law_same.b .nil pass0 (pa_cons (pe_call Cdeterminant.G hr (by rfl) Cdeterminant.m Cdeterminant.kp Cdeterminant.b .nil pass0 (pa_cons (pv 3) pa_nil)) (pa_cons (pv 4) pa_nil))))) (pss_one ps_never) pss_nil)
      (pss_cons (ps_set (i := 9) sc_law.nd rfl (.inr rfl) (pe_call C_law_matrix.G hr (by rfl) C_law_matrix.m C_law_matrix.kp C_law_matrix.b .nil pass0 (pa_cons (pv 1) (pa_cons (pv 2) (pa_cons (pv 2) pa_nil)))))
      (pss_cons (ps_set (i := 10) sc_law.nd rfl (.inl rfl) (pe_lst pa_nil))
      (pss_cons (ps_for PassesOwn.never rfl (pi_list (pv 3)) (pg_name (i := 11) sc_law.nd rfl (.inr rfl)) (pss_one (ps_expr (pe_bm PySem.F.plainAttrs_list PySem.F.slot_list_append PySem.F.type_list_append mt_append (pv 10) (pa_cons (pe_callTy call_tuple_of (by rfl) Z.m_tuple (by decide +kernel) (pa_cons (pe_lc (own := [("j", 12)]) (g := gName 12) (tt := tYes) (by rfl) sc_law.nd (pi_range1 rfl Z.m_range (pa_cons (pv 2) pa_nil)) (blkOk_by (own := [("j", 12)]) (N := ["script", "pool", "size", "rows", "total", "order", "sign", "part", "k", "other", "product", "row", "j"]) (sc := defScope s_law) (by first | decide +kernel | kernel_rfl)) (fun _ _ _ _ _ => (pg_name (i := 12) sc_law.nd rfl (.inr rfl))) (fun _ _ _ _ _ => pts_nil) (fun _ _ _ _ _ => (pe_callB (id := "sum") (r := rSum K) (cr_sum rfl) (by rfl) Z.m_sum (by decide +kernel) (pa_cons (pe_lc (own := [("k", 8)]) (g := gName 8) (tt := tYes) (by rfl) sc_law.nd (pi_range1 rfl Z.m_range (pa_cons (pv 2) pa_nil)) (blkOk_by (own := [("k", 8)]) (N := ["script", "pool", "size", "rows", "total", "order", "sign", "part", "k", "other", "product", "row", "j"]) (by first | decide +kernel | kernel_rfl)) (fun _ _ _ _ _ => (pg_name (i := 8) sc_law.nd rfl (.inl rfl))) (fun _ _ _ _ _ => pts_nil) (fun _ _ _ _ _ => (pe_op op_mulW (pe_ix (r := rIxT K) ix_tup (pv 11) (pv 8) (fun _ _ => rfl)) (pe_ix (r := rIxT K) ix_tup (pe_ix (r := rIxL K) ix_list (pv 9) (pv 8) (fun _ _ => rfl)) (pv 12) (fun _ _ => rfl))))) pa_nil)))) pa_nil)) pa_nil)))))
      (pss_cons (ps_if (pt_cmpR op_ne (pe_call Cdeterminant.G hr (by rfl) Cdeterminant.m Cdeterminant.kp Cdeterminant.b .nil pass0 (pa_cons (pv 10) pa_nil)) (pe_op op_mulW (pv 4) (pe_call Cdeterminant.G hr (by rfl) Cdeterminant.m Cdeterminant.kp Cdeterminant.b .nil pass0 (pa_cons (pv 9) pa_nil))) (nomark _)) (pss_one ps_never) pss_nil)
      (pss_one (ps_ret (pe_or (pe_cmpR op_lt (pv 2) pe_int (nomark _)) (pe_one (pe_cmpR op_eq (pe_call Cdeterminant.G hr (by rfl) Cdeterminant.m Cdeterminant.kp Cdeterminant.b .nil pass0 (pa_cons (pe_op op_cat (pe_lst (pa_cons (pe_ix (r := rIxL K) ix_list (pv 3) pe_int (fun _ _ => rfl)) (pa_cons (pe_ix (r := rIxL K) ix_list (pv 3) pe_int (fun _ _ => rfl)) pa_nil))) (pe_slice (r := rSlL K) sl_list (pv 3) (po_some pe_int) po_none)) pa_nil)) (pe_un un_neg (pv 4)) (nomark _)))))))))))))))), ?_⟩
    refine ⟨_, rfl, sa, ns, rfl, hS, fun H1 p s1 np hP => ?_⟩
    refine ⟨_, rfl, p, _, rfl, by decide, by decide, hP, fun v0 H2 l0 u0 P2 B2 => ⟨_, _, rfl, rfl, ?_⟩⟩
    obtain ⟨dn, rfl⟩ := Int.eq_ofNat_of_zero_le l0
    have ed : (1 + (dn : Int)) = ((dn + 1 : Nat) : Int) := by omega
    show gName 2 (V.int (1 + (dn : Int))) _ _ _
    rw [ed]
    have n4 : dn + 1 ≤ 4 := by omega
    have n1 : 1 ≤ dn + 1 := by omega
    generalize dn + 1 = n at *
    -- rows
    refine ⟨_, rfl, _, rfl, _, rfl, p, n, n, rfl, by omega, by omega, P2, fun H3 l M P3 K3 lp nl V3 lM vM bM => ?_⟩
    have b39 : ∀ {M : List (List Int)}, (∀ v ∈ M, MB n v) → ∀ v ∈ M, ∀ x ∈ v, x.natAbs ≤ 39 := fun h v hv x hx => by
      have h1 := h v hv x hx
      have : 2 ^ n ≤ 2 ^ 4 := Nat.pow_le_pow_right (by decide) n4
      omega
    have T3 := V3.tm lM vM
    have aM := matM_ab (b39 bM)
    obtain ⟨rs, el, lr, gr⟩ := id T3
    -- the orders
    refine ⟨_, rfl, _, rfl, ⟨by omega, by omega, by omega, by omega, by omega⟩, fun q1 nq1 => ?_⟩
    rw [rgV_rgI]
    have s4 := same_upd (o := .lst ((rgI n).map V.int)) nq1
    have eq1 : (upd H3 q1 (.lst ((rgI n).map V.int))) q1 = some (.lst ((rgI n).map V.int)) := upd_same
    generalize upd H3 q1 (.lst ((rgI n).map V.int)) = H4 at *
    refine ⟨n, n4, q1, rgI n, rfl, eq1, by unfold rgI; rw [List.length_map, List.length_range], n4, fun H5 b s5 nb O5 => ?_⟩
    obtain ⟨os, eb, lo, go⟩ := O5
    have sgn := ords_sign n (rgI n) (by unfold rgI; rw [List.length_map, List.length_range])
    have oin := ords_in n1 n4
    refine ⟨b, rfl, ⟨_, SqL.of eb⟩, ?_⟩
    refine for_list (xs := os.map V.ref) (fun j σ H' => ∃ (y5 y6 y7 y8 : Option V), σ = [some (.ref sa), some (.ref p), some (.int n), some (.ref l), some (.int (totS (matM M) n ((ords n (rgI n)).take j))), y5, y6, y7, y8, none, none, none, none] ∧ H5 = H') ⟨none, none, none, none, rfl, rfl⟩ (fun j σ H' _ hP => by obtain ⟨_, _, _, _, _, rfl⟩ := hP; exact SqL.of eb) (fun j x σ H' hx hP => ?_) (fun σ H' hP => ?_)
    · obtain ⟨y5, y6, y7, y8, rfl, rfl⟩ := hP
      obtain ⟨r, hr1, rfl⟩ := ref_get hx
      have hj := lt_of_get hr1
      have ho : (ords n (rgI n))[j]? = some ((ords n (rgI n))[j]'(by omega)) := List.getElem?_eq_getElem (by omega)
      have hmem := List.mem_of_getElem? ho
      have sg := sgn _ hmem
      have oi := oin _ hmem
      have ts := totS_step (W := matM M) (n := n) ho
      obtain ⟨ql, _, _, q2, q3⟩ := go j r _ hr1 ho
      generalize (ords n (rgI n))[j]'(by omega) = o at *
      refine ⟨r, _, rfl, SqT.of q2, rfl, _, _, rfl, _, _, rfl, rfl, ?_⟩
      refine ⟨_, rfl, _, rfl, n, rfl, by omega, by omega, ?_⟩
      have e5 := (s4.trans s5) _ _ el
      refine for_range (lo := 0) (n := n) (fun m σ H' => ∃ (y8 : Option V), σ = [some (.ref sa), some (.ref p), some (.int n), some (.ref l), some (.int (totS (matM M) n ((ords n (rgI n)).take j))), some (.ref ql), some (.int o.2), some (.int (pk (matM M) o.1 o.2 m)), y8, none, none, none, none] ∧ H5 = H') ⟨y8, rfl, rfl⟩ (fun m σ H' hm hP => ?_) (fun σ H' hP => ?_)
      · obtain ⟨y8, rfl, rfl⟩ := hP
        have e0 : (0 : Int) + (m : Int) = ((m : Nat) : Int) := Int.zero_add _
        rw [e0]
        have er : rs[m]? = some (rs[m]'(by omega)) := List.getElem?_eq_getElem (by omega)
        have eo : o.1[m]? = some (o.1[m]'(by omega)) := List.getElem?_eq_getElem (by omega)
        have hin := oi _ (List.getElem_mem (l := o.1) (n := m) (by omega))
        have gd : o.1.getD m 0 = o.1[m]'(by omega) := getD_at _
        generalize o.1[m]'(by omega) = z at *
        obtain ⟨zn, rfl⟩ := Int.eq_ofNat_of_zero_le hin.1
        have lim := pk_lim (W := matM M) (o := o.1) sg.1 (fun i j => Nat.le_trans (aM i j) (by decide)) m
        have l4 : 64 ^ m ≤ 64 ^ 4 := Nat.pow_le_pow_right (by decide) (by omega)
        refine ⟨_, rfl, _, rfl, _, rfl, _, _, _, _, rfl, rfl, SqL.of e5, atI_nat (refget er), _, rfl, _, rfl, _, _, _, _, rfl, rfl, SqL.of q3, atI_nat (get_map eo), _, _, _, _, rfl, rfl, SqT.of ((s4.trans s5) _ _ (gr _ _ er)), atI_nat (rowV_get _ (by omega)), _, _, rfl, rfl, cmul (a := 30) (b := 7) (by omega) (by have := aM m zn; omega), ?_⟩
        refine ⟨some (V.int (m : Int)), ?_, rfl⟩
        rw [pk, gd]
        rfl
      · obtain ⟨y8, rfl, rfl⟩ := hP
        refine ⟨_, rfl, _, rfl, _, _, rfl, rfl, ?_⟩
        exact ⟨some (.ref ql), some (.int o.2), some (.int (pk (matM M) o.1 o.2 n)), y8, by rw [ts]; rfl, rfl⟩
    · obtain ⟨y5, y6, y7, y8, rfl, rfl⟩ := hP
      rw [List.length_map, lo, List.take_length, totS_dt n1 n4]
      have s35 := s4.trans s5
      have P5 := P3.same s35
      have V5 := V3.same s35
      refine ⟨_, rfl, l, n, matM M, rfl, V5.tm lM vM, n1, n4, fun i j _ _ => Nat.le_trans (aM i j) (by decide), fun H6 s6 => ?_⟩
      refine ⟨_, rfl, _, _, rfl, .int 0 _, true, rfl, iteF ?_⟩
      have P6 := P5.same s6
      have V6 := V5.same s6
      -- other
      refine ⟨_, rfl, _, rfl, _, rfl, p, n, n, rfl, by omega, by omega, P6, fun H7 l7 O P7 K7 l7p nl7 V7 lO vO bO => ?_⟩
      have aO := matM_ab (b39 bO)
      have V67 := V6.kp P6 lp K7.k
      obtain ⟨rs7, e7, lr7, gr7⟩ := id (V7.tm lO vO)
      obtain ⟨rs6, e6, lr6, gr6⟩ := id (V67.tm lM vM)
      refine ⟨Nat.zero_le _, fun t nt => ?_⟩
      have s8 := same_upd (o := .lst []) nt
      have et : (upd H7 t (.lst [])) t = some (.lst []) := upd_same
      have nt7 := nt
      generalize upd H7 t (.lst []) = H8 at *
      have tl : l ≠ t := ne_of_none e6 nt7
      have tl7 : l7 ≠ t := ne_of_none e7 nt7
      refine ⟨_, rfl, l, rfl, ⟨_, SqL.of (s8 _ _ e6)⟩, ?_⟩
      refine for_list (xs := rs6.map V.ref) (fun i σ H' => ∃ (y8 y11 : Option V), σ = [some (.ref sa), some (.ref p), some (.int n), some (.ref l), some (.int (dt n (matM M))), y5, y6, y7, y8, some (.ref l7), some (.ref t), y11, none] ∧ Same H7 H' ∧ ∃ ts : List Addr, H' t = some (.lst (ts.map V.ref)) ∧ ts.length = i ∧ ∀ (j : Nat) (r : Addr), ts[j]? = some r → H' r = some (.tup (rowV n (mm n (matM M) (matM O) j)))) ⟨y8, none, rfl, s8, [], et, rfl, fun j r h => no_get h⟩ (fun i σ H' _ hP => ?_) (fun i x σ H' hx hP => ?_) (fun σ H' hP => ?_)
      · obtain ⟨_, _, _, s9, _⟩ := hP
        exact SqL.of (s9 _ _ e6)
      · obtain ⟨y8, y11, rfl, s9, ts, ets, lts, gts⟩ := hP
        obtain ⟨r, hr1, rfl⟩ := ref_get hx
        have hi := lt_of_get hr1
        have er9 := s9 _ _ (gr6 _ _ hr1)
        have e79 := s9 _ _ e7
        refine ⟨_, rfl, .inl ⟨rfl, _, SqL.of ets⟩, _, rfl, n, rfl, by omega, by omega, fun D nD => ?_⟩
        refine lc_range (lo := 0) (n := n) (PvF H' D (fun j => V.int (mm n (matM M) (matM O) i j))) (pvf0 nD) (fun j H9 hj hW => ?_) (fun H9 hW => ?_)
        · have e0 : (0 : Int) + (j : Int) = ((j : Nat) : Int) := Int.zero_add _
          rw [e0]
          have sA := s9.trans hW.1
          refine ⟨rfl, ?_⟩
          unfold tYes
          refine iteT ?_
          refine ⟨_, rfl, n, rfl, by omega, by omega, fun D2 nD2 => ?_⟩
          refine lc_range (lo := 0) (n := n) (g := gName 8) (tt := fun _ H Q => Q true H) (te := tOp (rI CMulW fun i j => V.int (i * j)) (tOp (rIxT _) (tVar 11) (tVar 8)) (tOp (rIxT _) (tOp (rIxL _) (tVar 9) (tVar 8)) (tVar 12))) (vs := [8]) (PvF H9 D2 (fun k => V.int (matM M i k * matM O k j))) (pvf0 nD2) (fun k H10 hk hW2 => ?_) (fun H10 hW2 => ?_)
          · have e1 : (0 : Int) + (k : Int) = ((k : Nat) : Int) := Int.zero_add _
            rw [e1]
            have sB := sA.trans hW2.1
            have g7 : rs7[k]? = some (rs7[k]'(by omega)) := List.getElem?_eq_getElem (by omega)
            refine ⟨rfl, ?_⟩
            try unfold tYes
            refine iteT ?_
            refine ⟨_, rfl, _, rfl, _, _, _, _, rfl, rfl, SqT.of ((hW.1.trans hW2.1) _ _ er9), atI_nat (rowV_get _ (by omega)), _, rfl, _, rfl, _, _, _, _, rfl, rfl, SqL.of (sB _ _ e7), atI_nat (refget g7), _, rfl, _, _, _, _, rfl, rfl, SqT.of (sB _ _ (gr7 _ _ g7)), atI_nat (rowV_get _ hj), _, _, rfl, rfl, cmul (a := 7) (b := 7) (by have := aM i k; omega) (by have := aO k j; omega), ?_⟩
            exact pvf_step nD2 hW2 (Same.refl _) (by omega) rfl
          · obtain ⟨s2, eD2⟩ := hW2
            have es : (List.range n).map (fun k => V.int (matM M i k * matM O k j)) = ((List.range n).map fun k => matM M i k * matM O k j).map V.int := by rw [List.map_map]; rfl
            rw [es] at eD2
            refine ⟨D2, _, rfl, SqL.of eD2, ?_⟩
            exact pvf_step nD hW s2 (by omega) rfl
        · obtain ⟨s2, eD⟩ := hW
          refine ⟨D, _, rfl, .inl ⟨SqL.of eD, fun u nu => ?_⟩⟩
          have s3 := same_upd (o := .tup ((List.range n).map fun j => V.int (mm n (matM M) (matM O) i j))) nu
          have eu : (upd H9 u (.tup ((List.range n).map fun j => V.int (mm n (matM M) (matM O) i j)))) u = some (.tup (rowV n (mm n (matM M) (matM O) i))) := upd_same
          generalize upd H9 u (.tup ((List.range n).map fun j => V.int (mm n (matM M) (matM O) i j))) = H11 at *
          have s23 := s2.trans s3
          have et2 := s23 _ _ ets
          refine ⟨t, _, _, rfl, rfl, et2, by rw [List.length_map, lts]; exact small1000 (by omega), ?_⟩
          refine ⟨_, _, rfl, same_new nt7 (s9.trans s23), ts ++ [u], by rw [upd_same, List.map_append]; rfl, by rw [List.length_append, lts]; rfl, fun j r' h => ?_⟩
          rcases app_get h with h2 | ⟨h2, rfl⟩
          · have := s23 _ _ (gts j r' h2)
            rw [upd_ne (ne_of this et2 (fun z => nomatch z))]
            exact this
          · rw [upd_ne (ne_of eu et2 (fun z => nomatch z)), h2, lts]
            exact eu
      · obtain ⟨y8, y11, rfl, s9, ts, ets, lts, gts⟩ := hP
        rw [List.length_map, lr6] at lts
        have T9 : TM H' t n (mm n (matM M) (matM O)) := ⟨ts, ets, lts, gts⟩
        refine ⟨_, rfl, t, n, _, rfl, T9, n1, n4, fun i j _ _ => mm_ab n4 aM aO i j, fun H12 s12 => ?_⟩
        have s79 := s9.trans s12
        refine ⟨_, rfl, _, rfl, l7, n, matM O, rfl, (V7.same s79).tm lO vO, n1, n4, fun i j _ _ => Nat.le_trans (aO i j) (by decide), fun H13 s13 => ?_⟩
        refine ⟨_, _, rfl, rfl, cmul (a := 60) (b := 60) (dt_ab n1 n4 fun i j => Nat.le_trans (aM i j) (by decide)) (dt_ab n1 n4 fun i j => Nat.le_trans (aO i j) (by decide)), rfl, _, rfl, ?_⟩
        rw [dt_mul n1 n4, decide_eq_true rfl]
        refine iteF ?_
        -- the exchange
        have V13 := V67.same (s79.trans s13)
        obtain ⟨rs8, e8, lr8, gr8⟩ := id (V13.tm lM vM)
        refine ⟨_, rfl, _, _, rfl, rfl, _, rfl, ite2 (fun e => ?_) (fun e => ?_)⟩
        · exact q _
        · have n2 : 2 ≤ n := by
            by_cases z : 2 ≤ n
            · exact z
            · exact absurd (decide_eq_true (show (n : Int) < 2 by omega)) e
          have r0 : rs8[0]? = some (rs8[0]'(by omega)) := List.getElem?_eq_getElem (by omega)
          have r1 : rs8[1]? = some (rs8[1]'(by omega)) := List.getElem?_eq_getElem (by omega)
          have edr : rs8.drop 2 = (rs8.drop 2) := rfl
          refine ⟨_, rfl, _, _, _, _, rfl, rfl, SqL.of e8, atI_nat (j := 1) (refget r1), _, rfl, _, _, _, _, rfl, rfl, SqL.of e8, atI_nat (j := 0) (refget r0), (show 2 ≤ sizeLine by decide), fun c1 m1 => ?_⟩
          generalize rs8[0]'(by omega) = a0 at *
          generalize rs8[1]'(by omega) = a1 at *
          have t1 := same_upd (o := .lst [.ref a1, .ref a0]) m1
          have f1 : (upd H13 c1 (.lst [.ref a1, .ref a0])) c1 = some (.lst [.ref a1, .ref a0]) := upd_same
          generalize upd H13 c1 (.lst [.ref a1, .ref a0]) = H14 at *
          refine ⟨_, rfl, _, rfl, l, _, rfl, SqL.of (t1 _ _ e8), fun c2 m2 => ?_⟩
          rw [show (2 : Int) = ((2 : Nat) : Int) from rfl, cut_drop]
          have t2 := same_upd (o := .lst ((rs8.map V.ref).drop 2)) m2
          have f2 : (upd H14 c2 (.lst ((rs8.map V.ref).drop 2))) c2 = some (.lst ((rs8.map V.ref).drop 2)) := upd_same
          generalize upd H14 c2 (.lst ((rs8.map V.ref).drop 2)) = H15 at *
          refine ⟨c1, c2, _, _, rfl, rfl, t2 _ _ f1, f2, ?_, fun c3 m3 => ?_⟩
          · rw [List.length_drop, List.length_map]
            exact Nat.le_of_lt (small1000 (show 2 + (rs8.length - 2) ≤ 1000 by omega))
          have t3 := same_upd (o := .lst ([.ref a1, .ref a0] ++ (rs8.map V.ref).drop 2)) m3
          have f3 : (upd H15 c3 (.lst ([.ref a1, .ref a0] ++ (rs8.map V.ref).drop 2))) c3 = some (.lst ((a1 :: a0 :: rs8.drop 2).map V.ref)) := by
            rw [upd_same, ← List.map_drop]
            rfl
          generalize upd H15 c3 (.lst ([.ref a1, .ref a0] ++ (rs8.map V.ref).drop 2)) = H16 at *
          have t13 := (t1.trans t2).trans t3
          have T16 : TM H16 c3 n (swp 0 1 (matM M)) := by
            refine ⟨_, f3, ?_, fun i r hr => ?_⟩
            · show (rs8.drop 2).length + 1 + 1 = n
              rw [List.length_drop]
              omega
            · match i with
              | 0 =>
                cases hr
                exact t13 _ _ (gr8 1 _ r1)
              | 1 =>
                cases hr
                exact t13 _ _ (gr8 0 _ r0)
              | i + 2 =>
                have hr : (rs8.drop 2)[i]? = some r := hr
                rw [List.getElem?_drop] at hr
                have := t13 _ _ (gr8 _ _ hr)
                rw [this, Nat.add_comm 2 i]
                rfl
          refine ⟨c3, n, _, rfl, T16, n1, n4, fun i j _ _ => Nat.le_trans (aM _ j) (by decide), fun H17 s17 => ?_⟩
          refine ⟨_, rfl, _, rfl, rfl, ?_⟩
          rw [dt_swp n4 (by decide) (by omega), decide_eq_true rfl]
          exact q _

end
/-! ### what the top has written -/
theorem all_mk {l : PySem.W.OpenLaw} {w : World} {K : PySem.W.Frag} {h : Heap} {mg : Str → Option Value} {fa f__law_same f__law_spread f__law_draw f__law_pool f__law_matrix f__law_orders f_first_with_entry f_determinant f_law  : Addr} (X : K.In h) (G : h.Ns mainGlobals mg) (hfa : mg "law" = some (.ref fa))
    {od__law_same an__law_same od__law_spread an__law_spread od__law_draw an__law_draw od__law_pool an__law_pool od__law_matrix an__law_matrix od__law_orders an__law_orders od_first_with_entry an_first_with_entry od_determinant an_determinant od_law an_law : Option Addr} {sl__law_same sl__law_spread sl__law_draw sl__law_pool sl__law_matrix sl__law_orders sl_first_with_entry sl_determinant sl_law : Array (Option Value)} {oc__law_same kV__law_same dc__law_same pm__law_same cd__law_same ct__law_same oc__law_spread kV__law_spread dc__law_spread pm__law_spread cd__law_spread ct__law_spread oc__law_draw kV__law_draw dc__law_draw pm__law_draw cd__law_draw ct__law_draw oc__law_pool kV__law_pool dc__law_pool pm__law_pool cd__law_pool ct__law_pool oc__law_matrix kV__law_matrix dc__law_matrix pm__law_matrix cd__law_matrix ct__law_matrix oc__law_orders kV__law_orders dc__law_orders pm__law_orders cd__law_orders ct__law_orders oc_first_with_entry kV_first_with_entry dc_first_with_entry pm_first_with_entry cd_first_with_entry ct_first_with_entry oc_determinant kV_determinant dc_determinant pm_determinant cd_determinant ct_determinant oc_law kV_law dc_law pm_law cd_law ct_law : Value}
    (a__law_same : PySem.W.nsIn K mainGlobals "_law_same" = some (some (.ref f__law_same))) (l__law_same : K.lookup f__law_same = some ⟨oc__law_same, od__law_same, .func (PySem.W.fnOf "_law_same" "_law_same" (defArgs s__law_same) (defBody s__law_same) (defScope s__law_same) .none kV__law_same dc__law_same pm__law_same an__law_same cd__law_same ct__law_same), sl__law_same⟩) (c__law_same : PySem.W.codeIn K cd__law_same "_law_same" = true) (k__law_same : PySem.W.keepIn K (.ref f__law_same) = true)
    (a__law_spread : PySem.W.nsIn K mainGlobals "_law_spread" = some (some (.ref f__law_spread))) (l__law_spread : K.lookup f__law_spread = some ⟨oc__law_spread, od__law_spread, .func (PySem.W.fnOf "_law_spread" "_law_spread" (defArgs s__law_spread) (defBody s__law_spread) (defScope s__law_spread) .none kV__law_spread dc__law_spread pm__law_spread an__law_spread cd__law_spread ct__law_spread), sl__law_spread⟩) (c__law_spread : PySem.W.codeIn K cd__law_spread "_law_spread" = true) (k__law_spread : PySem.W.keepIn K (.ref f__law_spread) = true)
    (a__law_draw : PySem.W.nsIn K mainGlobals "_law_draw" = some (some (.ref f__law_draw))) (l__law_draw : K.lookup f__law_draw = some ⟨oc__law_draw, od__law_draw, .func (PySem.W.fnOf "_law_draw" "_law_draw" (defArgs s__law_draw) (defBody s__law_draw) (defScope s__law_draw) .none kV__law_draw dc__law_draw pm__law_draw an__law_draw cd__law_draw ct__law_draw), sl__law_draw⟩) (c__law_draw : PySem.W.codeIn K cd__law_draw "_law_draw" = true) (k__law_draw : PySem.W.keepIn K (.ref f__law_draw) = true)
    (a__law_pool : PySem.W.nsIn K mainGlobals "_law_pool" = some (some (.ref f__law_pool))) (l__law_pool : K.lookup f__law_pool = some ⟨oc__law_pool, od__law_pool, .func (PySem.W.fnOf "_law_pool" "_law_pool" (defArgs s__law_pool) (defBody s__law_pool) (defScope s__law_pool) .none kV__law_pool dc__law_pool pm__law_pool an__law_pool cd__law_pool ct__law_pool), sl__law_pool⟩) (c__law_pool : PySem.W.codeIn K cd__law_pool "_law_pool" = true) (k__law_pool : PySem.W.keepIn K (.ref f__law_pool) = true)
    (a__law_matrix : PySem.W.nsIn K mainGlobals "_law_matrix" = some (some (.ref f__law_matrix))) (l__law_matrix : K.lookup f__law_matrix = some ⟨oc__law_matrix, od__law_matrix, .func (PySem.W.fnOf "_law_matrix" "_law_matrix" (defArgs s__law_matrix) (defBody s__law_matrix) (defScope s__law_matrix) .none kV__law_matrix dc__law_matrix pm__law_matrix an__law_matrix cd__law_matrix ct__law_matrix), sl__law_matrix⟩) (c__law_matrix : PySem.W.codeIn K cd__law_matrix "_law_matrix" = true) (k__law_matrix : PySem.W.keepIn K (.ref f__law_matrix) = true)
    (a__law_orders : PySem.W.nsIn K mainGlobals "_law_orders" = some (some (.ref f__law_orders))) (l__law_orders : K.lookup f__law_orders = some ⟨oc__law_orders, od__law_orders, .func (PySem.W.fnOf "_law_orders" "_law_orders" (defArgs s__law_orders) (defBody s__law_orders) (defScope s__law_orders) .none kV__law_orders dc__law_orders pm__law_orders an__law_orders cd__law_orders ct__law_orders), sl__law_orders⟩) (c__law_orders : PySem.W.codeIn K cd__law_orders "_law_orders" = true) (k__law_orders : PySem.W.keepIn K (.ref f__law_orders) = true)
    (a_first_with_entry : PySem.W.nsIn K mainGlobals "first_with_entry" = some (some (.ref f_first_with_entry))) (l_first_with_entry : K.lookup f_first_with_entry = some ⟨oc_first_with_entry, od_first_with_entry, .func (PySem.W.fnOf "first_with_entry" "first_with_entry" (defArgs s_first_with_entry) (defBody s_first_with_entry) (defScope s_first_with_entry) .none kV_first_with_entry dc_first_with_entry pm_first_with_entry an_first_with_entry cd_first_with_entry ct_first_with_entry), sl_first_with_entry⟩) (c_first_with_entry : PySem.W.codeIn K cd_first_with_entry "first_with_entry" = true) (k_first_with_entry : PySem.W.keepIn K (.ref f_first_with_entry) = true)
    (a_determinant : PySem.W.nsIn K mainGlobals "determinant" = some (some (.ref f_determinant))) (l_determinant : K.lookup f_determinant = some ⟨oc_determinant, od_determinant, .func (PySem.W.fnOf "determinant" "determinant" (defArgs s_determinant) (defBody s_determinant) (defScope s_determinant) .none kV_determinant dc_determinant pm_determinant an_determinant cd_determinant ct_determinant), sl_determinant⟩) (c_determinant : PySem.W.codeIn K cd_determinant "determinant" = true) (k_determinant : PySem.W.keepIn K (.ref f_determinant) = true)
    (a_law : PySem.W.nsIn K mainGlobals "law" = some (some (.ref f_law))) (l_law : K.lookup f_law = some ⟨oc_law, od_law, .func (PySem.W.fnOf "law" "law" (defArgs s_law) (defBody s_law) (defScope s_law) .none kV_law dc_law pm_law an_law cd_law ct_law), sl_law⟩) (c_law : PySem.W.codeIn K cd_law "law" = true) (k_law : PySem.W.keepIn K (.ref f_law) = true)
    (z_len : PySem.W.nsIn K mainGlobals "len" = some none) (z_range : PySem.W.nsIn K mainGlobals "range" = some none) (z_int : PySem.W.nsIn K mainGlobals "int" = some none) (z_list : PySem.W.nsIn K mainGlobals "list" = some none) (z_tuple : PySem.W.nsIn K mainGlobals "tuple" = some none) (z_bool : PySem.W.nsIn K mainGlobals "bool" = some none) (z_isinstance : PySem.W.nsIn K mainGlobals "isinstance" = some none) (z_abs : PySem.W.nsIn K mainGlobals "abs" = some none) (z_sum : PySem.W.nsIn K mainGlobals "sum" = some none) (z_zip : PySem.W.nsIn K mainGlobals "zip" = some none) (z_str : PySem.W.nsIn K mainGlobals "str" = some none) (z_any : PySem.W.nsIn K mainGlobals "any" = some none) (z_all : PySem.W.nsIn K mainGlobals "all" = some none)
    : ∃ fd : FuncData, (∀ (s : Shared) (v : Value), BindsTo s fd ⟨[v], []⟩ [("script", v)]) ∧ ∀ base : Heap, K.In base → base.Ns mainGlobals mg → FnOk l.prog w K mg base CX0 7 fa fd ["script"] (spLaw K) := by
  have e := hfa.symm.trans (PySem.W.mg_of X G a_law)
  cases e
  have F__law_same := fun_mk (st := s__law_same) l__law_same c__law_same k__law_same
  have b__law_same := F__law_same.binds (ps := ["actual", "due"]) fun _ _ _ _ _ _ us hl => match us, hl with | [_, _], _ => rfl
  have F__law_spread := fun_mk (st := s__law_spread) l__law_spread c__law_spread k__law_spread
  have b__law_spread := F__law_spread.binds (ps := ["cell"]) fun _ _ _ _ _ _ us hl => match us, hl with | [_], _ => rfl
  have F__law_draw := fun_mk (st := s__law_draw) l__law_draw c__law_draw k__law_draw
  have b__law_draw := F__law_draw.binds (ps := ["pool", "many"]) fun _ _ _ _ _ _ us hl => match us, hl with | [_, _], _ => rfl
  have F__law_pool := fun_mk (st := s__law_pool) l__law_pool c__law_pool k__law_pool
  have b__law_pool := F__law_pool.binds (ps := ["script"]) fun _ _ _ _ _ _ us hl => match us, hl with | [_], _ => rfl
  have F__law_matrix := fun_mk (st := s__law_matrix) l__law_matrix c__law_matrix k__law_matrix
  have b__law_matrix := F__law_matrix.binds (ps := ["pool", "many", "size"]) fun _ _ _ _ _ _ us hl => match us, hl with | [_, _, _], _ => rfl
  have F__law_orders := fun_mk (st := s__law_orders) l__law_orders c__law_orders k__law_orders
  have b__law_orders := F__law_orders.binds (ps := ["items"]) fun _ _ _ _ _ _ us hl => match us, hl with | [_], _ => rfl
  have F_first_with_entry := fun_mk (st := s_first_with_entry) l_first_with_entry c_first_with_entry k_first_with_entry
  have b_first_with_entry := F_first_with_entry.binds (ps := ["rows", "column", "start"]) fun _ _ _ _ _ _ us hl => match us, hl with | [_, _, _], _ => rfl
  have F_determinant := fun_mk (st := s_determinant) l_determinant c_determinant k_determinant
  have b_determinant := F_determinant.binds (ps := ["rows"]) fun _ _ _ _ _ _ us hl => match us, hl with | [_], _ => rfl
  have F_law := fun_mk (st := s_law) l_law c_law k_law
  have Z : Glb mg := ⟨PySem.W.mg_none_of X G z_len, PySem.W.mg_none_of X G z_range, PySem.W.mg_none_of X G z_int, PySem.W.mg_none_of X G z_list, PySem.W.mg_none_of X G z_tuple, PySem.W.mg_none_of X G z_bool, PySem.W.mg_none_of X G z_isinstance, PySem.W.mg_none_of X G z_abs, PySem.W.mg_none_of X G z_sum, PySem.W.mg_none_of X G z_zip, PySem.W.mg_none_of X G z_str, PySem.W.mg_none_of X G z_any, PySem.W.mg_none_of X G z_all⟩
  refine ⟨PySem.W.fnOf "law" "law" (defArgs s_law) (defBody s_law) (defScope s_law) .none kV_law dc_law pm_law an_law cd_law ct_law, fun s v => .of_eq rfl, fun base _ _ => ?_⟩
  have S__law_pool_6 : FnOk l.prog w K mg base CX0 6 f__law_pool _ ["script"] (spPool K) := ok_pool (k := 5) F__law_pool Z 
  have C__law_pool_6 : Call l.prog w K mg base 6 "_law_pool" ["script"] (spPool K) := ⟨f__law_pool, _, S__law_pool_6, PySem.W.mg_of X G a__law_pool, F__law_pool.kp, b__law_pool⟩
  have S__law_spread_5 : FnOk l.prog w K mg base CX0 5 f__law_spread _ ["cell"] spSpread := ok_spread (k := 4) F__law_spread Z 
  have C__law_spread_5 : Call l.prog w K mg base 5 "_law_spread" ["cell"] spSpread := ⟨f__law_spread, _, S__law_spread_5, PySem.W.mg_of X G a__law_spread, F__law_spread.kp, b__law_spread⟩
  have S__law_draw_6 : FnOk l.prog w K mg base CX0 6 f__law_draw _ ["pool", "many"] spDraw := ok_draw (k := 5) F__law_draw Z  C__law_spread_5
  have C__law_draw_6 : Call l.prog w K mg base 6 "_law_draw" ["pool", "many"] spDraw := ⟨f__law_draw, _, S__law_draw_6, PySem.W.mg_of X G a__law_draw, F__law_draw.kp, b__law_draw⟩
  have S_same_0_6 := ok_same (P := l.prog) (w := w) (base := base) (k := 5) (n := 0) F__law_same Z (fun m e => absurd e (by omega)) (PySem.W.mg_of X G a__law_same) b__law_same
  have DS_same_0_6 : Call l.prog w K mg base 6 "_law_same" ["actual", "due"] (spSame 0) := ⟨f__law_same, _, S_same_0_6, PySem.W.mg_of X G a__law_same, F__law_same.kp, b__law_same⟩
  have S__law_spread_4 : FnOk l.prog w K mg base CX0 4 f__law_spread _ ["cell"] spSpread := ok_spread (k := 3) F__law_spread Z 
  have C__law_spread_4 : Call l.prog w K mg base 4 "_law_spread" ["cell"] spSpread := ⟨f__law_spread, _, S__law_spread_4, PySem.W.mg_of X G a__law_spread, F__law_spread.kp, b__law_spread⟩
  have S__law_draw_5 : FnOk l.prog w K mg base CX0 5 f__law_draw _ ["pool", "many"] spDraw := ok_draw (k := 4) F__law_draw Z  C__law_spread_4
  have C__law_draw_5 : Call l.prog w K mg base 5 "_law_draw" ["pool", "many"] spDraw := ⟨f__law_draw, _, S__law_draw_5, PySem.W.mg_of X G a__law_draw, F__law_draw.kp, b__law_draw⟩
  have S__law_matrix_6 : FnOk l.prog w K mg base CX0 6 f__law_matrix _ ["pool", "many", "size"] spMatrix := ok_matrix (k := 5) F__law_matrix Z  C__law_draw_5
  have C__law_matrix_6 : Call l.prog w K mg base 6 "_law_matrix" ["pool", "many", "size"] spMatrix := ⟨f__law_matrix, _, S__law_matrix_6, PySem.W.mg_of X G a__law_matrix, F__law_matrix.kp, b__law_matrix⟩
  have S__law_orders_v_0_5 : FnOk l.prog w K mg base CX0 5 f__law_orders _ ["items"] (spOrders 0) := ok_orders (k := 4) (n := 0) F__law_orders Z (fun m e => absurd e (by omega)) (PySem.W.mg_of X G a__law_orders) b__law_orders
  have C__law_orders_v_0_5 : Call l.prog w K mg base 5 "_law_orders" ["items"] (spOrders 0) := ⟨f__law_orders, _, S__law_orders_v_0_5, PySem.W.mg_of X G a__law_orders, F__law_orders.kp, b__law_orders⟩
  have S__law_orders_v_0_4 : FnOk l.prog w K mg base CX0 4 f__law_orders _ ["items"] (spOrders 0) := ok_orders (k := 3) (n := 0) F__law_orders Z (fun m e => absurd e (by omega)) (PySem.W.mg_of X G a__law_orders) b__law_orders
  have C__law_orders_v_0_4 : Call l.prog w K mg base 4 "_law_orders" ["items"] (spOrders 0) := ⟨f__law_orders, _, S__law_orders_v_0_4, PySem.W.mg_of X G a__law_orders, F__law_orders.kp, b__law_orders⟩
  have S__law_orders_v_1_5 : FnOk l.prog w K mg base CX0 5 f__law_orders _ ["items"] (spOrders 1) := ok_orders (k := 4) (n := 1) F__law_orders Z (fun m e => by cases e; exact S__law_orders_v_0_4) (PySem.W.mg_of X G a__law_orders) b__law_orders
  have C__law_orders_v_1_5 : Call l.prog w K mg base 5 "_law_orders" ["items"] (spOrders 1) := ⟨f__law_orders, _, S__law_orders_v_1_5, PySem.W.mg_of X G a__law_orders, F__law_orders.kp, b__law_orders⟩
  have S__law_orders_v_0_3 : FnOk l.prog w K mg base CX0 3 f__law_orders _ ["items"] (spOrders 0) := ok_orders (k := 2) (n := 0) F__law_orders Z (fun m e => absurd e (by omega)) (PySem.W.mg_of X G a__law_orders) b__law_orders
  have C__law_orders_v_0_3 : Call l.prog w K mg base 3 "_law_orders" ["items"] (spOrders 0) := ⟨f__law_orders, _, S__law_orders_v_0_3, PySem.W.mg_of X G a__law_orders, F__law_orders.kp, b__law_orders⟩
  have S__law_orders_v_1_4 : FnOk l.prog w K mg base CX0 4 f__law_orders _ ["items"] (spOrders 1) := ok_orders (k := 3) (n := 1) F__law_orders Z (fun m e => by cases e; exact S__law_orders_v_0_3) (PySem.W.mg_of X G a__law_orders) b__law_orders
  have C__law_orders_v_1_4 : Call l.prog w K mg base 4 "_law_orders" ["items"] (spOrders 1) := ⟨f__law_orders, _, S__law_orders_v_1_4, PySem.W.mg_of X G a__law_orders, F__law_orders.kp, b__law_orders⟩
  have S__law_orders_v_2_5 : FnOk l.prog w K mg base CX0 5 f__law_orders _ ["items"] (spOrders 2) := ok_orders (k := 4) (n := 2) F__law_orders Z (fun m e => by cases e; exact S__law_orders_v_1_4) (PySem.W.mg_of X G a__law_orders) b__law_orders
  have C__law_orders_v_2_5 : Call l.prog w K mg base 5 "_law_orders" ["items"] (spOrders 2) := ⟨f__law_orders, _, S__law_orders_v_2_5, PySem.W.mg_of X G a__law_orders, F__law_orders.kp, b__law_orders⟩
  have S__law_orders_v_0_2 : FnOk l.prog w K mg base CX0 2 f__law_orders _ ["items"] (spOrders 0) := ok_orders (k := 1) (n := 0) F__law_orders Z (fun m e => absurd e (by omega)) (PySem.W.mg_of X G a__law_orders) b__law_orders
  have C__law_orders_v_0_2 : Call l.prog w K mg base 2 "_law_orders" ["items"] (spOrders 0) := ⟨f__law_orders, _, S__law_orders_v_0_2, PySem.W.mg_of X G a__law_orders, F__law_orders.kp, b__law_orders⟩
  have S__law_orders_v_1_3 : FnOk l.prog w K mg base CX0 3 f__law_orders _ ["items"] (spOrders 1) := ok_orders (k := 2) (n := 1) F__law_orders Z (fun m e => by cases e; exact S__law_orders_v_0_2) (PySem.W.mg_of X G a__law_orders) b__law_orders
  have C__law_orders_v_1_3 : Call l.prog w K mg base 3 "_law_orders" ["items"] (spOrders 1) := ⟨f__law_orders, _, S__law_orders_v_1_3, PySem.W.mg_of X G a__law_orders, F__law_orders.kp, b__law_orders⟩
  have S__law_orders_v_2_4 : FnOk l.prog w K mg base CX0 4 f__law_orders _ ["items"] (spOrders 2) := ok_orders (k := 3) (n := 2) F__law_orders Z (fun m e => by cases e; exact S__law_orders_v_1_3) (PySem.W.mg_of X G a__law_orders) b__law_orders
  have C__law_orders_v_2_4 : Call l.prog w K mg base 4 "_law_orders" ["items"] (spOrders 2) := ⟨f__law_orders, _, S__law_orders_v_2_4, PySem.W.mg_of X G a__law_orders, F__law_orders.kp, b__law_orders⟩
  have S__law_orders_v_3_5 : FnOk l.prog w K mg base CX0 5 f__law_orders _ ["items"] (spOrders 3) := ok_orders (k := 4) (n := 3) F__law_orders Z (fun m e => by cases e; exact S__law_orders_v_2_4) (PySem.W.mg_of X G a__law_orders) b__law_orders
  have C__law_orders_v_3_5 : Call l.prog w K mg base 5 "_law_orders" ["items"] (spOrders 3) := ⟨f__law_orders, _, S__law_orders_v_3_5, PySem.W.mg_of X G a__law_orders, F__law_orders.kp, b__law_orders⟩
  have S__law_orders_v_0_1 : FnOk l.prog w K mg base CX0 1 f__law_orders _ ["items"] (spOrders 0) := ok_orders (k := 0) (n := 0) F__law_orders Z (fun m e => absurd e (by omega)) (PySem.W.mg_of X G a__law_orders) b__law_orders
  have C__law_orders_v_0_1 : Call l.prog w K mg base 1 "_law_orders" ["items"] (spOrders 0) := ⟨f__law_orders, _, S__law_orders_v_0_1, PySem.W.mg_of X G a__law_orders, F__law_orders.kp, b__law_orders⟩
  have S__law_orders_v_1_2 : FnOk l.prog w K mg base CX0 2 f__law_orders _ ["items"] (spOrders 1) := ok_orders (k := 1) (n := 1) F__law_orders Z (fun m e => by cases e; exact S__law_orders_v_0_1) (PySem.W.mg_of X G a__law_orders) b__law_orders
  have C__law_orders_v_1_2 : Call l.prog w K mg base 2 "_law_orders" ["items"] (spOrders 1) := ⟨f__law_orders, _, S__law_orders_v_1_2, PySem.W.mg_of X G a__law_orders, F__law_orders.kp, b__law_orders⟩
  have S__law_orders_v_2_3 : FnOk l.prog w K mg base CX0 3 f__law_orders _ ["items"] (spOrders 2) := ok_orders (k := 2) (n := 2) F__law_orders Z (fun m e => by cases e; exact S__law_orders_v_1_2) (PySem.W.mg_of X G a__law_orders) b__law_orders
  have C__law_orders_v_2_3 : Call l.prog w K mg base 3 "_law_orders" ["items"] (spOrders 2) := ⟨f__law_orders, _, S__law_orders_v_2_3, PySem.W.mg_of X G a__law_orders, F__law_orders.kp, b__law_orders⟩
  have S__law_orders_v_3_4 : FnOk l.prog w K mg base CX0 4 f__law_orders _ ["items"] (spOrders 3) := ok_orders (k := 3) (n := 3) F__law_orders Z (fun m e => by cases e; exact S__law_orders_v_2_3) (PySem.W.mg_of X G a__law_orders) b__law_orders
  have C__law_orders_v_3_4 : Call l.prog w K mg base 4 "_law_orders" ["items"] (spOrders 3) := ⟨f__law_orders, _, S__law_orders_v_3_4, PySem.W.mg_of X G a__law_orders, F__law_orders.kp, b__law_orders⟩
  have S__law_orders_v_4_5 : FnOk l.prog w K mg base CX0 5 f__law_orders _ ["items"] (spOrders 4) := ok_orders (k := 4) (n := 4) F__law_orders Z (fun m e => by cases e; exact S__law_orders_v_3_4) (PySem.W.mg_of X G a__law_orders) b__law_orders
  have C__law_orders_v_4_5 : Call l.prog w K mg base 5 "_law_orders" ["items"] (spOrders 4) := ⟨f__law_orders, _, S__law_orders_v_4_5, PySem.W.mg_of X G a__law_orders, F__law_orders.kp, b__law_orders⟩
  have S__law_orders_6 : FnOk l.prog w K mg base CX0 6 f__law_orders _ ["items"] spOrdersAny := fn_any (N := 4) fun n hn => match n, hn with | 0, _ => S__law_orders_v_0_5.mono (by decide) | 1, _ => S__law_orders_v_1_5.mono (by decide) | 2, _ => S__law_orders_v_2_5.mono (by decide) | 3, _ => S__law_orders_v_3_5.mono (by decide) | 4, _ => S__law_orders_v_4_5.mono (by decide) | n + 5, h => absurd h (by omega)
  have C__law_orders_6 : Call l.prog w K mg base 6 "_law_orders" ["items"] spOrdersAny := ⟨f__law_orders, _, S__law_orders_6, PySem.W.mg_of X G a__law_orders, F__law_orders.kp, b__law_orders⟩
  have S_first_with_entry_5 : FnOk l.prog w K mg base CX0 5 f_first_with_entry _ ["rows", "column", "start"] spFirst := ok_first (k := 4) F_first_with_entry Z 
  have C_first_with_entry_5 : Call l.prog w K mg base 5 "first_with_entry" ["rows", "column", "start"] spFirst := ⟨f_first_with_entry, _, S_first_with_entry_5, PySem.W.mg_of X G a_first_with_entry, F_first_with_entry.kp, b_first_with_entry⟩
  have S_determinant_6 : FnOk l.prog w K mg base CX0 6 f_determinant _ ["rows"] spDet := ok_det (k := 5) F_determinant Z  C_first_with_entry_5
  have C_determinant_6 : Call l.prog w K mg base 6 "determinant" ["rows"] spDet := ⟨f_determinant, _, S_determinant_6, PySem.W.mg_of X G a_determinant, F_determinant.kp, b_determinant⟩
  exact ok_law (P := l.prog) (w := w) (base := base) (k := 6) F_law Z  C__law_pool_6 C__law_draw_6 DS_same_0_6 C__law_matrix_6 C__law_orders_6 C_determinant_6
end HwP
open PySem PySem.W PyProof.Rows
set_option maxHeartbeats 0 in
theorem PySem.Challenge.cw_hullwright_k06_determinants_holds : PySem.Challenge.rw_hullwright_k06_determinants.Holds := by
  w_on; o_law; k_head; (case hw => w_witness2)
  k_fill
  refine L2.walk_of (l := PySem.Challenge.rw_hullwright_k06_determinants) (n := 63) (k := 7) (x := "script") (CX := fun _ => L2.CX0) (sp := fun w => HwP.spLaw _) rfl (by decide) rfl ⟨rfl, by decide, by decide⟩ (fun w h Y => PySem.W.kIn_of Y) ?F (fun _ _ a ns hl _ hS => ⟨a, ns, rfl, hS, fun _ => rfl⟩) (fun _ _ _ _ _ h => h)
  case F =>
    intro w mg fa h KX G hmg
    refine' HwP.all_mk KX G hmg (a__law_same := ?a__law_same) (l__law_same := ?l__law_same) (c__law_same := ?c__law_same) (k__law_same := ?k__law_same) (a__law_spread := ?a__law_spread) (l__law_spread := ?l__law_spread) (c__law_spread := ?c__law_spread) (k__law_spread := ?k__law_spread) (a__law_draw := ?a__law_draw) (l__law_draw := ?l__law_draw) (c__law_draw := ?c__law_draw) (k__law_draw := ?k__law_draw) (a__law_pool := ?a__law_pool) (l__law_pool := ?l__law_pool) (c__law_pool := ?c__law_pool) (k__law_pool := ?k__law_pool) (a__law_matrix := ?a__law_matrix) (l__law_matrix := ?l__law_matrix) (c__law_matrix := ?c__law_matrix) (k__law_matrix := ?k__law_matrix) (a__law_orders := ?a__law_orders) (l__law_orders := ?l__law_orders) (c__law_orders := ?c__law_orders) (k__law_orders := ?k__law_orders) (a_first_with_entry := ?a_first_with_entry) (l_first_with_entry := ?l_first_with_entry) (c_first_with_entry := ?c_first_with_entry) (k_first_with_entry := ?k_first_with_entry) (a_determinant := ?a_determinant) (l_determinant := ?l_determinant) (c_determinant := ?c_determinant) (k_determinant := ?k_determinant) (a_law := ?a_law) (l_law := ?l_law) (c_law := ?c_law) (k_law := ?k_law) (z_len := ?z_len) (z_range := ?z_range) (z_int := ?z_int) (z_list := ?z_list) (z_tuple := ?z_tuple) (z_bool := ?z_bool) (z_isinstance := ?z_isinstance) (z_abs := ?z_abs) (z_sum := ?z_sum) (z_zip := ?z_zip) (z_str := ?z_str) (z_any := ?z_any) (z_all := ?z_all)
    (case a__law_same => k_is)
    (case l__law_same => k_is)
    (case c__law_same => k_is)
    (case k__law_same => k_is)
    (case a__law_spread => k_is)
    (case l__law_spread => k_is)
    (case c__law_spread => k_is)
    (case k__law_spread => k_is)
    (case a__law_draw => k_is)
    (case l__law_draw => k_is)
    (case c__law_draw => k_is)
    (case k__law_draw => k_is)
    (case a__law_pool => k_is)
    (case l__law_pool => k_is)
    (case c__law_pool => k_is)
    (case k__law_pool => k_is)
    (case a__law_matrix => k_is)
    (case l__law_matrix => k_is)
    (case c__law_matrix => k_is)
    (case k__law_matrix => k_is)
    (case a__law_orders => k_is)
    (case l__law_orders => k_is)
    (case c__law_orders => k_is)
    (case k__law_orders => k_is)
    (case a_first_with_entry => k_is)
    (case l_first_with_entry => k_is)
    (case c_first_with_entry => k_is)
    (case k_first_with_entry => k_is)
    (case a_determinant => k_is)
    (case l_determinant => k_is)
    (case c_determinant => k_is)
    (case k_determinant => k_is)
    (case a_law => k_is)
    (case l_law => k_is)
    (case c_law => k_is)
    (case k_law => k_is)
    (case z_len => k_is)
    (case z_range => k_is)
    (case z_int => k_is)
    (case z_list => k_is)
    (case z_tuple => k_is)
    (case z_bool => k_is)
    (case z_isinstance => k_is)
    (case z_abs => k_is)
    (case z_sum => k_is)
    (case z_zip => k_is)
    (case z_str => k_is)
    (case z_any => k_is)
    (case z_all => k_is)

