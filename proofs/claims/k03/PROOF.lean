import PyProof.Rows.All
import Wide.All
import OpenK.AllK
import Wide.FinOn
import HandS.ForMost
import HandS.Wide
import HandS.Gcd
import HandS.IsInst
import HandS.Codes
import HandS.Zip
import HandS.Walk
import PyProof.WalksMore
import PyProof.ConsumeWalk
import PyProof.JoinWalk
import KE.GoesMore
import KE.GoesEnum
import KE.GoesZip
import HandS.TupMul
import HandS.Conv
import HandS.WideBits
import HandS.TupAny
import HandS.Exc
import HandS.TryOnly
import HandS.ExcOwn
import HandS.WordsExc
import HandS.ExcIs
import HandS.Text
import HandS.Rev
import HandS.RevTup
import HandS.AnyAll
import HandS.EndTab
import PySem.Challenge.RW_hullwright_k03_texts_of_fractions
set_option Elab.async false
set_option linter.all false
set_option maxRecDepth 100000
set_option maxHeartbeats 4000000

namespace Hw
/-- Euclid's loop, by its turn -/
def Fit (i A B : Nat) : Prop := (i = 0 ∧ A * B < 2 ^ 598) ∨ (1 ≤ i ∧ B < A ∧ A * B * 2 ^ (i - 1) < 2 ^ 598)
theorem fit0 {A B : Nat} (ha : A < 2 ^ 299) (hb : B < 2 ^ 299) : Fit 0 A B := by
  refine .inl ⟨rfl, ?_⟩
  have h : A * B < 2 ^ 299 * 2 ^ 299 := Nat.mul_lt_mul'' ha hb
  rwa [← Nat.pow_add] at h
theorem fit_step {i A B : Nat} (h : Fit i A B) (hb : B ≠ 0) : Fit (i + 1) B (A % B) := by
  have hr : A % B < B := Nat.mod_lt _ (Nat.pos_of_ne_zero hb)
  refine .inr ⟨by omega, hr, ?_⟩
  rcases h with ⟨rfl, h⟩ | ⟨hi, hlt, h⟩
  · have h1 : B * (A % B) ≤ B * A := Nat.mul_le_mul_left _ (Nat.mod_le _ _)
    rw [Nat.mul_comm B A] at h1
    show B * (A % B) * 2 ^ 0 < 2 ^ 598
    rw [Nat.pow_zero, Nat.mul_one]
    omega
  · obtain ⟨j, rfl⟩ : ∃ j, i = j + 1 := ⟨i - 1, by omega⟩
    show B * (A % B) * 2 ^ (j + 1) < 2 ^ 598
    have h2 : 2 * (A % B) ≤ A := by
      have e : B * (A / B) + A % B = A := Nat.div_add_mod A B
      have q : 1 ≤ A / B := Nat.div_pos (Nat.le_of_lt hlt) (Nat.pos_of_ne_zero hb)
      have m : B * 1 ≤ B * (A / B) := Nat.mul_le_mul_left _ q
      omega
    have h3 : B * (2 * (A % B)) ≤ B * A := Nat.mul_le_mul_left _ h2
    have h4 : B * (A % B) * 2 ^ (j + 1) = B * (2 * (A % B)) * 2 ^ j := by
      rw [Nat.pow_succ]
      simp only [Nat.mul_assoc, Nat.mul_left_comm, Nat.mul_comm]
    rw [h4]
    refine Nat.lt_of_le_of_lt (Nat.mul_le_mul_right _ h3) ?_
    rw [Nat.mul_comm B A]
    exact h
theorem fit_end {A B : Nat} (h : Fit 600 A B) : B = 0 := by
  rcases h with ⟨h, _⟩ | ⟨_, hlt, h⟩
  · omega
  · by_cases hb : B = 0
    · exact hb
    · exfalso
      have h1 : 1 ≤ A * B := Nat.mul_pos (by omega) (by omega)
      have h2 : 1 * 2 ^ (600 - 1) ≤ A * B * 2 ^ (600 - 1) := Nat.mul_le_mul_right _ h1
      have h3 : (2 : Nat) ^ 598 < 2 ^ (600 - 1) := Nat.pow_lt_pow_right (by decide) (by decide)
      omega
theorem gcd_turn (A B : Nat) : Nat.gcd B (A % B) = Nat.gcd A B := by
  rw [Nat.gcd_comm B, ← Nat.gcd_rec, Nat.gcd_comm]
/-- the greatest common divisor, an int -/
def g2 (a b : Int) : Int := ((Nat.gcd a.natAbs b.natAbs : Nat) : Int)
theorem g2_pos {a b : Int} (hb : b ≠ 0) : 0 < g2 a b := by
  unfold g2
  have : 0 < Nat.gcd a.natAbs b.natAbs := Nat.gcd_pos_of_pos_right _ (by omega)
  omega
theorem g2_nn0 (a b : Int) : 0 ≤ g2 a b := by
  unfold g2
  omega
theorem g2_le {a b : Int} (hb : b ≠ 0) : (g2 a b).natAbs ≤ b.natAbs := by
  unfold g2
  have : Nat.gcd a.natAbs b.natAbs ≤ b.natAbs := Nat.gcd_le_right _ (by omega)
  omega
/-- a fraction's two entries, b > 0 -/
def frN (a b : Int) : Int := a / g2 a b
def frD (a b : Int) : Int := b / g2 a b
theorem g2_dvd_l (a b : Int) : g2 a b ∣ a := by
  unfold g2
  exact Int.ofNat_dvd_left.mpr (Nat.gcd_dvd_left _ _)
theorem g2_dvd_r (a b : Int) : g2 a b ∣ b := by
  unfold g2
  exact Int.ofNat_dvd_left.mpr (Nat.gcd_dvd_right _ _)
theorem frD_pos {a b : Int} (hb : 0 < b) : 0 < frD a b := by
  have g := g2_pos (a := a) (b := b) (by omega)
  exact Int.ediv_pos_of_pos_of_dvd hb (Int.le_of_lt g) (g2_dvd_r a b)
theorem ediv_abs {a g : Int} (hg : 0 < g) : (a / g).natAbs ≤ a.natAbs := by
  have h1 := Int.mul_ediv_self_le (x := a) (k := g) (by omega)
  have h2 := Int.lt_mul_ediv_self_add (x := a) (k := g) hg
  generalize hq : a / g = q at *
  by_cases c : 0 ≤ q
  · have : 1 * q ≤ g * q := Int.mul_le_mul_of_nonneg_right (by omega) c
    omega
  · have h3 : g * q ≤ g * (-1) + (q + 1) := by
      have : g * (q + 1) ≤ 1 * (q + 1) := Int.mul_le_mul_of_nonpos_right (by omega) (by omega)
      rw [Int.mul_add, Int.mul_one, Int.one_mul] at this
      omega
    omega
theorem frN_abs {a b : Int} (hb : b ≠ 0) : (frN a b).natAbs ≤ a.natAbs := ediv_abs (g2_pos hb)
theorem frD_abs {a b : Int} (hb : b ≠ 0) : (frD a b).natAbs ≤ b.natAbs := ediv_abs (g2_pos hb)
theorem mul_pow {x y : Int} {a b : Nat} (ha : x.natAbs < 2 ^ a) (hb : y.natAbs < 2 ^ b) : (x * y).natAbs < 2 ^ (a + b) := by
  rw [Int.natAbs_mul, Nat.pow_add]
  exact Nat.mul_lt_mul'' ha hb
theorem add_pow {x y : Int} {a : Nat} (ha : x.natAbs < 2 ^ a) (hb : y.natAbs < 2 ^ a) : (x + y).natAbs < 2 ^ (a + 1) := by
  rw [Nat.pow_succ]
  omega
theorem sub_pow {x y : Int} {a : Nat} (ha : x.natAbs < 2 ^ a) (hb : y.natAbs < 2 ^ a) : (x - y).natAbs < 2 ^ (a + 1) := by
  rw [Nat.pow_succ]
  omega
theorem up_pow {x : Nat} {a b : Nat} (h : x < 2 ^ a) (l : a ≤ b) : x < 2 ^ b := Nat.lt_of_lt_of_le h (Nat.pow_le_pow_right (by decide) l)
/-- the sign of an int -/
def sg (a : Int) : Int := if 0 < a then 1 else if a < 0 then -1 else 0
theorem sg_frN {a b : Int} (hb : b ≠ 0) : sg (frN a b) = sg a := by
  have g := g2_pos (a := a) hb
  obtain ⟨c, hc⟩ := g2_dvd_l a b
  have e : frN a b = c := by
    unfold frN
    generalize g2 a b = k at *
    subst hc
    exact Int.mul_ediv_cancel_left _ (by omega)
  rw [e]
  generalize g2 a b = k at *
  subst hc
  unfold sg
  have p1 : 0 < k * c ↔ 0 < c := ⟨fun h => Int.pos_of_mul_pos_right h (by omega), fun h => Int.mul_pos g h⟩
  have p2 : k * c < 0 ↔ c < 0 := by
    constructor
    · intro h
      by_cases q : c < 0
      · exact q
      · have := Int.mul_nonneg (Int.le_of_lt g) (show 0 ≤ c by omega)
        omega
    · intro h
      exact Int.mul_neg_of_pos_of_neg g h
  simp only [p1, p2]
end Hw

/-! ### sep.join(reversed(a list of texts)); a sign in a written text -/
namespace HwT
open PySem PySem.Spec PyProof.Rows L2 RT GxR
section
variable {prog : Program} {w : World} {A : Around} {E : Value → Shared → Prop} {s : Shared} {x : Str} {t : Tok} {Q : Value → Shared → Prop}
theorem join_rev {it l : Addr} {items : Array Value} {ys : List Str} (hh : A.handled = none) (hit : s.heap.IsRevIter it l ((items.size : Int) - 1)) (hl : s.heap.IsList l items) (hne : l ≠ it) (hn : items.size ≤ sizeLine)
    (hok : (ys.map (·.length)).sum + ys.length * x.length ≤ 16777216) (hs : ∀ acc : Array Value, ItemsOf (fun i v => items[items.size - 1 - i]? = some v) acc items.size → StrsAre acc.toList ys)
    (h : ∀ (h' : Heap) (k : Nat) (t' : Tok), (∀ b o, b ≠ it → s.heap.get? b = some o → h'.get? b = some o) → Q (.str (Txt.join x ys) t') { s with heap := h', toks := k }) :
    wpAny (model prog w) A (call (.builtin "str.join") [.str x t, .ref it]) Q E s := by
  refine wpAny_call (codeAny_call_builtin F.slot_str_join.plain F.entry_str_join (F.slot_str_join.check _ _ _ _ _ _ _ _ (typeIs_str _ _ _) (F.args_str_join_2 _ _) ?_))
  rw [join_tree_other]
  refine wpAny_bind (wpAny_typeOf hit.typeIs ?_)
  show wpAny _ A.in1 ((pyIter (.ref it)).tryCatch _ >>= fun it => collect it >>= fun items => joinTail x items) _ _ s
  refine wpAny_bind (wpAny_tryCatch (wpAny_pyIter_revIter hit ?_))
  have hh1 : A.in1.handled = none := hh
  refine wpAny_bind (collect_rev (A := A.in1) hh1 hit hl hne hn fun h' tk acc hk hacc => ?_)
  obtain ⟨ls, hv, ht⟩ := strsAre_values (hs acc hacc)
  rw [hv]
  have hok' := joinOk_of hok
  rw [← ht] at hok'
  have hok2 := hok'
  unfold JoinOk at hok2
  rw [Bool.not_eq_true'] at hok2
  have g : Gives (joinTail x (strValues ls)) (joinMade x ls) := by
    have g0 := gives_joinTail x ls hok2
    cases ls with
    | nil => exact g0
    | cons p r => cases r with
      | nil => exact g0
      | cons q r' => exact g0
  refine g prog w A (wants Q E) _ (post_join ls ⟨joinFit_length hok2, fun t' k => ?_⟩)
  rw [ht]
  exact h h' k t' hk
end
section
variable {X : Cx} {o e : Expr} {to te : TE}
def tJoinRev (K : PySem.W.Frag) (to te : TE) : TE := fun σ H Q => to σ H fun v H1 => ∃ sep : Str, v = .str sep ∧ te σ H1 fun u H2 => ∃ (a : Addr) (ys : List Str), u = .ref a ∧ SqL K H2 a (ys.map V.str) ∧ (ys.map (·.length)).sum + ys.length * sep.length ≤ 16777216 ∧ Q (.str (Txt.join sep ys.reverse)) H2
theorem pe_joinRev {p2 apos pos pos2 : Pos} (hc : X.calm = true) (ho : PE X o to) (hg2 : Gl X "reversed") (hm2 : X.mg "reversed" = none) (he : PE X e te)
    (hs : starEach [.Call (.Name "reversed" p2) [e] [] pos2] X.env = [(false, eval (.Call (.Name "reversed" p2) [e] [] pos2) X.env)] := by rfl)
    (hs2 : starEach [e] X.env = (false, eval e X.env) :: starEach [] X.env := by rfl)
    (hbase : attributeBase o "join" X.env (eval o X.env) = eval o X.env := by rfl) (hline : (apos.endLine == pos.line) = true := by rfl) :
    PE X (.Call (.Attribute o "join" apos) [.Call (.Name "reversed" p2) [e] [] pos2] [] pos) (tJoinRev X.K to te) := by
  refine ⟨fun pins s σ H Q I h => ?_⟩
  refine PySem.Call_method1 hbase hs hline (thn (ho.run pins s σ H _ I h) fun v s1 ⟨x, H1, I1, r1, q1⟩ => ?_)
  obtain ⟨sep, rfl, q1⟩ := q1
  obtain ⟨t, rfl⟩ := _root_.id r1
  refine ⟨"str", _, F.plainAttrs_str, F.slot_str_join, F.type_str_join, typeIs_str _ _ _, (fun _ e => nomatch e), Calls.callWith_builtin rfl (Calls.evalArgs_plain (Calls.spliced_cons ?_))⟩
  refine Call_ (ld_blt I1 hg2 hm2 PyProof.Rows.boot_reversed (PyProof.Rows.callWith_type1 (args_cons (thn (he.run pins s1 σ H1 _ I1 q1) fun u s2 ⟨v, H2, I2, r2, q2⟩ => args_nil ?_) hs2) hs2 (by rfl)))
  obtain ⟨a, ys, ev, hq, hz2, q⟩ := q2
  subst ev
  obtain rfl : u = Value.ref a := r2
  obtain ⟨its, rv, p', hz⟩ := I2.list hq
  refine call_reversed_list p'.isList (Calls.spliced_nil ?_)
  have k0 : ∀ b o, s2.heap.get? b = some o → (s2.heap.push (revObj a ((its.toArray.size : Int) - 1))).get? b = some o := fun b o e => Heap.get?_push_of_some _ e
  have I3 : Inv X pins σ H2 { s2 with heap := s2.heap.push (revObj a ((its.toArray.size : Int) - 1)) } := I2.kept (t' := s2.toks) k0
  obtain ⟨f0, f1, f2, f3, f4, f5⟩ := I2.fpOk (H' := H2) (b := s2.heap.objs.size) (Nat.le_refl _) (I2.hok.fresh (Nat.le_refl _))
  have hl := p'.isList
  obtain ⟨ol, hol, _⟩ := _root_.id hl
  have hne : a ≠ s2.heap.objs.size := Nat.ne_of_lt (Heap.lt_size hol)
  have hn : its.toArray.size ≤ sizeLine := by rw [List.size_toArray, ← rv.length]; exact hz
  have e1 : (ys.reverse.map (·.length)).sum = (ys.map (·.length)).sum := by
    rw [List.map_reverse]
    exact List.sum_reverse _
  refine join_rev (s := { s2 with heap := s2.heap.push (revObj a ((its.toArray.size : Int) - 1)) }) (ys := ys.reverse) (I2.ok.hd hc) ⟨_, Heap.get?_push_size _ rfl, rfl, rfl⟩ (hl.push _) hne hn (by rw [e1, List.length_reverse]; exact hz2) (fun acc hi => ?_) fun h' tk t' hk => ?_
  · have := vals_rev rv hi
    rw [← List.map_reverse] at this
    exact strs_of_vals this
  · have I4 : Inv X pins σ H2 { s2 with heap := h', toks := tk } := I3.turned (t' := tk) (fun b o hb e => hk b o hb e) f0 f1 f3 f4 f5
    exact ⟨.str _, H2, I4, ⟨t', rfl⟩, q⟩
theorem elt_in {prog : Program} {w : World} {scope : Scope} {x k : Str} {j : Nat} {p1 p2 p3 : Pos} (hk : scope.kind = .function) (hl : scope.names.lookup x = some .local) (hd : (x == ("__debug__" : Str)) = false := by decide) :
    EltP prog w scope x (.Compare (.Name x p1) [.In] [.Constant (.str k) j p2] p3) (fun c => decide (c ∈ k.cps.toList)) := by
  intro cenv A' E' c t s₂ m₂ hs hn hm
  refine wpAny_Compare1 ?_
  refine wpAny_Name (wpAny_loadName_local (by rw [hs]; exact hk) (show cenv.scope.names.lookup x = some .local by rw [hs]; exact hl) hn hm ?_) hd
  refine Calls.Constant_str ?_
  exact PyProof.Rows.in_str ⟨by rw [PySem.StrLaws.found_one], keeps_tok _ _⟩
end
end HwT

/-! ### operations that the layer lacks -/
namespace HwG
open PySem PySem.Spec PyProof.Rows L2 RZ
theorem tuple_mul1 (l : Addr) (items : Array Value) (n : Nat) (dd : Option Addr) (sl : Array (Option Value)) (x : Int) (u : Tok) (c0 : (decide (x < -(2 ^ 63)) || decide (x ≥ 2 ^ 63)) = false) (c1 : (items.isEmpty || x == 1) = true) :
    Meets (Builtin.«tuple.__mul__» ⟨[.ref l, .int x u], []⟩) (fun _ R s => s.heap.get? l = some { cls := .type "tuple", dict := dd, data := .seq items n, slots := sl } ∧
      R (.ok (.ret (Value.ref l))) s) :=
  .of_wp fun prog w A R s h => by
    obtain ⟨hp, g, d, tk, os⟩ := s
    obtain ⟨hl, h⟩ := h
    have f1 := AutoSeq1.idx_int
    wp_walk using wpAny_loadPart' hl
    repeat (first
      | (refine wpAny_ite_false (decide_eq_false (by rw [c0]; exact Bool.false_ne_true)) ?_; wp_walk using wpAny_loadPart' hl)
      | (refine wpAny_ite_true (decide_eq_true c1) ?_; wp_walk using wpAny_loadPart' hl))
    exact ⟨_, rfl, h⟩
def rRepT1 (K : PySem.W.Frag) : R2 := fun x y H Q => ∃ l xs, x = .ref l ∧ y = .int 1 ∧ SqT K H l xs ∧ Q (.ref l) H
section
variable {X : Cx}
theorem op_repT1 : OpR X (binaryOp .Mult) (rRepT1 X.K) := by
  intro pins s σ H x y v u Q I rx ry h
  obtain ⟨l, xs, rfl, rfl, hT, q⟩ := h
  cases rx
  obtain ⟨t, rfl⟩ := ry
  obtain ⟨its, r, ⟨⟨cls, dd, data, sl⟩, ho, hc, n, hd⟩, hs⟩ := I.tuple hT
  simp only at hc hd
  subst hc hd
  have c0 : (decide ((1 : Int) < -(2 ^ 63)) || decide ((1 : Int) ≥ 2 ^ 63)) = false := by decide
  have c1 : (its.toArray.isEmpty || (1 : Int) == 1) = true := by
    rw [show ((1 : Int) == 1) = true by decide, Bool.or_true]
  exact wpAny_binaryOp_repeat_ref (T := "tuple") (U := "int") (by decide) ⟨_, ho, rfl⟩ (fun s' => typeIs_int s' 1 t) noFill_tuple_mul F.fills_int_mul F.slot_int_rmul repeat_tuple F.slot_int_index.lookup
    (call_meets F.slot_int_rmul (typeIs_int s 1 t) F.entry_int_rmul (F.args_int_rmul_2 _ _) (int_rmul_tuple 1 t l its.toArray n dd sl)
      ⟨ho, rfl, ⟨_, ho, rfl⟩, call_meets F.slot_tuple_mul ⟨_, ho, rfl⟩ F.entry_tuple_mul (F.args_tuple_mul_2 _ _) (tuple_mul1 l its.toArray n dd sl 1 t c0 c1) ⟨ho, .ref l, H, I, rfl, q⟩⟩)
def rRepA (K : PySem.W.Frag) : R2 := fun x y H Q => rRepT K x y H Q ∨ rRepT1 K x y H Q
/-- a tuple times 1 .. 1000 -/
theorem op_repA : OpR X (binaryOp .Mult) (rRepA X.K) := by
  intro pins s σ H x y v u Q I rx ry q
  rcases q with q | q
  · exact op_repT pins s σ H x y v u Q I rx ry q
  · exact op_repT1 pins s σ H x y v u Q I rx ry q
/-- // by a divisor of any sign -/
def CDivA (_ j : Int) : Prop := j ≠ 0 ∧ j.natAbs.log2 < 9000
theorem op_fdivA : OpR X (binaryOp .FloorDiv) (rI CDivA fun i j => .int (i.fdiv j)) := opI fun i j _ _ _ _ _ hc q => floordiv_int hc.1 q (.inl (PyProof.noPylong_of_log2 hc.2))
end
/-- zip of two tuples, walked -/
theorem walk_zipT {K : PySem.W.Frag} {a b : Addr} {xs ys : List V} {n : Nat} (h1 : xs.length = n) (h2 : ys.length = n) : Walk (ItzT K a b) n (fun H => SqT K H a xs ∧ SqT K H b ys) (YPair (fun i => xs[i]?) (fun i => ys[i]?)) :=
  ⟨fun i H hi hG => ⟨xs, ys, xs[i], ys[i], hG.1, hG.2, List.getElem?_eq_getElem (by omega), List.getElem?_eq_getElem (by omega)⟩, fun H hG => ⟨xs, ys, hG.1, hG.2, .inl (by omega)⟩,
    fun i H x H' hi hG y => by
      obtain ⟨T, u, v, e1, e2, e3, e4, e5⟩ := y
      exact ⟨T, u, v, e1, e2, e3, e4 _ hG.1, e5 _ hG.2⟩⟩
end HwG

/-! ### zip of a list or tuple with a list or tuple -/
namespace HwZ
open PySem PySem.Spec PyProof.Rows L2 RZ
/-- at a stands a sequence: a tuple (true) or a list -/
def Sk (K : PySem.W.Frag) (k : Bool) (H : Hp) (a : Addr) (xs : List V) : Prop := match k with
  | true => SqT K H a xs
  | false => SqL K H a xs
def AtK (k : Bool) (h : Heap) (it a : Addr) (i : Nat) : Prop := match k with
  | true => h.IsTupleIter it a i
  | false => h.IsListIter it a i
def SeqK (k : Bool) (h : Heap) (a : Addr) (its : Array Value) : Prop := match k with
  | true => h.IsTuple a its
  | false => h.IsList a its
def begK (k : Bool) (a : Addr) : Obj := match k with
  | true => { cls := .type "tuple_iterator", data := .fields #[.ref a, .int 0 0] }
  | false => { cls := .type "list_iterator", data := .fields #[.ref a, .int 0 0] }
theorem drawsK (k : Bool) {prog : Program} {w : World} {A : Around} (hh : A.handled = none) (it a : Addr) (ne : a ≠ it) (its : Array Value) :
    Draws prog w A it [it, a] its.size (fun i v => its[i]? = some v) (fun i h => AtK k h it a i ∧ SeqK k h a its) := by
  cases k with
  | true => exact Draws.tuple hh it a ne its
  | false => exact Draws.list hh it a ne its
theorem beginsK (k : Bool) (a : Addr) (its : Array Value) : Begins (.ref a) (begK k a) fun h => SeqK k h a its := by
  cases k with
  | true => exact begins_tuple a its
  | false => exact begins_list a its
theorem atK_beg {k : Bool} {h : Heap} {it a : Addr} (e : h.get? it = some (begK k a)) : AtK k h it a 0 := by
  cases k with
  | true => exact ⟨_, e, rfl, rfl⟩
  | false => exact ⟨_, e, rfl, rfl⟩
theorem atK_at {k : Bool} {h h' : Heap} {it a : Addr} {i : Nat} (x : AtK k h it a i) (f : ∀ o, h.get? it = some o → h'.get? it = some o) : AtK k h' it a i := by
  cases k with
  | true => exact Heap.IsTupleIter.at x f
  | false => exact Heap.IsListIter.at x f
theorem atK_obj {k : Bool} {h : Heap} {it a : Addr} {i : Nat} (x : AtK k h it a i) : ∃ o, h.get? it = some o ∧ ∀ v, o.data ≠ .cell v := by
  cases k with
  | true =>
    obtain ⟨o, e, _, d⟩ := x
    exact ⟨o, e, fun v q => by rw [d] at q; cases q⟩
  | false =>
    obtain ⟨o, e, _, d⟩ := x
    exact ⟨o, e, fun v q => by rw [d] at q; cases q⟩
section
variable {X : Cx} {pins : List (Addr × Obj)} {σ : L2.St} {H : Hp} {s : Shared}
theorem sk_read {k : Bool} {a : Addr} {xs : List V} (I : Inv X pins σ H s) (h : Sk X.K k H a xs) : ∃ its : List Value, Vals xs its ∧ SeqK k s.heap a its.toArray := by
  cases k with
  | true =>
    obtain ⟨its, r, p, _⟩ := I.tuple h
    exact ⟨its, r, p⟩
  | false =>
    obtain ⟨its, r, p, _⟩ := I.list h
    exact ⟨its, r, p.isList⟩
theorem sk_inj {k : Bool} {a : Addr} {xs ys : List V} (I : Inv X pins σ H s) (h : Sk X.K k H a xs) (h' : Sk X.K k H a ys) : xs = ys := by
  cases k with
  | true => exact I.tuple_inj h h'
  | false => exact I.list_inj h h'
theorem seqK_lt {k : Bool} {h : Heap} {a : Addr} {its : Array Value} (x : SeqK k h a its) : a < h.objs.size := by
  cases k with
  | true =>
    obtain ⟨o, e, _⟩ := x
    exact Heap.lt_size e
  | false =>
    obtain ⟨o, e, _⟩ := x
    exact Heap.lt_size e
end
/-- what the loop sees: new pairs -/
def ItzK (K : PySem.W.Frag) (k1 k2 : Bool) (a b : Addr) : It :=
  ⟨fun i H => ∃ (xs ys : List V) (x y : V), Sk K k1 H a xs ∧ Sk K k2 H b ys ∧ xs[i]? = some x ∧ ys[i]? = some y,
    fun i H v H' => ∃ T x y, v = .ref T ∧ H T = none ∧ H' = upd H T (.tup [x, y]) ∧ (∀ xs, Sk K k1 H a xs → xs[i]? = some x) ∧ ∀ ys, Sk K k2 H b ys → ys[i]? = some y,
    fun i H => ∃ xs ys : List V, Sk K k1 H a xs ∧ Sk K k2 H b ys ∧ xs.length = i ∧ ys.length = i⟩
/-- the cells of the zip at z -/
structure Cells (z TI TO i1 i2 a b : Addr) : Prop where
  sep : ZipSep2 z TI TO i1 i2 [i1, a] [i2, b]
  ai : a ≠ i1
  bi : b ≠ i2
theorem cells_of (N a b : Nat) (ha : a < N) (hb : b < N) : Cells (N + 4) (N + 2) (N + 3) N (N + 1) a b :=
  ⟨zip_sep2 (fun c h => by rw [List.mem_singleton.mp h]; exact ha) (fun c h => by rw [List.mem_singleton.mp h]; exact hb), show a ≠ N by omega, show b ≠ N + 1 by omega⟩
def Now (k1 k2 : Bool) (z TI TO i1 i2 a b : Addr) (i : Nat) (h : Heap) : Prop := IsZip h z TI TO .none ∧ IsTupOf2 h TI (.ref i1) (.ref i2) ∧ (∃ u v, IsTupOf2 h TO u v) ∧ AtK k1 h i1 a i ∧ AtK k2 h i2 b i
theorem five {z TI TO i1 i2 c : Addr} (h : c ∈ [z, TI, TO, i1, i2]) : c = z ∨ c = TI ∨ c = TO ∨ c = i1 ∨ c = i2 := by simpa using h
theorem turn_zipK {P : Program} {w : World} {K : PySem.W.Frag} {elts : List Expr} {kk : Nat} {tpos : Pos} {k1 k2 : Bool} {a b z TI TO i1 i2 : Addr} (D : Cells z TI TO i1 i2 a b) :
    Turn P w K (.Tuple elts kk tpos) (ItzK K k1 k2 a b) [z, TI, TO, i1, i2] z (Now k1 k2 z TI TO i1 i2 a b) where
  mem := by simp
  obj := fun i h st c hc => by
    obtain ⟨hz, hT, ⟨u, v, hO⟩, h1, h2⟩ := st
    rcases five hc with e | e | e | e | e <;> subst e
    · exact ⟨_, hz, fun v q => nomatch q⟩
    · exact ⟨_, hT, fun v q => nomatch q⟩
    · exact ⟨_, hO, fun v q => nomatch q⟩
    · exact atK_obj h1
    · exact atK_obj h2
  keep := fun i h h' st f => by
    obtain ⟨hz, hT, ⟨u, v, hO⟩, h1, h2⟩ := st
    have g : ∀ c ∈ [z, TI, TO, i1, i2], ∀ o, h.get? c = some o → h'.get? c = some o := f
    exact ⟨g z (by simp) _ hz, g TI (by simp) _ hT, ⟨u, v, g TO (by simp) _ hO⟩, atK_at h1 (g i1 (by simp)), atK_at h2 (g i2 (by simp))⟩
  item := by
    intro X hP hw hK hc i pins s σ H E I hf st go
    subst hP hw hK
    obtain ⟨hz, hT, ⟨u0, v0, hO⟩, h1, h2⟩ := st
    obtain ⟨xs, ys, x, y, qx, qy, ex, ey⟩ := go
    obtain ⟨its, r1, p1⟩ := sk_read I qx
    obtain ⟨jts, r2, p2⟩ := sk_read I qy
    have n1 : i < its.toArray.size := by rw [List.size_toArray, ← r1.length]; exact (List.getElem?_eq_some_iff.mp ex).1
    have n2 : i < jts.toArray.size := by rw [List.size_toArray, ← r2.length]; exact (List.getElem?_eq_some_iff.mp ey).1
    have hd : X.A.in1.handled = none := I.ok.hd hc
    have zlt : z < s.heap.objs.size := Heap.lt_size hz
    refine wpAny_pyNext_zipD2_item D.sep (drawsK k1 hd i1 a D.ai its.toArray) (drawsK k2 hd i2 b D.bi jts.toArray) hz hT hO ⟨h1, p1⟩ ⟨h2, p2⟩ n1 n2 fun u v h' tk eu ev z' O' t1 t2 nT sz kp => ?_
    obtain ⟨u', gu, ru⟩ := r1.get ex
    obtain ⟨v', gv, rv⟩ := r2.get ey
    have euu : u = u' := Option.some.inj (eu.symm.trans (by simpa using gu))
    have evv : v = v' := Option.some.inj (ev.symm.trans (by simpa using gv))
    subst euu evv
    refine ⟨_, rfl, wpAny_letOwnedTupleGo_zip (s := { s with heap := h', toks := tk }) z' fun h2' z2 sb => ?_⟩
    have other : ∀ c, c ≠ z → h2'.get? c = h'.get? c := fun c hc => sb.2 c hc
    have fresh : h2'.get? s.heap.objs.size = some { cls := .type "tuple", data := .seq #[u, v] } := (other _ (Nat.ne_of_gt zlt)).trans nT
    have ob : ObjOk X.prog X.w (upd H s.heap.objs.size (.tup [x, y])) h2' s.heap.objs.size (.tup [x, y]) :=
      ⟨Nat.le_of_lt (small1000 (show 2 ≤ 1000 by decide)), [u, v], .cons ru (.cons rv .nil), ⟨_, fresh, rfl, _, rfl⟩⟩
    have J : Inv X pins σ (upd H s.heap.objs.size (.tup [x, y])) { s with heap := h2', toks := tk } :=
      I.turnedNew (ch := [z, TI, TO, i1, i2]) (fun c o nc q => by
        have m : c ≠ z ∧ c ≠ TO ∧ c ≠ i1 ∧ c ≠ i2 := ⟨fun e => nc (by rw [e]; simp), fun e => nc (by rw [e]; simp), fun e => nc (by rw [e]; simp), fun e => nc (by rw [e]; simp)⟩
        exact (other c m.1).trans (kp c o m.1 m.2.1 m.2.2.1 m.2.2.2 q)) hf (Nat.le_refl _) ob
    have hTI1 : TI ≠ i1 := D.sep.TIi1
    refine ⟨.ref s.heap.objs.size, _, J, rfl, ⟨_, x, y, rfl, I.hok.fresh (Nat.le_refl _), rfl, fun l hl => by rw [sk_inj I hl qx]; exact ex, fun l hl => by rw [sk_inj I hl qy]; exact ey⟩, ⟨z2, ?_, ⟨u, v, ?_⟩, ?_, ?_⟩, fun c hcm => ?_⟩
    · exact (other _ D.sep.TIz).trans (kp _ _ D.sep.TIz D.sep.TITO D.sep.TIi1 D.sep.TIi2 hT)
    · exact (other _ D.sep.TOz).trans O'
    · exact atK_at t1.1 fun o q => (other _ D.sep.zi1.symm).trans q
    · exact atK_at t2.1 fun o q => (other _ D.sep.zi2.symm).trans q
    · have lt : c < s.heap.objs.size := by
        rcases five hcm with e | e | e | e | e <;> subst e
        · exact zlt
        · exact Heap.lt_size hT
        · exact Heap.lt_size hO
        · obtain ⟨o, e, _⟩ := atK_obj h1
          exact Heap.lt_size e
        · obtain ⟨o, e, _⟩ := atK_obj h2
          exact Heap.lt_size e
      rw [upd_ne (Nat.ne_of_lt lt)]
      exact (hf c hcm).1
  done := by
    intro X hP hw hK hc i pins s σ H E I hf st stop
    subst hP hw hK
    obtain ⟨hz, hT, ⟨u0, v0, hO⟩, h1, h2⟩ := st
    obtain ⟨xs, ys, qx, qy, ex, ey⟩ := stop
    obtain ⟨its, r1, p1⟩ := sk_read I qx
    obtain ⟨jts, r2, p2⟩ := sk_read I qy
    have n1 : i = its.toArray.size := by rw [List.size_toArray, ← r1.length]; exact ex.symm
    have n2 : i = jts.toArray.size := by rw [List.size_toArray, ← r2.length]; exact ey.symm
    have hd : X.A.in1.handled = none := I.ok.hd hc
    refine wpAny_pyNext_zipD2_end D.sep (drawsK k1 hd i1 a D.ai its.toArray) (drawsK k2 hd i2 b D.bi jts.toArray) hz hT hO ⟨h1, p1⟩ ⟨h2, p2⟩ (Nat.le_of_eq n1) (Nat.le_of_eq n2) (.inl n1) fun h' tk kp => ⟨rfl, ?_⟩
    exact I.turnedL (ch := [z, TI, TO, i1, i2]) (fun c o nc q => kp c o (fun e => nc (by rw [e]; simp)) (fun e => nc (by rw [e]; simp)) (fun e => nc (by rw [e]; simp)) (fun e => nc (by rw [e]; simp)) q) hf
  self := fun A i s Q E st h => wpAny_pyIter_zip st.1 h
def iZipK (K : PySem.W.Frag) (ta : TA) : TI := fun σ H R => ta σ H fun vs H1 => ∃ k1 k2 a b xs ys, vs = [.ref a, .ref b] ∧ Sk K k1 H1 a xs ∧ Sk K k2 H1 b ys ∧ R (ItzK K k1 k2 a b) H1
set_option maxHeartbeats 600000 in
theorem pi_zipK {X : Cx} {e e2 : Expr} {ta : TA} {p pos tpos : Pos} {elts : List Expr} {kk : Nat} (hg : Gl X "zip") (hm : X.mg "zip" = none) (ha : PA X [e, e2] ta)
    (hs : starEach [e, e2] X.env = (false, eval e X.env) :: starEach [e2] X.env := by rfl) (hpl : (backTo pos (starEach [e2] X.env)).any (·.1) = false := by rfl) :
    PI X (.Tuple elts kk tpos) (.Call (.Name "zip" p) [e, e2] [] pos) (iZipK X.K ta) := by
  constructor
  intro pins s σ H R I h
  refine Call_ (ld_blt I hg hm PyProof.Rows.boot_zip (PyProof.Rows.callWith_type1 (thn (ha.run pos pins s σ H _ I h) fun us s1 ⟨vs, H1, I1, r1, q1⟩ => ?_) hs hpl))
  obtain ⟨k1, k2, a, b, xs, ys, ev, qx, qy, q⟩ := q1
  subst ev
  obtain ⟨u1, u2, rfl, ra, rb⟩ := vals2 r1
  obtain rfl : u1 = Value.ref a := ra
  obtain rfl : u2 = Value.ref b := rb
  obtain ⟨its, _, p1⟩ := sk_read I1 qx
  obtain ⟨jts, _, p2⟩ := sk_read I1 qy
  refine zip_begins2 (beginsK k1 a its.toArray) (beginsK k2 b jts.toArray) p1 p2 fun h' hz hT hO g1 g2 _ kp => wpAny_pyIter_zip hz ?_
  have J : Inv X pins σ H1 { s1 with heap := h' } := I1.kept (t' := s1.toks) kp
  have D := cells_of s1.heap.objs.size a b (seqK_lt p1) (seqK_lt p2)
  have W : Now k1 k2 (s1.heap.objs.size + 4) (s1.heap.objs.size + 2) (s1.heap.objs.size + 3) s1.heap.objs.size (s1.heap.objs.size + 1) a b 0 h' := ⟨hz, hT, ⟨_, _, hO⟩, atK_beg g1, atK_beg g2⟩
  have F : ∀ c ∈ [s1.heap.objs.size + 4, s1.heap.objs.size + 2, s1.heap.objs.size + 3, s1.heap.objs.size, s1.heap.objs.size + 1], FpOk X pins H1 c := fun c hc => by
    have le : s1.heap.objs.size ≤ c := by
      rcases five hc with e | e | e | e | e
      · rw [e]; exact Nat.le_add_right _ _
      · rw [e]; exact Nat.le_add_right _ _
      · rw [e]; exact Nat.le_add_right _ _
      · rw [e]; exact Nat.le_refl _
      · rw [e]; exact Nat.le_add_right _ _
    exact I1.fpOk le (I1.hok.fresh le)
  exact ⟨_, _, _, _, H1, rfl, J, turn_zipK D, W, F, q⟩
theorem walk_zipK {K : PySem.W.Frag} {k1 k2 : Bool} {a b : Addr} {xs ys : List V} {n : Nat} (h1 : xs.length = n) (h2 : ys.length = n) : Walk (ItzK K k1 k2 a b) n (fun H => Sk K k1 H a xs ∧ Sk K k2 H b ys) (YPair (fun i => xs[i]?) (fun i => ys[i]?)) :=
  ⟨fun i H hi g => ⟨xs, ys, xs[i], ys[i], g.1, g.2, List.getElem?_eq_getElem (by omega), List.getElem?_eq_getElem (by omega)⟩, fun H g => ⟨xs, ys, g.1, g.2, h1, h2⟩,
    fun i H x H' _ g y => by
      obtain ⟨T, u, v, e1, e2, e3, e4, e5⟩ := y
      exact ⟨T, u, v, e1, e2, e3, e4 _ g.1, e5 _ g.2⟩⟩
end HwZ

/-! ### any of a tuple of ints; the least common multiple -/
namespace HwA
open PySem PySem.Spec PyProof.Rows L2
section
variable {X : Cx}
theorem any_bools (ns : List Int) : ∀ (bs : List Bool), bs = ns.map (fun n => n != 0) → (List.range ns.length).any (fun i => (ns.map fun n => n != 0).getD i false) = ns.any fun n => n != 0 := fun bs _ => by
  have h := any_range (ns.map fun n => n != 0)
  rw [List.length_map] at h
  rw [h, List.any_map]
  rfl
def rAnyT (K : PySem.W.Frag) : List V → Hp → VK → Prop := fun vs H Q => ∃ (a : Addr) (ns : List Int), vs = [V.ref a] ∧ SqT K H a (ns.map V.int) ∧ Q (.bl (ns.any fun n => n != 0)) H
theorem cr_anyT (hc : X.calm = true) : CallR X (.builtin "any") (rAnyT X.K) := by
  intro pins s σ H vs us Q I r h
  obtain ⟨a, ns, rfl, hs, q⟩ := h
  obtain ⟨its, rv, ht, _⟩ := I.tuple hs
  rw [Vals.ref1 r]
  have it : s.heap.IsTuple a its.toArray := ht
  have lt : a < s.heap.objs.size := by
    obtain ⟨_, e, _⟩ := it
    exact Heap.lt_size e
  refine call_any_walk (wpAny_pyIter_tuple it ⟨s.heap.objs.size, _, _, _, _, _, (fun i => (ns.map fun n => n != 0).getD i false), rfl, Walks.tuple (A := X.A.in1) (I.ok.hd hc) _ a (Nat.ne_of_lt lt) its.toArray, ⟨⟨_, Heap.get?_push_size _ rfl, rfl, rfl⟩, ?_⟩, ?_, fun h' tk hk => ?_⟩)
  · exact it.at fun o e => Heap.get?_push_of_some _ e
  · intro i v s' Q' E' hv hq
    have hv' : its[i]? = some v := by simpa using hv
    have lxs := rv.length
    have hi : i < ns.length := by
      have := (List.getElem?_eq_some_iff.mp hv').1
      rw [List.length_map] at lxs
      omega
    have g : (ns.map V.int)[i]? = some (.int ns[i]) := by
      rw [List.getElem?_map, List.getElem?_eq_getElem hi]
      rfl
    obtain ⟨u, hu, ru⟩ := rv.get g
    obtain ⟨t, eu⟩ := ru
    have ev : v = Value.int ns[i] t := (Option.some.inj (hv'.symm.trans hu)).trans eu
    subst ev
    have e2 : (ns.map fun n => n != 0).getD i false = (ns[i] != 0) := by
      rw [List.getD_eq_getElem?_getD, List.getElem?_map, List.getElem?_eq_getElem hi]
      rfl
    have hq2 : Q' ((ns.map fun n => n != 0).getD i false) s' := hq
    rw [e2] at hq2
    exact truthy_int hq2
  · refine ⟨.bl _, H, I.kept fun b o eo => hk b o (fun m => ?_) (Heap.get?_push_of_some _ eo), ?_, q⟩
    · rcases List.mem_cons.mp m with e1 | m
      · exact absurd (e1 ▸ Heap.lt_size eo) (Nat.lt_irrefl _)
      · cases m
    · show Value.bool _ = Value.bool _
      have l1 := rv.length
      rw [List.length_map] at l1
      rw [List.size_toArray, ← l1, any_bools ns _ rfl]
/-- the least common multiple -/
def rLcm : List V → Hp → VK → Prop := fun vs H Q => ∃ a b : Int, vs = [.int a, .int b] ∧ a.natAbs < 2 ^ 4000 ∧ b.natAbs < 2 ^ 4000 ∧ Q (.int ((Nat.lcm a.natAbs b.natAbs : Nat) : Int)) H
theorem lcm_lim {a b : Nat} (ha : a < 2 ^ 4000) (hb : b < 2 ^ 4000) : Nat.lcm a b < 2 ^ 8000 := by
  have h1 : Nat.lcm a b ≤ a * b := by
    unfold Nat.lcm
    exact Nat.div_le_self _ _
  have h2 : a * b < 2 ^ 4000 * 2 ^ 4000 := Nat.mul_lt_mul'' ha hb
  rw [← Nat.pow_add] at h2
  exact Nat.lt_of_le_of_lt h1 h2
theorem cr_lcm : CallR X (.builtin "math.lcm") rLcm := by
  intro pins s σ H vs us Q I r h
  obtain ⟨a, b, rfl, ha, hb, q⟩ := h
  obtain ⟨t, u, rfl⟩ := Vals.int2 r
  have lg : ∀ n : Nat, n < 2 ^ 4000 → n.log2 < 4000 := fun n hn => PySem.Flt.log2_lt_of (by decide) hn
  have one : (1 : Nat) < 2 ^ 4000 := Nat.one_lt_two_pow (by decide)
  have m1 : (max 1 a.natAbs).log2 < 4000 := lg _ (by rw [Nat.max_lt]; exact ⟨one, ha⟩)
  have m2 : (max a.natAbs b.natAbs).log2 < 4000 := lg _ (by rw [Nat.max_lt]; exact ⟨ha, hb⟩)
  have e : (Nat.lcm 1 a.natAbs).lcm b.natAbs = Nat.lcm a.natAbs b.natAbs := by rw [Nat.lcm_one_left]
  have sz : ((((Nat.lcm 1 a.natAbs).lcm b.natAbs : Nat) : Int)).natAbs.log2 < bitsLine := by
    rw [e, Int.natAbs_natCast]
    have : (Nat.lcm a.natAbs b.natAbs).log2 < 8000 := PySem.Flt.log2_lt_of (by decide) (lcm_lim ha hb)
    have b8 : (8000 : Nat) ≤ bitsLine := by decide
    omega
  refine PySem.call_function_meets PySem.W.MGF.kind_lcm PySem.W.MGF.plain_lcm PySem.W.MGF.entry_lcm (PySem.W.MGF.args_lcm _ _) (PySem.W.mg_run_lcm a t b u (by omega) (by omega) sz).meets ?_
  rw [e]
  exact ⟨.int _, H, I.tok _, ⟨_, rfl⟩, q⟩
end
end HwA

namespace HwP
open PySem PySem.Spec PyProof.Rows L2 Hw
open C8 (pss_cut tCut)
open HwG RZ HwZ HwA HwT GxR RT
def topS (i : Nat) : Stmt := PySem.Challenge.pw_hullwright_k03_texts_of_fractions.main.body.getD i (.Pass ⟨0, 0, 0, 0⟩)
/-- the built-in names that the text leaves as they are, and gcd -/
structure Glb (mg : Str → Option Value) : Prop where
  m_len : mg "len" = none
  m_range : mg "range" = none
  m_int : mg "int" = none
  m_list : mg "list" = none
  m_tuple : mg "tuple" = none
  m_bool : mg "bool" = none
  m_isinstance : mg "isinstance" = none
  m_abs : mg "abs" = none
  m_sum : mg "sum" = none
  m_zip : mg "zip" = none
  m_str : mg "str" = none
  m_all : mg "all" = none
  m_reversed : mg "reversed" = none
  m_divmod : mg "divmod" = none
  m_gcd : mg "gcd" = some (.builtin "math.gcd")
  m_most : ∃ t, mg "MOST_DIGITS" = some (.int 60 t)
/-- what a body that calls a def wants of it -/
structure Call (P : Program) (w : World) (K : PySem.W.Frag) (mg : Str → Option Value) (base : Heap) (k : Nat) (nm : Str) (ps : List Str) (sp : Sp) where
  g : Addr
  gd : FuncData
  G : FnOk P w K mg base CX0 k g gd ps sp
  m : mg nm = some (.ref g)
  kp : PySem.W.keepIn K (.ref g) = true
  b : Binds K gd ps []
section
variable {P : Program} {w : World} {K : PySem.W.Frag} {mg : Str → Option Value} {base : Heap}

/-! ### own error classes over ValueError -/
abbrev VE : List Value := [.type "ValueError", .type "Exception", .type "BaseException", .type "object"]
/-- what the written part says of the class nm at C -/
structure Er (K : PySem.W.Frag) (mg : Str → Option Value) (nm : Str) (C : Addr) : Prop where
  g : mg nm = some (.ref C)
  x : PySem.W.excIn K C VE "ValueError.__new__" = true
  k : PySem.W.keepIn K (.ref C) = true
  b : PySem.W.subIn K (.ref C) (.type "BaseException") = some true
  t : PySem.W.typeIn K (.ref C) = some (.type "type")
  d : PySem.W.hasDictIn K C = true
  s : PySem.W.subIn K (.ref C) (.ref C) = some true
theorem Er.em {K : PySem.W.Frag} {mg : Str → Option Value} {nm : Str} {C : Addr} (T : Er K mg nm C) : PySem.W.exmOne K (.ref C) (.ref C) = some true := PySem.W.exm_ref T.b T.d T.t T.s
def rE (K : PySem.W.Frag) (D a : Addr) (cls : Value) (d : Option Addr) : List V → Hp → VK → Prop := fun xs H Q => cls = .ref D ∧ d = none ∧ rIsE K D a xs H Q
section
variable {X : Cx}
/-- raise nm('..') -/
theorem raiseE {W : WX} {nm : Str} {C : Addr} {m : Str} {j : Nat} {p p2 pos pos2 : Pos} (T : Er X.K X.mg nm C) (hc : X.calm = true) (tk : Takes X W) (hg : Gl X nm) (hdb : (nm == ("__debug__" : Str)) = false := by decide) :
    PS X (.Raise (some (.Call (.Name nm p) [.Constant (.str m) j p2] [] pos)) none pos2) (fun _ σ H => W (.ref C) none σ H) :=
  ps_raise hc tk (pmk_own PySem.F.excBase_ValueError T.x T.g T.k (raises_own T.b T.t) hg hdb)
/-- isinstance of the error that the suite holds -/
theorem call_isE2 {a D : Addr} {cls : Value} {d : Option Addr} {oe : Obj} {pn : List (Addr × Obj)} (C : ExcC X.K D) (hz : Zc cls d oe) (hf : ∃ vs, oe.data = .fields vs) : CallR (X.suite a ((a, oe) :: pn)) (.builtin "isinstance") (rE X.K D a cls d) := by
  intro pins s σ H xs us Q I r h
  obtain ⟨rfl, rfl, h⟩ := h
  exact call_isE C hz hf pins s σ H xs us Q I r h
end

/-! ### the law's greatest common divisor -/
abbrev s__law_gcd : Stmt := topS 18
theorem sc__law_gcd : FnScope ["a", "b", "k", "hold"] ["a", "b"] (defScope s__law_gcd) := ⟨rfl, rfl, rfl, by decide +kernel, rfl, by decide +kernel, by decide +kernel⟩
def spGcd : Sp := fun vs H Q _ => ∃ a b : Int, vs = [.int a, .int b] ∧ a.natAbs < 2 ^ 299 ∧ b.natAbs < 2 ^ 299 ∧ Q (.int (g2 a b)) H
theorem abs_of (a : Int) : (if a < 0 then -a else a) = ((a.natAbs : Nat) : Int) := by
  split <;> omega
theorem ok_gcd {f : Addr} {fd : FuncData} {k : Nat} (F : Fun K "_law_gcd" "_law_gcd" s__law_gcd f fd) (Z : Glb mg) : FnOk P w K mg base CX0 (k + 1) f fd ["a", "b"] spGcd := by
  refine F.ok sc__law_gcd (fun vs H Q E h => ?_) (fun cdv A outer s H vs Q E hr h => ?_)
  · obtain ⟨a, b, rfl, _⟩ := h
    rfl
  · obtain ⟨a, b, rfl, ha, hb, q⟩ := h
    refine ⟨_, (pss_cons (ps_set (i := 0) sc__law_gcd.nd rfl (.inl rfl) (pe_callB call_abs (by rfl) Z.m_abs (by decide +kernel) (pa_cons (pv 0) pa_nil)))
      (pss_cons (ps_set (i := 1) sc__law_gcd.nd rfl (.inl rfl) (pe_callB call_abs (by rfl) Z.m_abs (by decide +kernel) (pa_cons (pv 1) pa_nil)))
      (pss_cons (ps_for PassesOwn.never rfl (pi_range1 rfl Z.m_range (pa_cons pe_int pa_nil)) (pg_name (i := 2) sc__law_gcd.nd rfl (.inl rfl)) (pss_cons (ps_if (pt_cmpR op_eq (pv 1) pe_int (nomark _)) (pss_one ps_break) pss_nil)
      (pss_cons (ps_set (i := 3) sc__law_gcd.nd rfl (.inl rfl) (pe_op op_modN (pe_callTy call_int1 (by rfl) Z.m_int (by decide +kernel) (pa_cons (pv 0) pa_nil)) (pv 1)))
      (pss_cons (ps_set (i := 0) sc__law_gcd.nd rfl (.inl rfl) (pv 1))
      (pss_one (ps_set (i := 1) sc__law_gcd.nd rfl (.inl rfl) (pv 3)))))))
      (pss_one (ps_ret (pv 0)))))), ?_⟩
    refine ⟨_, rfl, a, rfl, _, rfl, b, rfl, 600, rfl, by decide, by decide, ?_⟩
    rw [abs_of, abs_of]
    refine for_range (lo := 0) (n := 600) (fun i σ H' => H' = H ∧ ∃ (A B : Nat) (y2 y3 : Option V), σ = [some (.int A), some (.int B), y2, y3] ∧ Nat.gcd A B = Nat.gcd a.natAbs b.natAbs ∧ Fit i A B) ⟨rfl, _, _, _, _, rfl, rfl, fit0 ha hb⟩ (fun i σ H' hi hP => ?_) (fun σ H' hP => ?_)
    · obtain ⟨rfl, A', B', y2, y3, rfl, hg, hf⟩ := hP
      refine ⟨_, rfl, rfl, _, rfl, ite2 (fun e => ?_) (fun e => ?_)⟩
      · have e0 : B' = 0 := by
          have := V.int.inj (of_decide_eq_true e)
          omega
        subst e0
        refine ⟨_, rfl, ?_⟩
        rw [Nat.gcd_zero_right] at hg
        rw [hg]
        exact q
      · have e0 : B' ≠ 0 := fun z => e (by subst z; exact decide_eq_true rfl)
        refine ⟨_, rfl, .inl ⟨_, rfl, _, rfl, _, _, rfl, rfl, by omega, ?_⟩⟩
        have em : ((A' : Int).fmod (B' : Int)) = ((A' % B' : Nat) : Int) := by
          rw [Int.fmod_eq_emod_of_nonneg _ (by omega)]
          rfl
        refine ⟨_, rfl, _, rfl, rfl, B', A' % B', some (.int (0 + (i : Int))), some (.int ((A' % B' : Nat) : Int)), ?_, ?_, fit_step hf e0⟩
        · rw [← em]
          rfl
        · rw [gcd_turn, hg]
    · obtain ⟨rfl, A', B', y2, y3, rfl, hg, hf⟩ := hP
      have e0 := fit_end hf
      subst e0
      rw [Nat.gcd_zero_right] at hg
      refine ⟨_, rfl, ?_⟩
      rw [hg]
      exact q

/-! ### the law's draws: what they leave is told by bounds alone -/
abbrev s__law_spread : Stmt := topS 15
theorem sc__law_spread : FnScope ["cell", "mixed", "total", "k"] ["cell"] (defScope s__law_spread) := ⟨rfl, rfl, rfl, by decide +kernel, rfl, by decide +kernel, by decide +kernel⟩
def spSpread : Sp := fun vs H Q _ => ∃ c : Int, vs = [.int c] ∧ ∀ t : Int, Q (.int t) H
theorem ok_spread {f : Addr} {fd : FuncData} {k : Nat} (F : Fun K "_law_spread" "_law_spread" s__law_spread f fd) (Z : Glb mg) : FnOk P w K mg base CX0 (k + 1) f fd ["cell"] spSpread := by
  refine F.ok sc__law_spread (fun vs H Q E h => ?_) (fun cdv A outer s H vs Q E hr h => ?_)
  · obtain ⟨c, rfl, _⟩ := h
    rfl
  · obtain ⟨c, rfl, q⟩ := h
    refine ⟨_, (pss_cons (ps_set (i := 1) sc__law_spread.nd rfl (.inl rfl) (pe_op op_modN (pe_callTy call_int1 (by rfl) Z.m_int (by decide +kernel) (pa_cons (pv 0) pa_nil)) pe_int))
      (pss_cons (ps_set (i := 2) sc__law_spread.nd rfl (.inl rfl) pe_int)
      (pss_cons (ps_for PassesOwn.never rfl (pi_range1 rfl Z.m_range (pa_cons pe_int pa_nil)) (pg_name (i := 3) sc__law_spread.nd rfl (.inl rfl)) (pss_cons (ps_set (i := 1) sc__law_spread.nd rfl (.inl rfl) (pe_op op_modN (pe_callTy call_int1 (by rfl) Z.m_int (by decide +kernel) (pa_cons (pe_op op_add (pe_op op_add (pe_op op_mul (pv 1) pe_int) pe_int) (pv 3)) pa_nil)) pe_int))
      (pss_one (ps_set (i := 2) sc__law_spread.nd rfl (.inl rfl) (pe_op op_add (pe_op op_mul (pv 2) pe_int) (pv 1))))))
      (pss_one (ps_ret (pv 2)))))), ?_⟩
    refine ⟨_, rfl, .inl ⟨_, rfl, _, _, rfl, rfl, (by show (2147483647 : Int) ≠ 0; decide), 4, rfl, by decide, by decide, ?_⟩⟩
    refine for_range (lo := 0) (n := 4) (fun i σ H' => H' = H ∧ ∃ (m t : Int) (y3 : Option V), σ = [some (.int c), some (.int m), some (.int t), y3]) ⟨rfl, _, _, _, rfl⟩ (fun i σ H' hi hP => ?_) (fun σ H' hP => ?_)
    · obtain ⟨rfl, m, t, y3, rfl⟩ := hP
      refine ⟨_, rfl, _, _, rfl, rfl, .inr ⟨by decide, by decide⟩, _, _, rfl, rfl, _, rfl, _, _, rfl, rfl, .inl ⟨_, rfl, _, _, rfl, rfl, (by show (2147483647 : Int) ≠ 0; decide), ?_⟩⟩
      exact ⟨_, rfl, _, _, rfl, rfl, .inr ⟨by decide, by decide⟩, _, rfl, _, _, rfl, rfl, rfl, _, _, _, rfl⟩
    · obtain ⟨rfl, m, t, y3, rfl⟩ := hP
      exact ⟨_, rfl, q t⟩
/-- a pool: its script's ints, then four ints -/
def Pl (H : Hp) (p : Addr) : Prop := ∃ (q : Addr) (ns : List Int) (a : Nat) (b c d : Int), H p = some (.lst [.ref q, .int a, .int b, .int c, .int d]) ∧ H q = some (.lst (ns.map V.int)) ∧ q ≠ p
/-- the head of the list at p -/
def Hd (H : Hp) (p q : Addr) : Prop := ∃ l, H p = some (.lst (.ref q :: l))
/-- all but p is as it was, and p has its head -/
def But (p : Addr) (H H' : Hp) : Prop := (∀ x, x ≠ p → H' x = H x) ∧ ∀ q, Hd H p q → Hd H' p q
theorem But.refl (p : Addr) (H : Hp) : But p H H := ⟨fun _ _ => rfl, fun _ h => h⟩
theorem But.trans {p : Addr} {H H1 H2 : Hp} (a : But p H H1) (b : But p H1 H2) : But p H H2 := ⟨fun x h => (b.1 x h).trans (a.1 x h), fun q h => b.2 q (a.2 q h)⟩
theorem But.upd {p q : Addr} {H : Hp} {l l' : List V} (hp : H p = some (.lst (.ref q :: l))) : But p H (upd H p (.lst (.ref q :: l'))) :=
  ⟨fun _ h => upd_ne h, fun q' h => by
    obtain ⟨l2, e⟩ := h
    have := hp.symm.trans e
    injection this with this
    injection this with this
    injection this with this
    injection this with this
    subst this
    exact ⟨l', upd_same⟩⟩
theorem pl_upd {H : Hp} {p q : Addr} {ns : List Int} (a : Nat) (b c d : Int) (hq : H q = some (.lst (ns.map V.int))) (ne : q ≠ p) : Pl (upd H p (.lst [.ref q, .int a, .int b, .int c, .int d])) p :=
  ⟨q, ns, a, b, c, d, upd_same, by rw [upd_ne ne]; exact hq, ne⟩
abbrev s__law_draw : Stmt := topS 16
theorem sc__law_draw : FnScope ["pool", "many", "cell", "mixed", "value"] ["pool", "many"] (defScope s__law_draw) := ⟨rfl, rfl, rfl, by decide +kernel, rfl, by decide +kernel, by decide +kernel⟩
def spDraw : Sp := fun vs H Q _ => ∃ (p : Addr) (m : Int), vs = [.ref p, .int m] ∧ 0 < m ∧ m.natAbs < 2 ^ 8000 ∧ Pl H p ∧ ∀ (v : Int) (H' : Hp), 0 ≤ v → v < m → Pl H' p → But p H H' → Q (.int v) H'
theorem ok_draw {f : Addr} {fd : FuncData} {k : Nat} (F : Fun K "_law_draw" "_law_draw" s__law_draw f fd) (Z : Glb mg)
    (C_law_spread : Call P w K mg base k "_law_spread" ["cell"] spSpread) : FnOk P w K mg base CX0 (k + 1) f fd ["pool", "many"] spDraw := by
  refine F.ok sc__law_draw (fun vs H Q E h => ?_) (fun cdv A outer s H vs Q E hr h => ?_)
  · obtain ⟨p, m, rfl, _⟩ := h
    rfl
  · obtain ⟨p, m, rfl, hm, hb, hP, q⟩ := h
    refine ⟨_, (pss_cut (ps_if (PW.pt (pw_and (pt_cmpR op_le (pe_ix (r := rIxL K) ix_list (pv 0) pe_int (fun _ _ => rfl)) pe_int (nomark _)) (pw_and1 (pt_cmpR op_lt (pe_ix (r := rIxL K) ix_list (pv 0) pe_int (fun _ _ => rfl)) (pe_callB call_len_seq (by rfl) Z.m_len PySem.boot_len (pa_cons (pe_ix (r := rIxL K) ix_list (pv 0) pe_int (fun _ _ => rfl)) pa_nil)) (nomark _))))) (pss_cons (ps_set (i := 2) sc__law_draw.nd rfl (.inl rfl) (pe_ix (r := rIxL K) ix_list (pe_ix (r := rIxL K) ix_list (pv 0) pe_int (fun _ _ => rfl)) (pe_ix (r := rIxL K) ix_list (pv 0) pe_int (fun _ _ => rfl)) (fun _ _ => rfl)))
      (pss_cons (ps_asg (pe_op op_add (pe_ix (r := rIxL K) ix_list (pv 0) pe_int (fun _ _ => rfl)) pe_int) (pg_sub (pv 0) pe_int set_list))
      (pss_cons (ps_asg (pv 2) (pg_sub (pv 0) pe_int set_list))
      (pss_one (ps_if (pt_cmpR op_lt (pv 2) pe_int (nomark _)) (pss_one (ps_asg (pe_call C_law_spread.G hr (by rfl) C_law_spread.m C_law_spread.kp C_law_spread.b .nil pass0 (pa_cons (pv 2) pa_nil)) (pg_sub (pv 0) pe_int set_list))) pss_nil))))) pss_nil)
      (pss_cons (ps_asg (pe_op op_add (pe_ix (r := rIxL K) ix_list (pv 0) pe_int (fun _ _ => rfl)) pe_int) (pg_sub (pv 0) pe_int set_list))
      (pss_cons (ps_if (pt_cmpR op_le (pe_ix (r := rIxL K) ix_list (pv 0) pe_int (fun _ _ => rfl)) pe_int (nomark _)) (pss_cons (ps_set (i := 3) sc__law_draw.nd rfl (.inl rfl) (pe_op op_modN (pe_callTy call_int1 (by rfl) Z.m_int (by decide +kernel) (pa_cons (pe_op op_add (pe_op op_add (pe_op op_mul (pe_ix (r := rIxL K) ix_list (pv 0) pe_int (fun _ _ => rfl)) pe_int) (pe_op op_mul (pe_ix (r := rIxL K) ix_list (pv 0) pe_int (fun _ _ => rfl)) pe_int)) pe_int) pa_nil)) pe_int))
      (pss_cons (ps_set (i := 3) sc__law_draw.nd rfl (.inl rfl) (pe_op op_modN (pe_callTy call_int1 (by rfl) Z.m_int (by decide +kernel) (pa_cons (pe_op op_add (pe_op op_mul (pv 3) pe_int) (pe_ix (r := rIxL K) ix_list (pv 0) pe_int (fun _ _ => rfl))) pa_nil)) pe_int))
      (pss_one (ps_ret (pe_op op_modN (pe_op op_fdivN (pv 3) pe_int) (pv 1)))))) pss_nil)
      (pss_cons (ps_set (i := 4) sc__law_draw.nd rfl (.inl rfl) (pe_op op_modN (pe_callTy call_int1 (by rfl) Z.m_int (by decide +kernel) (pa_cons (pe_ix (r := rIxL K) ix_list (pv 0) pe_int (fun _ _ => rfl)) pa_nil)) (pv 1)))
      (pss_cons (ps_asg (pe_op op_fdivW (pe_ix (r := rIxL K) ix_list (pv 0) pe_int (fun _ _ => rfl)) (pv 1)) (pg_sub (pv 0) pe_int set_list))
      (pss_one (ps_ret (pv 4)))))))), ?_⟩
    refine ⟨fun σ H' => ∃ y2 : Option V, σ = [some (.ref p), some (.int m), y2, none, none] ∧ Pl H' p ∧ But p H H', ?_, ?_⟩
    · obtain ⟨q', ns, a, b, c, d, hp, hq, ne⟩ := hP
      refine ⟨_, rfl, _, _, _, _, rfl, rfl, SqL.of hp, atI_nat (j := 2) rfl, _, _, rfl, rfl, _, rfl, ite2 (fun e1 => ?_) (fun e1 => ?_)⟩
      · refine ⟨_, rfl, _, _, _, _, rfl, rfl, SqL.of hp, atI_nat (j := 1) rfl, _, rfl, _, _, _, _, rfl, rfl, SqL.of hp, atI_nat (j := 0) rfl, _, _, rfl, .inl (SqL.of hq), _, _, rfl, rfl, _, rfl, ite2 (fun e2 => ?_) (fun e2 => ?_)⟩
        · have e3 : a < ns.length := by
            have := of_decide_eq_true e2
            rw [List.length_map] at this
            omega
          have g1 : (ns.map V.int)[a]? = some (.int ns[a]) := by
            rw [List.getElem?_map, List.getElem?_eq_getElem e3]
            rfl
          -- cell = pool[0][pool[1]]
          refine ⟨_, rfl, _, _, _, _, rfl, rfl, SqL.of hp, atI_nat (j := 0) rfl, _, rfl, _, _, _, _, rfl, rfl, SqL.of hp, atI_nat (j := 1) rfl, _, _, _, _, rfl, rfl, SqL.of hq, atI_nat g1, ?_⟩
          -- pool[1] = pool[1] + 1
          refine ⟨_, rfl, _, _, _, _, rfl, rfl, SqL.of hp, atI_nat (j := 1) rfl, _, _, rfl, rfl, _, rfl, _, _, _, 1, rfl, rfl, hp, rfl, ?_⟩
          -- pool[2] = cell
          refine ⟨_, rfl, _, rfl, _, _, _, 2, rfl, rfl, upd_same, rfl, ?_⟩
          rw [upd_upd]
          refine ⟨_, rfl, _, _, rfl, rfl, _, rfl, ite2 (fun e4 => ?_) (fun e4 => ?_)⟩
          · refine ⟨_, rfl, _, rfl, fun t => ⟨_, rfl, _, _, _, 2, rfl, rfl, upd_same, rfl, ?_⟩⟩
            rw [upd_upd]
            exact ⟨some (.int ns[a]), rfl, pl_upd (a + 1) t c d hq ne, (But.upd hp)⟩
          · exact ⟨some (.int ns[a]), rfl, pl_upd (a + 1) ns[a] c d hq ne, (But.upd hp)⟩
        · exact ⟨none, rfl, ⟨q', ns, a, b, c, d, hp, hq, ne⟩, But.refl _ _⟩
      · exact iteF ⟨none, rfl, ⟨q', ns, a, b, c, d, hp, hq, ne⟩, But.refl _ _⟩
    · intro σ H1 hW
      obtain ⟨y2, rfl, ⟨q', ns, a, b, c, d, hp, hq, ne⟩, hB⟩ := hW
      -- pool[3] = pool[3] + 1
      refine ⟨_, rfl, _, _, _, _, rfl, rfl, SqL.of hp, atI_nat (j := 3) rfl, _, _, rfl, rfl, _, rfl, _, _, _, 3, rfl, rfl, hp, rfl, ?_⟩
      have h0 : (upd H1 p (.lst [.ref q', .int a, .int b, .int (c + 1), .int d])) p = some (.lst [.ref q', .int a, .int b, .int (c + 1), .int d]) := upd_same
      refine ⟨_, rfl, _, _, _, _, rfl, rfl, SqL.of h0, atI_nat (j := 2) rfl, _, _, rfl, rfl, _, rfl, ite2 (fun e1 => ?_) (fun e1 => ?_)⟩
      · refine ⟨_, rfl, _, _, _, _, rfl, rfl, SqL.of h0, atI_nat (j := 4) rfl, _, _, rfl, rfl, .inr ⟨by decide, by decide⟩, _, rfl, _, _, _, _, rfl, rfl, SqL.of h0, atI_nat (j := 3) rfl, _, _, rfl, rfl, .inr ⟨by decide, by decide⟩, _, _, rfl, rfl, _, _, rfl, rfl, .inl ⟨_, rfl, _, _, rfl, rfl, (by show (2147483647 : Int) ≠ 0; decide), ?_⟩⟩
        refine ⟨_, rfl, _, _, rfl, rfl, .inr ⟨by decide, by decide⟩, _, rfl, _, _, _, _, rfl, rfl, SqL.of h0, atI_nat (j := 3) rfl, _, _, rfl, rfl, .inl ⟨_, rfl, _, _, rfl, rfl, (by show (2147483629 : Int) ≠ 0; decide), ?_⟩⟩
        refine ⟨_, rfl, _, _, rfl, rfl, ⟨by decide, by decide⟩, _, rfl, _, _, rfl, rfl, (by show m ≠ 0; omega), ?_⟩
        exact q _ _ (Int.fmod_nonneg_of_pos _ hm) (Int.fmod_lt_of_pos _ hm) (pl_upd a b (c + 1) d hq ne) (hB.trans (But.upd hp))
      · refine ⟨_, rfl, _, _, _, _, rfl, rfl, SqL.of h0, atI_nat (j := 2) rfl, .inl ⟨_, rfl, _, rfl, _, _, rfl, rfl, (by show m ≠ 0; omega), ?_⟩⟩
        refine ⟨_, rfl, _, _, _, _, rfl, rfl, SqL.of h0, atI_nat (j := 2) rfl, _, rfl, _, _, rfl, rfl, wide_div hm hb (by decide) (by decide), _, rfl, _, _, _, 2, rfl, rfl, h0, rfl, ?_⟩
        rw [upd_upd]
        refine ⟨_, rfl, ?_⟩
        exact q _ _ (Int.fmod_nonneg_of_pos _ hm) (Int.fmod_lt_of_pos _ hm) (pl_upd a _ (c + 1) d hq ne) (hB.trans (But.upd hp))

/-! ### the law's pool -/
abbrev s__law_pool : Stmt := topS 14
theorem sc__law_pool : FnScope ["script", "salt", "cell"] ["script"] (defScope s__law_pool) := ⟨rfl, rfl, rfl, by decide +kernel, rfl, by decide +kernel, by decide +kernel⟩
theorem same_upd {H : Hp} {p : Addr} {o : HO} (h : H p = none) : Same H (upd H p o) := fun b x e => by
  rw [upd_ne (ne_of_none e h)]
  exact e
theorem cut_int {ns : List Int} {lo hi : Option Int} {i : Nat} {x : V} (h : (cutV (ns.map V.int) lo hi)[i]? = some x) : ∃ n : Int, x = .int n := by
  have m := List.mem_of_getElem? h
  unfold cutV at m
  have m2 := List.mem_of_mem_drop (List.mem_of_mem_take m)
  obtain ⟨n, _, e⟩ := List.mem_map.mp m2
  exact ⟨n, e.symm⟩
def spPool (K : PySem.W.Frag) : Sp := fun vs H Q _ => ∃ (a : Addr) (ns : List Int), vs = [.ref a] ∧ SqL K H a (ns.map V.int) ∧ ∀ (H' : Hp) (p : Addr), Same H H' → H p = none → Pl H' p → Q (.ref p) H'
theorem ok_pool {f : Addr} {fd : FuncData} {k : Nat} (F : Fun K "_law_pool" "_law_pool" s__law_pool f fd) (Z : Glb mg) : FnOk P w K mg base CX0 (k + 1) f fd ["script"] (spPool K) := by
  refine F.ok sc__law_pool (fun vs H Q E h => ?_) (fun cdv A outer s H vs Q E hr h => ?_)
  · obtain ⟨a, ns, rfl, _⟩ := h
    rfl
  · obtain ⟨a, ns, rfl, hS, q⟩ := h
    refine ⟨_, (pss_cons (ps_set (i := 1) sc__law_pool.nd rfl (.inl rfl) pe_int)
      (pss_cons (ps_for PassesOwn.never rfl (pi_list (pe_slice (r := rSlL K) sl_list (pv 0) po_none (po_some pe_int))) (pg_name (i := 2) sc__law_pool.nd rfl (.inl rfl)) (pss_one (ps_set (i := 1) sc__law_pool.nd rfl (.inl rfl) (pe_op op_modN (pe_callTy call_int1 (by rfl) Z.m_int (by decide +kernel) (pa_cons (pe_op op_add (pe_op op_mul (pv 1) pe_int) (pv 2)) pa_nil)) pe_int))))
      (pss_one (ps_ret (pe_lst (pa_cons (pe_callTy call_list_of (by rfl) Z.m_list (by decide +kernel) (pa_cons (pv 0) pa_nil)) (pa_cons pe_int (pa_cons pe_int (pa_cons pe_int (pa_cons (pv 1) pa_nil)))))))))), ?_⟩
    refine ⟨_, rfl, _, rfl, a, ns.map V.int, rfl, hS, fun c nc => ?_⟩
    have s1 : Same H (upd H c (.lst (cutV (ns.map V.int) none (some 63)))) := same_upd nc
    refine ⟨c, rfl, ⟨_, SqL.of upd_same⟩, ?_⟩
    refine for_list (xs := cutV (ns.map V.int) none (some 63)) (fun i σ H' => H' = upd H c (.lst (cutV (ns.map V.int) none (some 63))) ∧ ∃ (m : Int) (y2 : Option V), σ = [some (.ref a), some (.int m), y2]) ⟨rfl, _, _, rfl⟩ (fun i σ H' _ hP => by obtain ⟨rfl, _⟩ := hP; exact SqL.of upd_same) (fun i x σ H' hx hP => ?_) (fun σ H' hP => ?_)
    · obtain ⟨rfl, m, y2, rfl⟩ := hP
      obtain ⟨n, rfl⟩ := cut_int hx
      exact ⟨_, rfl, _, _, rfl, rfl, .inr ⟨by decide, by decide⟩, _, rfl, _, _, rfl, rfl, .inl ⟨_, rfl, _, _, rfl, rfl, (by show (1000003 : Int) ≠ 0; decide), rfl, _, _, rfl⟩⟩
    · obtain ⟨rfl, m, y2, rfl⟩ := hP
      refine ⟨_, rfl, a, ns.map V.int, rfl, .inl (s1.seq hS), fun l nl => ⟨_, rfl, ?_, fun p np => ?_⟩⟩
      · exact Nat.le_of_lt (small1000 (show 5 ≤ 1000 by decide))
      · have s2 : Same (upd H c (.lst (cutV (ns.map V.int) none (some 63)))) (upd (upd H c (.lst (cutV (ns.map V.int) none (some 63)))) l (.lst (ns.map V.int))) := same_upd nl
        have lp : l ≠ p := ne_of_none upd_same np
        refine q _ _ ((s1.trans s2).trans (same_upd np)) ((s1.trans s2).free np) ⟨l, ns, 0, 0, 0, m, upd_same, ?_, lp⟩
        rw [upd_ne lp]
        exact upd_same

/-! ### the law's comparison of two answers: alike data is told to be the same -/
inductive Alike (H : Hp) : Nat → V → V → Prop where
  | int (n : Nat) (i : Int) : Alike H n (.int i) (.int i)
  | bl (n : Nat) (b : Bool) : Alike H n (.bl b) (.bl b)
  | non (n : Nat) : Alike H n .non .non
  | str (n : Nat) (z : Str) : Alike H n (.str z) (.str z)
  | tup {n : Nat} {a b : Addr} {xs ys : List V} (ha : H a = some (.tup xs)) (hb : H b = some (.tup ys)) (hl : xs.length = ys.length) (hm : xs.length ≤ 1000000) (h : ∀ (i : Nat) (x y : V), xs[i]? = some x → ys[i]? = some y → Alike H n x y) : Alike H (n + 1) (.ref a) (.ref b)
  | lst {n : Nat} {a b : Addr} {xs ys : List V} (ha : H a = some (.lst xs)) (hb : H b = some (.lst ys)) (hl : xs.length = ys.length) (hm : xs.length ≤ 1000000) (h : ∀ (i : Nat) (x y : V), xs[i]? = some x → ys[i]? = some y → Alike H n x y) : Alike H (n + 1) (.ref a) (.ref b)
abbrev s__law_same : Stmt := topS 17
theorem sc__law_same : FnScope ["actual", "due", "k"] ["actual", "due"] (defScope s__law_same) := ⟨rfl, rfl, rfl, by decide +kernel, rfl, by decide +kernel, by decide +kernel⟩
def spSame (n : Nat) : Sp := fun vs H Q _ => ∃ x y : V, vs = [x, y] ∧ Alike H n x y ∧ Q (.bl true) H
structure SameG (mg : Str → Option Value) : Prop where
  mIs : mg "isinstance" = none
  mT : mg "tuple" = none
  mLi : mg "list" = none
  mL : mg "len" = none
  mR : mg "range" = none
  mB : mg "bool" = none
  mI : mg "int" = none
theorem ok_same {f : Addr} {fd : FuncData} {k n : Nat} (F : Fun K "_law_same" "_law_same" s__law_same f fd) (Z : Glb mg)
    (G : ∀ m, n = m + 1 → FnOk P w K mg base CX0 k f fd ["actual", "due"] (spSame m)) (gS : mg "_law_same" = some (.ref f)) (bS : Binds K fd ["actual", "due"] []) : FnOk P w K mg base CX0 (k + 1) f fd ["actual", "due"] (spSame n) := by
  refine F.ok sc__law_same (fun vs H Q E h => ?_) (fun cdv A outer s H vs Q E hr h => ?_)
  · obtain ⟨x, y, rfl, _⟩ := h
    rfl
  · obtain ⟨x, y, rfl, hA, q⟩ := h
    have nd := sc__law_same.nd
    cases hA with
    | int n i =>
      refine ⟨_, pss_cons (ps_if (PW.pt (pw_or (pt_val (pe_callB call_isi (by rfl) Z.m_isinstance (by decide +kernel) (pa_cons (pv 1) (pa_cons (pe_bltn (u := .type "tuple") (v := .ty "tuple") (by rfl) Z.m_tuple (by decide +kernel) rfl) pa_nil)))) (pw_or1 (pt_val (pe_callB call_isi (by rfl) Z.m_isinstance (by decide +kernel) (pa_cons (pv 1) (pa_cons (pe_bltn (u := .type "list") (v := .ty "list") (by rfl) Z.m_list (by decide +kernel) rfl) pa_nil))))))) (pss_cons ps_never (pss_cons ps_never (pss_cons ps_never (pss_one ps_never)))) pss_nil)
        (pss_cons (ps_if (pt_cmp (pc_isN (pv 1))) (pss_one ps_never) pss_nil)
        (pss_cons (ps_if (pt_val (pe_callB call_isi (by rfl) Z.m_isinstance (by decide +kernel) (pa_cons (pv 1) (pa_cons (pe_bltn (u := .type "bool") (v := .ty "bool") (by rfl) Z.m_bool (by decide +kernel) rfl) pa_nil)))) (pss_one ps_never) pss_nil)
        (pss_cons (ps_if (pt_val (pe_callB call_isi (by rfl) Z.m_isinstance (by decide +kernel) (pa_cons (pv 1) (pa_cons (pe_bltn (u := .type "int") (v := .ty "int") (by rfl) Z.m_int (by decide +kernel) rfl) pa_nil))))
          (pss_one (ps_ret (pe_and (pe_callB call_isi (by rfl) Z.m_isinstance (by decide +kernel) (pa_cons (pv 0) (pa_cons (pe_bltn (u := .type "int") (v := .ty "int") (by rfl) Z.m_int (by decide +kernel) rfl) pa_nil)))
            (pe_and (pe_not (pe_callB call_isi (by rfl) Z.m_isinstance (by decide +kernel) (pa_cons (pv 0) (pa_cons (pe_bltn (u := .type "bool") (v := .ty "bool") (by rfl) Z.m_bool (by decide +kernel) rfl) pa_nil))))
            (pe_one (pe_cmpR op_eq (pv 0) (pv 1) (nomark _))))))) pss_nil)
        (pss_one ps_never)))), ?_⟩
      have ty : TyX K H (.int i) (.type "int") := .base (.int i)
      refine ⟨_, rfl, _, _, _, _, _, rfl, ClsV.ty _, ty, kit_ty (by decide +kernel), false, rfl, iteF ⟨_, rfl, _, _, _, _, _, rfl, ClsV.ty _, ty, kit_ty (by decide +kernel), false, rfl, iteF ?_⟩⟩
      refine ⟨_, rfl, false, rfl, iteF ?_⟩
      refine ⟨_, rfl, _, _, _, _, _, rfl, ClsV.ty _, ty, kit_ty (by decide +kernel), false, rfl, iteF ?_⟩
      refine ⟨_, rfl, _, _, _, _, _, rfl, ClsV.ty _, ty, kit_ty (by decide +kernel), true, rfl, iteT ?_⟩
      refine ⟨_, rfl, _, _, _, _, _, rfl, ClsV.ty _, ty, kit_ty (by decide +kernel), true, rfl, iteT ?_⟩
      refine ⟨_, rfl, _, _, _, _, _, rfl, ClsV.ty _, ty, kit_ty (b := "bool") (r := false) (by decide +kernel), false, rfl, true, rfl, iteT ?_⟩
      refine ⟨_, rfl, _, rfl, rfl, ?_⟩
      rw [decide_eq_true rfl]
      exact q
    | str n z =>
      refine ⟨_, pss_cons (ps_if (PW.pt (pw_or (pt_val (pe_callB call_isi (by rfl) Z.m_isinstance (by decide +kernel) (pa_cons (pv 1) (pa_cons (pe_bltn (u := .type "tuple") (v := .ty "tuple") (by rfl) Z.m_tuple (by decide +kernel) rfl) pa_nil)))) (pw_or1 (pt_val (pe_callB call_isi (by rfl) Z.m_isinstance (by decide +kernel) (pa_cons (pv 1) (pa_cons (pe_bltn (u := .type "list") (v := .ty "list") (by rfl) Z.m_list (by decide +kernel) rfl) pa_nil))))))) (pss_cons ps_never (pss_cons ps_never (pss_cons ps_never (pss_one ps_never)))) pss_nil)
        (pss_cons (ps_if (pt_cmp (pc_isN (pv 1))) (pss_one ps_never) pss_nil)
        (pss_cons (ps_if (pt_val (pe_callB call_isi (by rfl) Z.m_isinstance (by decide +kernel) (pa_cons (pv 1) (pa_cons (pe_bltn (u := .type "bool") (v := .ty "bool") (by rfl) Z.m_bool (by decide +kernel) rfl) pa_nil)))) (pss_one ps_never) pss_nil)
        (pss_cons (ps_if (pt_val (pe_callB call_isi (by rfl) Z.m_isinstance (by decide +kernel) (pa_cons (pv 1) (pa_cons (pe_bltn (u := .type "int") (v := .ty "int") (by rfl) Z.m_int (by decide +kernel) rfl) pa_nil)))) (pss_one ps_never) pss_nil)
        (pss_one (ps_ret (pe_and (pe_callB call_isi (by rfl) Z.m_isinstance (by decide +kernel) (pa_cons (pv 0) (pa_cons (pe_bltn (u := .type "str") (v := .ty "str") (by rfl) Z.m_str (by decide +kernel) rfl) pa_nil)))
            (pe_one (pe_cmpR op_eq (pv 0) (pv 1) (nomark _))))))))), ?_⟩
      have ty : TyX K H (.str z) (.type "str") := .base (.str z)
      refine ⟨_, rfl, _, _, _, _, _, rfl, ClsV.ty _, ty, kit_ty (by decide +kernel), false, rfl, iteF ⟨_, rfl, _, _, _, _, _, rfl, ClsV.ty _, ty, kit_ty (by decide +kernel), false, rfl, iteF ?_⟩⟩
      refine ⟨_, rfl, false, rfl, iteF ?_⟩
      refine ⟨_, rfl, _, _, _, _, _, rfl, ClsV.ty _, ty, kit_ty (by decide +kernel), false, rfl, iteF ?_⟩
      refine ⟨_, rfl, _, _, _, _, _, rfl, ClsV.ty _, ty, kit_ty (by decide +kernel), false, rfl, iteF ?_⟩
      refine ⟨_, rfl, _, _, _, _, _, rfl, ClsV.ty _, ty, kit_ty (by decide +kernel), true, rfl, iteT ?_⟩
      refine ⟨_, rfl, _, rfl, rfl, ?_⟩
      rw [decide_eq_true rfl]
      exact q
    | bl n b =>
      refine ⟨_, pss_cons (ps_if (PW.pt (pw_or (pt_val (pe_callB call_isi (by rfl) Z.m_isinstance (by decide +kernel) (pa_cons (pv 1) (pa_cons (pe_bltn (u := .type "tuple") (v := .ty "tuple") (by rfl) Z.m_tuple (by decide +kernel) rfl) pa_nil)))) (pw_or1 (pt_val (pe_callB call_isi (by rfl) Z.m_isinstance (by decide +kernel) (pa_cons (pv 1) (pa_cons (pe_bltn (u := .type "list") (v := .ty "list") (by rfl) Z.m_list (by decide +kernel) rfl) pa_nil))))))) (pss_cons ps_never (pss_cons ps_never (pss_cons ps_never (pss_one ps_never)))) pss_nil)
        (pss_cons (ps_if (pt_cmp (pc_isN (pv 1))) (pss_one ps_never) pss_nil)
        (pss_cons (ps_if (pt_val (pe_callB call_isi (by rfl) Z.m_isinstance (by decide +kernel) (pa_cons (pv 1) (pa_cons (pe_bltn (u := .type "bool") (v := .ty "bool") (by rfl) Z.m_bool (by decide +kernel) rfl) pa_nil)))) (pss_one (ps_ret (pe_and (pe_callB call_isi (by rfl) Z.m_isinstance (by decide +kernel) (pa_cons (pv 0) (pa_cons (pe_bltn (u := .type "bool") (v := .ty "bool") (by rfl) Z.m_bool (by decide +kernel) rfl) pa_nil))) (pe_one (pe_cmpR op_eq (pv 0) (pv 1) (nomark _)))))) pss_nil)
        (pss_cons ps_never (pss_one ps_never)))), ?_⟩
      have ty : TyX K H (.bl b) (.type "bool") := .base (.bl b)
      refine ⟨_, rfl, _, _, _, _, _, rfl, ClsV.ty _, ty, kit_ty (by decide +kernel), false, rfl, iteF ⟨_, rfl, _, _, _, _, _, rfl, ClsV.ty _, ty, kit_ty (by decide +kernel), false, rfl, iteF ?_⟩⟩
      refine ⟨_, rfl, false, rfl, iteF ?_⟩
      refine ⟨_, rfl, _, _, _, _, _, rfl, ClsV.ty _, ty, kit_ty (by decide +kernel), true, rfl, iteT ?_⟩
      refine ⟨_, rfl, _, _, _, _, _, rfl, ClsV.ty _, ty, kit_ty (by decide +kernel), true, rfl, iteT ?_⟩
      refine ⟨_, rfl, _, rfl, rfl, ?_⟩
      rw [decide_eq_true rfl]
      exact q
    | non n =>
      refine ⟨_, pss_cons (ps_if (PW.pt (pw_or (pt_val (pe_callB call_isi (by rfl) Z.m_isinstance (by decide +kernel) (pa_cons (pv 1) (pa_cons (pe_bltn (u := .type "tuple") (v := .ty "tuple") (by rfl) Z.m_tuple (by decide +kernel) rfl) pa_nil)))) (pw_or1 (pt_val (pe_callB call_isi (by rfl) Z.m_isinstance (by decide +kernel) (pa_cons (pv 1) (pa_cons (pe_bltn (u := .type "list") (v := .ty "list") (by rfl) Z.m_list (by decide +kernel) rfl) pa_nil))))))) (pss_cons ps_never (pss_cons ps_never (pss_cons ps_never (pss_one ps_never)))) pss_nil)
        (pss_cons (ps_if (pt_cmp (pc_isN (pv 1))) (pss_one (ps_ret (pe_cmp (pc_isN (pv 0))))) pss_nil)
        (pss_cons ps_never (pss_cons ps_never (pss_one ps_never)))), ?_⟩
      have ty : TyX K H .non (.type "NoneType") := .base .non
      refine ⟨_, rfl, _, _, _, _, _, rfl, ClsV.ty _, ty, kit_ty (by decide +kernel), false, rfl, iteF ⟨_, rfl, _, _, _, _, _, rfl, ClsV.ty _, ty, kit_ty (by decide +kernel), false, rfl, iteF ?_⟩⟩
      refine ⟨_, rfl, true, rfl, iteT ?_⟩
      exact ⟨_, rfl, q⟩
    | @tup n a b xs ys ha hb hl hm hh =>
      refine ⟨_, pss_cons (ps_if (PW.pt (pw_or (pt_val (pe_callB call_isi (by rfl) Z.m_isinstance (by decide +kernel) (pa_cons (pv 1) (pa_cons (pe_bltn (u := .type "tuple") (v := .ty "tuple") (by rfl) Z.m_tuple (by decide +kernel) rfl) pa_nil)))) (pw_or1 (pt_val (pe_callB call_isi (by rfl) Z.m_isinstance (by decide +kernel) (pa_cons (pv 1) (pa_cons (pe_bltn (u := .type "list") (v := .ty "list") (by rfl) Z.m_list (by decide +kernel) rfl) pa_nil)))))))
        (pss_cons (ps_if (PW.pt (pw_or (pt_cmpR op_ne (pe_callB call_isi (by rfl) Z.m_isinstance (by decide +kernel) (pa_cons (pv 1) (pa_cons (pe_bltn (u := .type "tuple") (v := .ty "tuple") (by rfl) Z.m_tuple (by decide +kernel) rfl) pa_nil))) (pe_callB call_isi (by rfl) Z.m_isinstance (by decide +kernel) (pa_cons (pv 0) (pa_cons (pe_bltn (u := .type "tuple") (v := .ty "tuple") (by rfl) Z.m_tuple (by decide +kernel) rfl) pa_nil))) (nomark _)) (pw_or1 (pt_cmpR op_ne (pe_callB call_isi (by rfl) Z.m_isinstance (by decide +kernel) (pa_cons (pv 1) (pa_cons (pe_bltn (u := .type "list") (v := .ty "list") (by rfl) Z.m_list (by decide +kernel) rfl) pa_nil))) (pe_callB call_isi (by rfl) Z.m_isinstance (by decide +kernel) (pa_cons (pv 0) (pa_cons (pe_bltn (u := .type "list") (v := .ty "list") (by rfl) Z.m_list (by decide +kernel) rfl) pa_nil))) (nomark _))))) (pss_one ps_never) pss_nil)
          (pss_cons (ps_if (pt_cmpR op_ne (pe_callB call_len_seq (by rfl) Z.m_len PySem.boot_len (pa_cons (pv 0) pa_nil)) (pe_callB call_len_seq (by rfl) Z.m_len PySem.boot_len (pa_cons (pv 1) pa_nil)) (nomark _)) (pss_one ps_never) pss_nil)
          (pss_cons (ps_for PassesOwn.never rfl (pi_range1 rfl Z.m_range (pa_cons (pe_callB call_len_seq (by rfl) Z.m_len PySem.boot_len (pa_cons (pv 1) pa_nil)) pa_nil)) (pg_name (i := 2) nd rfl (.inl rfl))
            (pss_one (ps_if (pt_not (pt_val (pe_call (G _ rfl) hr (by rfl) gS F.kp bS .nil pass0 (pa_cons (pe_ix ix_tup (pv 0) (pv 2) (fun _ _ => rfl)) (pa_cons (pe_ix ix_tup (pv 1) (pv 2) (fun _ _ => rfl)) pa_nil))))) (pss_one ps_never) pss_nil)))
          (pss_one (ps_ret pe_bl))))) pss_nil)
        (pss_cons ps_never (pss_cons ps_never (pss_cons ps_never (pss_one ps_never)))), ?_⟩
      have ty0 : TyX K H (.ref a) (.type "tuple") := .base (.tup ha)
      have ty1 : TyX K H (.ref b) (.type "tuple") := .base (.tup hb)
      refine ⟨_, rfl, _, _, _, _, _, rfl, ClsV.ty _, ty1, kit_ty (b := "tuple") (r := true) (by decide +kernel), true, rfl, iteT ?_⟩
      refine ⟨_, rfl, _, _, _, _, _, rfl, ClsV.ty _, ty1, kit_ty (b := "tuple") (r := true) (by decide +kernel), _, rfl, _, _, _, _, _, rfl, ClsV.ty _, ty0, kit_ty (b := "tuple") (r := true) (by decide +kernel), rfl, false, rfl, iteF ⟨_, rfl, _, _, _, _, _, rfl, ClsV.ty _, ty1, kit_ty (b := "list") (r := false) (by decide +kernel), _, rfl, _, _, _, _, _, rfl, ClsV.ty _, ty0, kit_ty (b := "list") (r := false) (by decide +kernel), rfl, false, rfl, iteF ?_⟩⟩
      refine ⟨_, rfl, _, _, rfl, .inr (SqT.of ha), _, rfl, _, _, rfl, .inr (SqT.of hb), rfl, _, rfl, ?_⟩
      rw [hl, decide_eq_true rfl]
      refine iteF ⟨_, rfl, _, _, rfl, .inr (SqT.of hb), _, rfl, by omega, by omega, ?_⟩
      refine for_range (lo := 0) (n := ys.length) (fun i σ H' => H' = H ∧ ∃ y2 : Option V, σ = [some (.ref a), some (.ref b), y2]) ⟨rfl, _, rfl⟩ (fun i σ H' hi hP => ?_) (fun σ H' hP => ?_)
      · obtain ⟨rfl, y2, rfl⟩ := hP
        have g1 : xs[i]? = some xs[i] := List.getElem?_eq_getElem (by omega)
        have g2 : ys[i]? = some ys[i] := List.getElem?_eq_getElem hi
        have e0 : (0 : Int) + (i : Int) = ((i : Nat) : Int) := Int.zero_add _
        rw [e0]
        exact ⟨_, rfl, _, rfl, _, _, _, _, rfl, rfl, SqT.of ha, atI_nat g1, _, rfl, _, rfl, _, _, _, _, rfl, rfl, SqT.of hb, atI_nat g2, _, _, rfl, hh i _ _ g1 g2, true, rfl, iteF ⟨rfl, _, rfl⟩⟩
      · obtain ⟨rfl, y2, rfl⟩ := hP
        exact q
    | @lst n a b xs ys ha hb hl hm hh =>
      refine ⟨_, pss_cons (ps_if (PW.pt (pw_or (pt_val (pe_callB call_isi (by rfl) Z.m_isinstance (by decide +kernel) (pa_cons (pv 1) (pa_cons (pe_bltn (u := .type "tuple") (v := .ty "tuple") (by rfl) Z.m_tuple (by decide +kernel) rfl) pa_nil)))) (pw_or1 (pt_val (pe_callB call_isi (by rfl) Z.m_isinstance (by decide +kernel) (pa_cons (pv 1) (pa_cons (pe_bltn (u := .type "list") (v := .ty "list") (by rfl) Z.m_list (by decide +kernel) rfl) pa_nil)))))))
        (pss_cons (ps_if (PW.pt (pw_or (pt_cmpR op_ne (pe_callB call_isi (by rfl) Z.m_isinstance (by decide +kernel) (pa_cons (pv 1) (pa_cons (pe_bltn (u := .type "tuple") (v := .ty "tuple") (by rfl) Z.m_tuple (by decide +kernel) rfl) pa_nil))) (pe_callB call_isi (by rfl) Z.m_isinstance (by decide +kernel) (pa_cons (pv 0) (pa_cons (pe_bltn (u := .type "tuple") (v := .ty "tuple") (by rfl) Z.m_tuple (by decide +kernel) rfl) pa_nil))) (nomark _)) (pw_or1 (pt_cmpR op_ne (pe_callB call_isi (by rfl) Z.m_isinstance (by decide +kernel) (pa_cons (pv 1) (pa_cons (pe_bltn (u := .type "list") (v := .ty "list") (by rfl) Z.m_list (by decide +kernel) rfl) pa_nil))) (pe_callB call_isi (by rfl) Z.m_isinstance (by decide +kernel) (pa_cons (pv 0) (pa_cons (pe_bltn (u := .type "list") (v := .ty "list") (by rfl) Z.m_list (by decide +kernel) rfl) pa_nil))) (nomark _))))) (pss_one ps_never) pss_nil)
          (pss_cons (ps_if (pt_cmpR op_ne (pe_callB call_len_seq (by rfl) Z.m_len PySem.boot_len (pa_cons (pv 0) pa_nil)) (pe_callB call_len_seq (by rfl) Z.m_len PySem.boot_len (pa_cons (pv 1) pa_nil)) (nomark _)) (pss_one ps_never) pss_nil)
          (pss_cons (ps_for PassesOwn.never rfl (pi_range1 rfl Z.m_range (pa_cons (pe_callB call_len_seq (by rfl) Z.m_len PySem.boot_len (pa_cons (pv 1) pa_nil)) pa_nil)) (pg_name (i := 2) nd rfl (.inl rfl))
            (pss_one (ps_if (pt_not (pt_val (pe_call (G _ rfl) hr (by rfl) gS F.kp bS .nil pass0 (pa_cons (pe_ix ix_list (pv 0) (pv 2) (fun _ _ => rfl)) (pa_cons (pe_ix ix_list (pv 1) (pv 2) (fun _ _ => rfl)) pa_nil))))) (pss_one ps_never) pss_nil)))
          (pss_one (ps_ret pe_bl))))) pss_nil)
        (pss_cons ps_never (pss_cons ps_never (pss_cons ps_never (pss_one ps_never)))), ?_⟩
      have ty0 : TyX K H (.ref a) (.type "list") := .base (.lst ha)
      have ty1 : TyX K H (.ref b) (.type "list") := .base (.lst hb)
      refine ⟨_, rfl, _, _, _, _, _, rfl, ClsV.ty _, ty1, kit_ty (b := "tuple") (r := false) (by decide +kernel), false, rfl, iteF ⟨_, rfl, _, _, _, _, _, rfl, ClsV.ty _, ty1, kit_ty (b := "list") (r := true) (by decide +kernel), true, rfl, iteT ?_⟩⟩
      refine ⟨_, rfl, _, _, _, _, _, rfl, ClsV.ty _, ty1, kit_ty (b := "tuple") (r := false) (by decide +kernel), _, rfl, _, _, _, _, _, rfl, ClsV.ty _, ty0, kit_ty (b := "tuple") (r := false) (by decide +kernel), rfl, false, rfl, iteF ⟨_, rfl, _, _, _, _, _, rfl, ClsV.ty _, ty1, kit_ty (b := "list") (r := true) (by decide +kernel), _, rfl, _, _, _, _, _, rfl, ClsV.ty _, ty0, kit_ty (b := "list") (r := true) (by decide +kernel), rfl, false, rfl, iteF ?_⟩⟩
      refine ⟨_, rfl, _, _, rfl, .inl (SqL.of ha), _, rfl, _, _, rfl, .inl (SqL.of hb), rfl, _, rfl, ?_⟩
      rw [hl, decide_eq_true rfl]
      refine iteF ⟨_, rfl, _, _, rfl, .inl (SqL.of hb), _, rfl, by omega, by omega, ?_⟩
      refine for_range (lo := 0) (n := ys.length) (fun i σ H' => H' = H ∧ ∃ y2 : Option V, σ = [some (.ref a), some (.ref b), y2]) ⟨rfl, _, rfl⟩ (fun i σ H' hi hP => ?_) (fun σ H' hP => ?_)
      · obtain ⟨rfl, y2, rfl⟩ := hP
        have g1 : xs[i]? = some xs[i] := List.getElem?_eq_getElem (by omega)
        have g2 : ys[i]? = some ys[i] := List.getElem?_eq_getElem hi
        have e0 : (0 : Int) + (i : Int) = ((i : Nat) : Int) := Int.zero_add _
        rw [e0]
        exact ⟨_, rfl, _, rfl, _, _, _, _, rfl, rfl, SqL.of ha, atI_nat g1, _, rfl, _, rfl, _, _, _, _, rfl, rfl, SqL.of hb, atI_nat g2, _, _, rfl, hh i _ _ g1 g2, true, rfl, iteF ⟨rfl, _, rfl⟩⟩
      · obtain ⟨rfl, y2, rfl⟩ := hP
        exact q

/-- all but p is as it was, and there may be more -/
def Keep (p : Addr) (H H' : Hp) : Prop := ∀ x o, x ≠ p → H x = some o → H' x = some o
theorem But.keep {p : Addr} {H H' : Hp} (h : But p H H') : Keep p H H' := fun x o n e => (h.1 x n).trans e
theorem Keep.trans {p : Addr} {H H1 H2 : Hp} (a : Keep p H H1) (b : Keep p H1 H2) : Keep p H H2 := fun x o n e => b x o n (a x o n e)
theorem Keep.refl (p : Addr) (H : Hp) : Keep p H H := fun _ _ _ e => e
theorem Same.keep {p : Addr} {H H' : Hp} (h : Same H H') : Keep p H H' := fun x o _ e => h x o e
theorem Pl.lst {H : Hp} {p : Addr} (h : Pl H p) : ∃ xs, H p = some (.lst xs) := by
  obtain ⟨q, ns, a, b, c, d, e, _⟩ := h
  exact ⟨_, e⟩
theorem Pl.ne {H : Hp} {p x : Addr} {ys : List V} (h : Pl H p) (hx : H x = some (.tup ys)) : x ≠ p := by
  obtain ⟨xs, e⟩ := h.lst
  exact ne_of hx e (fun z => nomatch z)
theorem Pl.same {H H' : Hp} {p : Addr} (h : Pl H p) (s : Same H H') : Pl H' p := by
  obtain ⟨q, ns, a, b, c, d, e, e2, n⟩ := h
  exact ⟨q, ns, a, b, c, d, s _ _ e, s _ _ e2, n⟩
/-- a pool whose list stands at q -/
def Plq (H : Hp) (p q : Addr) : Prop := ∃ (ns : List Int) (a : Nat) (b c d : Int), H p = some (.lst [.ref q, .int a, .int b, .int c, .int d]) ∧ H q = some (.lst (ns.map V.int)) ∧ q ≠ p
theorem Pl.q {H : Hp} {p : Addr} (h : Pl H p) : ∃ q, Plq H p q := h
theorem Plq.pl {H : Hp} {p q : Addr} (h : Plq H p q) : Pl H p := ⟨q, h⟩
theorem Plq.but {H H' : Hp} {p q : Addr} (h : Plq H p q) (hB : But p H H') (h' : Pl H' p) : Plq H' p q := by
  obtain ⟨ns, a, b, c, d, e, e2, n⟩ := h
  obtain ⟨l, hl⟩ := hB.2 q ⟨_, e⟩
  obtain ⟨q2, ns2, a2, b2, c2, d2, f, f2, n2⟩ := h'
  have := hl.symm.trans f
  injection this with this
  injection this with this
  injection this with this
  injection this with this
  subst this
  exact ⟨ns2, a2, b2, c2, d2, f, f2, n2⟩
theorem Plq.upd {H : Hp} {p q D : Addr} {o : HO} (h : Plq H p q) (h1 : p ≠ D) (h2 : q ≠ D) : Plq (upd H D o) p q := by
  obtain ⟨ns, a, b, c, d, e, e2, n⟩ := h
  exact ⟨ns, a, b, c, d, by rw [upd_ne h1]; exact e, by rw [upd_ne h2]; exact e2, n⟩
theorem Plq.same {H H' : Hp} {p q : Addr} (h : Plq H p q) (s : Same H H') : Plq H' p q := by
  obtain ⟨ns, a, b, c, d, e, e2, n⟩ := h
  exact ⟨ns, a, b, c, d, s _ _ e, s _ _ e2, n⟩
theorem Plq.ne_free {H : Hp} {p q D : Addr} (h : Plq H p q) (n : H D = none) : p ≠ D ∧ q ≠ D := by
  obtain ⟨ns, a, b, c, d, e, e2, _⟩ := h
  exact ⟨ne_of_none e n, ne_of_none e2 n⟩

theorem cmul {x y : Int} {a b : Nat} (ha : x.natAbs < 2 ^ a) (hb : y.natAbs < 2 ^ b) (h0 : 0 < a := by decide) (h1 : 0 < b := by decide) (h : a + b ≤ 1000000 := by decide) : CMulW x y := wide_mul ha hb h0 h1 h

/-! ### vectors: tuples of ints -/
/-- the greatest common divisor of a list -/
def gl (ns : List Int) : Int := ns.foldl g2 0
theorem g2_max {c x : Int} {B : Nat} (hc : c.natAbs < B) (hx : x.natAbs < B) : (g2 c x).natAbs < B := by
  by_cases h : x = 0
  · subst h
    unfold g2
    rw [show (0 : Int).natAbs = 0 from rfl, Nat.gcd_zero_right]
    omega
  · exact Nat.lt_of_le_of_lt (g2_le h) hx
theorem g2_nn (a b : Int) : 0 ≤ g2 a b := by
  unfold g2
  omega
theorem gl_step {ns : List Int} {i : Nat} {x : Int} (h : ns[i]? = some x) : gl (ns.take (i + 1)) = g2 (gl (ns.take i)) x := by
  unfold gl
  rw [List.take_add_one, h, List.foldl_append]
  rfl
theorem gl_lim {ns : List Int} {B : Nat} (h0 : 0 < B) (h : ∀ n ∈ ns, n.natAbs < B) : (gl ns).natAbs < B := by
  unfold gl
  have : ∀ (l : List Int) (c : Int), c.natAbs < B → (∀ n ∈ l, n.natAbs < B) → (l.foldl g2 c).natAbs < B := by
    intro l
    induction l with
    | nil => intro c hc _; exact hc
    | cons x r ih =>
      intro c hc hl
      exact ih _ (g2_max hc (hl x List.mem_cons_self)) fun n hn => hl n (List.mem_cons_of_mem _ hn)
  exact this ns 0 (by show 0 < B; exact h0) h
theorem gl_nn (ns : List Int) : 0 ≤ gl ns := by
  unfold gl
  have : ∀ (l : List Int) (c : Int), 0 ≤ c → 0 ≤ l.foldl g2 c := by
    intro l
    induction l with
    | nil => intro c hc; exact hc
    | cons x r ih => intro c _; exact ih _ (g2_nn _ _)
  exact this ns 0 (Int.le_refl 0)
theorem gl_take_lim {ns : List Int} {B i : Nat} (h0 : 0 < B) (h : ∀ n ∈ ns, n.natAbs < B) : (gl (ns.take i)).natAbs < B := gl_lim h0 fun n hn => h n (List.mem_of_mem_take hn)
def prim (ns : List Int) : List Int := if gl ns = 0 then ns else ns.map (· / gl ns)
def dotz (ns ms : List Int) : List Int := (ns.zip ms).map fun p => p.1 * p.2
theorem prim_len (ns : List Int) : (prim ns).length = ns.length := by
  unfold prim
  split
  · rfl
  · rw [List.length_map]
theorem map_get {ns : List Int} {i : Nat} {x : V} (h : (ns.map V.int)[i]? = some x) : ∃ n, ns[i]? = some n ∧ x = .int n := by
  rw [List.getElem?_map] at h
  cases e : ns[i]? with
  | none => rw [e] at h; cases h
  | some n => rw [e] at h; exact ⟨n, rfl, (Option.some.inj h).symm⟩
theorem get_map {ns : List Int} {i : Nat} {n : Int} (h : ns[i]? = some n) : (ns.map V.int)[i]? = some (.int n) := by
  rw [List.getElem?_map, h]
  rfl
theorem lt_of_get {α : Type} {xs : List α} {i : Nat} {x : α} (h : xs[i]? = some x) : i < xs.length := (List.getElem?_eq_some_iff.mp h).1
/-- the vector at a -/
def Vc (H : Hp) (a : Addr) (ns : List Int) : Prop := H a = some (.tup (ns.map V.int))
theorem vc_alike {H : Hp} {a b : Addr} {ns : List Int} (n : Nat) (ha : Vc H a ns) (hb : Vc H b ns) (hl : ns.length ≤ 1000) : Alike H (n + 1) (.ref a) (.ref b) :=
  .tup ha hb rfl (by rw [List.length_map]; omega) fun i x y h1 h2 => by
    have e := Option.some.inj (h1.symm.trans h2)
    subst e
    obtain ⟨m, _, rfl⟩ := map_get h1
    exact .int n m
theorem Vc.ne {H : Hp} {p a : Addr} {ns : List Int} (h : Vc H a ns) (hp : Pl H p) : a ≠ p := hp.ne h
theorem Vc.keep {H H' : Hp} {p a : Addr} {ns : List Int} (h : Vc H a ns) (hp : Pl H p) (k : Keep p H H') : Vc H' a ns := k _ _ (h.ne hp) h
theorem Vc.same {H H' : Hp} {a : Addr} {ns : List Int} (h : Vc H a ns) (k : Same H H') : Vc H' a ns := k _ _ h
theorem dotz_get {ns ms : List Int} {i : Nat} {x y : Int} (h1 : ns[i]? = some x) (h2 : ms[i]? = some y) : (dotz ns ms)[i]? = some (x * y) := by
  unfold dotz
  rw [List.getElem?_map, List.getElem?_zip_eq_some (z := (x, y)) |>.mpr ⟨h1, h2⟩]
  rfl
theorem dotz_len {ns ms : List Int} (h : ns.length = ms.length) : (dotz ns ms).length = ns.length := by
  unfold dotz
  rw [List.length_map, List.length_zip, h, Nat.min_self]
theorem take_get {α : Type} {xs : List α} {i : Nat} {x : α} (h : xs[i]? = some x) : xs.take (i + 1) = xs.take i ++ [x] := by
  rw [List.take_add_one, h]
  rfl

/-! ### walks of a list or a tuple -/
section
variable {X : Cx}
theorem PI.or {tg iter : Expr} {w1 w2 : TI} (h1 : PI X tg iter w1) (h2 : PI X tg iter w2) : PI X tg iter (fun σ H R => w1 σ H R ∨ w2 σ H R) := ⟨fun pins s σ H R I h => by
  rcases h with h | h
  · exact h1.run pins s σ H R I h
  · exact h2.run pins s σ H R I h⟩
theorem OpR.or {f : Value → Value → Sem Value} {r1 r2 : R2} (h1 : OpR X f r1) (h2 : OpR X f r2) : OpR X f (fun x y H Q => r1 x y H Q ∨ r2 x y H Q) := by
  intro pins s σ H x y v u Q I rx ry q
  rcases q with q | q
  · exact h1 pins s σ H x y v u Q I rx ry q
  · exact h2 pins s σ H x y v u Q I rx ry q
end

/-! ### fractions with positive divisors -/
/-- r holds the pair n, d, d > 0, both below 2 ^ B -/
def Fr (H : Hp) (r : Addr) (n d : Int) (B : Nat) : Prop := H r = some (.tup [.int n, .int d]) ∧ 0 < d ∧ n.natAbs < 2 ^ B ∧ d.natAbs < 2 ^ B
theorem Fr.up {H : Hp} {r : Addr} {n d : Int} {B C : Nat} (h : Fr H r n d B) (l : B ≤ C) : Fr H r n d C := ⟨h.1, h.2.1, up_pow h.2.2.1 l, up_pow h.2.2.2 l⟩
theorem Fr.mk {H : Hp} {p : Addr} {a b : Int} {B : Nat} (hb : 0 < b) (ha : a.natAbs < 2 ^ B) (hb2 : b.natAbs < 2 ^ B) : Fr (upd H p (.tup [.int (frN a b), .int (frD a b)])) p (frN a b) (frD a b) B :=
  ⟨upd_same, frD_pos hb, Nat.lt_of_le_of_lt (frN_abs (by omega)) ha, Nat.lt_of_le_of_lt (frD_abs (by omega)) hb2⟩
theorem Fr.same {H H' : Hp} {r : Addr} {n d : Int} {B : Nat} (h : Fr H r n d B) (s : Same H H') : Fr H' r n d B := ⟨s _ _ h.1, h.2⟩
theorem ints2 (a b : Int) : [V.int a, V.int b].length ≤ sizeLine := Nat.le_of_lt (small1000 (show 2 ≤ 1000 by decide))
theorem g2_lim {a b : Int} (hb : 0 < b) (hb2 : b.natAbs < 2 ^ 299) : (g2 a b).natAbs < 2 ^ 299 := Nat.lt_of_le_of_lt (g2_le (by omega)) hb2
def spFr : Sp := fun vs H Q _ => ∃ a b : Int, vs = [.int a, .int b] ∧ 0 < b ∧ a.natAbs < 2 ^ 299 ∧ b.natAbs < 2 ^ 299 ∧ ∀ p, H p = none → Q (.ref p) (upd H p (.tup [.int (frN a b), .int (frD a b)]))

abbrev s__law_frac : Stmt := topS 19
theorem sc__law_frac : FnScope ["a", "b", "common"] ["a", "b"] (defScope s__law_frac) := ⟨rfl, rfl, rfl, by decide +kernel, rfl, by decide +kernel, by decide +kernel⟩
theorem ok_lfrac {f : Addr} {fd : FuncData} {k : Nat} (F : Fun K "_law_frac" "_law_frac" s__law_frac f fd) (Z : Glb mg)
    (C_law_gcd : Call P w K mg base k "_law_gcd" ["a", "b"] spGcd) : FnOk P w K mg base CX0 (k + 1) f fd ["a", "b"] spFr := by
  refine F.ok sc__law_frac (fun vs H Q E h => ?_) (fun cdv A outer s H vs Q E hr h => ?_)
  · obtain ⟨a, b, rfl, _⟩ := h
    rfl
  · obtain ⟨a, b, rfl, hp, ha, hb, q⟩ := h
    refine ⟨_, (pss_cons (ps_set (i := 2) sc__law_frac.nd rfl (.inl rfl) (pe_call C_law_gcd.G hr (by rfl) C_law_gcd.m C_law_gcd.kp C_law_gcd.b .nil pass0 (pa_cons (pv 0) (pa_cons (pv 1) pa_nil))))
      (pss_cons (ps_if (pt_cmpR op_lt (pv 1) pe_int (nomark _)) (pss_one ps_never) pss_nil)
      (pss_one (ps_ret (pe_tup (pa_cons (pe_op op_fdivW (pv 0) (pv 2)) (pa_cons (pe_op op_fdivW (pv 1) (pv 2)) pa_nil))))))), ?_⟩
    have cd : CDivW b (g2 a b) := wide_div (g2_pos (by omega)) (g2_lim hp hb) (by decide) (by decide)
    refine ⟨_, rfl, _, rfl, a, b, rfl, ha, hb, _, rfl, _, _, rfl, rfl, _, rfl, ?_⟩
    rw [decide_eq_false (by omega)]
    exact iteF ⟨_, rfl, _, rfl, _, _, rfl, rfl, cd, _, rfl, _, rfl, _, _, rfl, rfl, cd, ints2 _ _, q⟩

/-- two fractions: what the function puts together of their entries -/
def spTwo (g : Int → Int → Int → Int → Int × Int) : Sp := fun vs H Q _ => ∃ (x y : Addr) (a b c d : Int), vs = [.ref x, .ref y] ∧ Fr H x a b 140 ∧ Fr H y c d 140 ∧
  ∀ p, H p = none → Q (.ref p) (upd H p (.tup [.int (frN (g a b c d).1 (g a b c d).2), .int (frD (g a b c d).1 (g a b c d).2)]))

/-! ### fractions in lowest terms -/
def Low (f : Int × Int) : Prop := 0 < f.2 ∧ Nat.gcd f.1.natAbs f.2.natAbs = 1
theorem low_fr {a b : Int} (hb : 0 < b) : Low (frN a b, frD a b) := by
  refine ⟨frD_pos hb, ?_⟩
  have g := g2_pos (a := a) (b := b) (by omega)
  have e : (g2 a b).natAbs = Nat.gcd a.natAbs b.natAbs := by
    unfold g2
    exact Int.natAbs_natCast _
  show Nat.gcd (a / g2 a b).natAbs (b / g2 a b).natAbs = 1
  rw [Int.natAbs_ediv_of_dvd (g2_dvd_l a b), Int.natAbs_ediv_of_dvd (g2_dvd_r a b), e]
  rw [Nat.gcd_div (Nat.gcd_dvd_left _ _) (Nat.gcd_dvd_right _ _)]
  exact Nat.div_self (Nat.gcd_pos_of_pos_right _ (by omega))
/-- the cross product of a fraction and what it comes from -/
theorem fr_cross {a b : Int} (hb : 0 < b) : frN a b * b = frD a b * a := by
  have g := g2_pos (a := a) (b := b) (by omega)
  obtain ⟨x, hx⟩ := g2_dvd_l a b
  obtain ⟨y, hy⟩ := g2_dvd_r a b
  unfold frN frD
  generalize hg : g2 a b = k at *
  have h1 : a / k = x := by rw [hx, Int.mul_ediv_cancel_left _ (by omega)]
  have h2 : b / k = y := by rw [hy, Int.mul_ediv_cancel_left _ (by omega)]
  rw [h1, h2, hx, hy]
  simp only [Int.mul_assoc, Int.mul_left_comm, Int.mul_comm]
/-- equal fractions in lowest terms -/
theorem low_eq {f g : Int × Int} (hf : Low f) (hg : Low g) (h : f.1 * g.2 = f.2 * g.1) : f = g := by
  obtain ⟨a, b⟩ := f
  obtain ⟨c, d⟩ := g
  obtain ⟨b0, h1⟩ := hf
  obtain ⟨d0, h2⟩ := hg
  simp only at *
  have hN : a.natAbs * d.natAbs = b.natAbs * c.natAbs := by rw [← Int.natAbs_mul, ← Int.natAbs_mul, h]
  have k1 : b.natAbs ∣ d.natAbs := by
    have : b.natAbs ∣ a.natAbs * d.natAbs := ⟨c.natAbs, hN⟩
    exact Nat.Coprime.dvd_of_dvd_mul_left (by rw [Nat.Coprime, Nat.gcd_comm]; exact h1) this
  have k2 : d.natAbs ∣ b.natAbs := by
    have : d.natAbs ∣ c.natAbs * b.natAbs := ⟨a.natAbs, by rw [Nat.mul_comm c.natAbs, ← hN, Nat.mul_comm]⟩
    exact Nat.Coprime.dvd_of_dvd_mul_left (by rw [Nat.Coprime, Nat.gcd_comm]; exact h2) this
  have e : b = d := by
    have := Nat.dvd_antisymm k1 k2
    omega
  subst e
  have : a * b = c * b := by rw [h, Int.mul_comm]
  rw [Int.eq_of_mul_eq_mul_right (by omega) this]
/-- the least common multiple of divisors, their product -/
def lcmD (fs : List (Int × Int)) : Int := fs.foldl (fun c f => ((Nat.lcm c.natAbs f.2.natAbs : Nat) : Int)) 1
def prodD (fs : List (Int × Int)) : Int := fs.foldl (fun c f => c * f.2) 1

/-- all but p stands, and p has its head -/
structure Kp (p : Addr) (H H' : Hp) : Prop where
  k : Keep p H H'
  h : ∀ q, Hd H p q → Hd H' p q
theorem But.kp {p : Addr} {H H' : Hp} (h : But p H H') : Kp p H H' := ⟨h.keep, h.2⟩
theorem Same.kp {p : Addr} {H H' : Hp} (h : Same H H') : Kp p H H' := ⟨Same.keep h, fun q ⟨l, e⟩ => ⟨l, h _ _ e⟩⟩
theorem Kp.trans {p : Addr} {H H1 H2 : Hp} (a : Kp p H H1) (b : Kp p H1 H2) : Kp p H H2 := ⟨a.k.trans b.k, fun q h => b.h q (a.h q h)⟩
theorem Plq.hd {H : Hp} {p q : Addr} (h : Plq H p q) : Hd H p q := by
  obtain ⟨ns, a, b, c, d, e, _⟩ := h
  exact ⟨_, e⟩
theorem hd_inj {H : Hp} {p q r : Addr} (h : Hd H p q) (h' : Hd H p r) : q = r := by
  obtain ⟨l, e⟩ := h
  obtain ⟨l', e'⟩ := h'
  have := e.symm.trans e'
  injection this with this
  injection this with this
  injection this with this
  injection this
theorem Plq.kp {H H' : Hp} {p q : Addr} (h : Plq H p q) (k : Kp p H H') (h' : Pl H' p) : Plq H' p q := by
  obtain ⟨q2, e⟩ := h'.q
  rw [hd_inj (k.h _ h.hd) e.hd]
  exact e
/-- a comprehension over range whose turn draws: what it leaves -/
def Dr (p : Addr) (H : Hp) (D : Addr) (B : Nat) (i : Nat) (H' : Hp) : Prop := (∃ q, Plq H p q ∧ Plq H' p q ∧ q ≠ D) ∧ Keep p H H' ∧ ∃ ns : List Int, H' D = some (.lst (ns.map V.int)) ∧ ns.length = i ∧ ∀ n ∈ ns, n.natAbs < 2 ^ B
theorem dr0 {p D : Addr} {H : Hp} {B : Nat} (hp : Pl H p) (nD : H D = none) : Dr p H D B 0 (upd H D (.lst [])) := by
  obtain ⟨q, hq⟩ := hp.q
  exact ⟨⟨q, hq, hq.same (same_upd nD), (hq.ne_free nD).2⟩, Same.keep (same_upd nD), [], upd_same, rfl, fun n h => nomatch h⟩
theorem dr_step {p D : Addr} {H H' H2 : Hp} {B i : Nat} {n : Int} (nD : H D = none) (hP : Pl H p) (h : Dr p H D B i H') (hB : But p H' H2) (P2 : Pl H2 p) (hn : n.natAbs < 2 ^ B) :
    ∃ acc, H2 D = some (.lst acc) ∧ acc.length = i ∧ Dr p H D B (i + 1) (upd H2 D (.lst (acc ++ [.int n]))) := by
  obtain ⟨⟨q, hq0, hq, qD⟩, K1, ns, e, hl, hb⟩ := h
  have ne : D ≠ p := by
    obtain ⟨q0, h0⟩ := hP.q
    exact (h0.ne_free nD).1.symm
  refine ⟨ns.map V.int, (hB.1 D ne).trans e, by rw [List.length_map]; exact hl, ⟨q, hq0, (hq.but hB P2).upd ne.symm qD, qD⟩, ?_, ns ++ [n], ?_, ?_, ?_⟩
  · intro x o hx ho
    have hxD : x ≠ D := ne_of_none ho nD
    rw [upd_ne hxD]
    exact hB.keep _ _ hx (K1 _ _ hx ho)
  · rw [upd_same, List.map_append]
    rfl
  · rw [List.length_append, hl]
    rfl
  · intro m hm
    rcases List.mem_append.mp hm with h | h
    · exact hb m h
    · rw [List.mem_singleton.mp h]
      exact hn
theorem Dr.kp {p D : Addr} {H H' : Hp} {B i : Nat} (h : Dr p H D B i H') : Kp p H H' := by
  obtain ⟨⟨q, h1, h2, _⟩, k, _⟩ := h
  exact ⟨k, fun q' hq => by rw [hd_inj hq h1.hd]; exact h2.hd⟩

theorem Fr.keep {H H' : Hp} {r p : Addr} {n d : Int} {B : Nat} (h : Fr H r n d B) (hp : Pl H p) (s : Keep p H H') : Fr H' r n d B := ⟨s _ _ (hp.ne h.1) h.1, h.2⟩
abbrev s__law_some_frac : Stmt := topS 21
theorem sc__law_some_frac : FnScope ["pool", "way", "a", "b"] ["pool"] (defScope s__law_some_frac) := ⟨rfl, rfl, rfl, by decide +kernel, rfl, by decide +kernel, by decide +kernel⟩
def spSome : Sp := fun vs H Q _ => ∃ p : Addr, vs = [.ref p] ∧ Pl H p ∧ ∀ (r : Addr) (H' : Hp) (n d : Int), Pl H' p → Kp p H H' → Fr H' r n d 100 → n.natAbs < 2 ^ 85 → d.natAbs < 2 ^ 45 → Low (n, d) → Q (.ref r) H'
theorem lt_pow {v m : Int} {B : Nat} (h0 : 0 ≤ v) (h : v < m) (hm : m.natAbs ≤ 2 ^ B) : v.natAbs < 2 ^ B := by omega
theorem ok_some {f : Addr} {fd : FuncData} {k : Nat} (F : Fun K "_law_some_frac" "_law_some_frac" s__law_some_frac f fd) (Z : Glb mg)
    (C_law_draw : Call P w K mg base k "_law_draw" ["pool", "many"] spDraw)
    (C_law_frac : Call P w K mg base k "_law_frac" ["a", "b"] spFr) : FnOk P w K mg base CX0 (k + 1) f fd ["pool"] spSome := by
  refine F.ok sc__law_some_frac (fun vs H Q E h => ?_) (fun cdv A outer s H vs Q E hr h => ?_)
  · obtain ⟨p, rfl, _⟩ := h
    rfl
  · obtain ⟨p, rfl, hP, q⟩ := h
    refine ⟨_, (pss_cons (ps_set (i := 1) sc__law_some_frac.nd rfl (.inl rfl) (pe_call C_law_draw.G hr (by rfl) C_law_draw.m C_law_draw.kp C_law_draw.b .nil pass0 (pa_cons (pv 0) (pa_cons pe_int pa_nil))))
      (pss_cons (ps_set (i := 2) sc__law_some_frac.nd rfl (.inl rfl) (pe_op op_sub (pe_call C_law_draw.G hr (by rfl) C_law_draw.m C_law_draw.kp C_law_draw.b .nil pass0 (pa_cons (pv 0) (pa_cons pe_int pa_nil))) pe_int))
      (pss_cons (ps_set (i := 3) sc__law_some_frac.nd rfl (.inl rfl) (pe_op op_add pe_int (pe_call C_law_draw.G hr (by rfl) C_law_draw.m C_law_draw.kp C_law_draw.b .nil pass0 (pa_cons (pv 0) (pa_cons pe_int pa_nil)))))
      (pss_cut (ps_if (pt_cmpR op_eq (pv 1) pe_int (nomark _)) (pss_cons (ps_set (i := 2) sc__law_some_frac.nd rfl (.inl rfl) (pe_op op_mulW (pe_op op_sub (pe_call C_law_draw.G hr (by rfl) C_law_draw.m C_law_draw.kp C_law_draw.b .nil pass0 (pa_cons (pv 0) (pa_cons (pe_op op_pow pe_int pe_int) pa_nil))) (pe_op op_mul pe_int (pe_op op_pow pe_int pe_int))) (pe_op op_add pe_int (pe_call C_law_draw.G hr (by rfl) C_law_draw.m C_law_draw.kp C_law_draw.b .nil pass0 (pa_cons (pv 0) (pa_cons (pe_op op_pow pe_int pe_int) pa_nil))))))
      (pss_one (ps_set (i := 3) sc__law_some_frac.nd rfl (.inl rfl) (pe_op op_add pe_int (pe_call C_law_draw.G hr (by rfl) C_law_draw.m C_law_draw.kp C_law_draw.b .nil pass0 (pa_cons (pv 0) (pa_cons (pe_op op_pow pe_int pe_int) pa_nil))))))) pss_nil)
      (pss_one (ps_ret (pe_call C_law_frac.G hr (by rfl) C_law_frac.m C_law_frac.kp C_law_frac.b .nil pass0 (pa_cons (pv 2) (pa_cons (pv 3) pa_nil))))))))), ?_⟩
    refine ⟨_, rfl, _, _, rfl, by decide, by decide, hP, fun v1 H1 l1 u1 P1 B1 => ?_⟩
    refine ⟨_, rfl, _, _, rfl, by decide, by decide, P1, fun v2 H2 l2 u2 P2 B2 => ⟨_, _, rfl, rfl, ?_⟩⟩
    refine ⟨_, rfl, _, _, rfl, by decide, by decide, P2, fun v3 H3 l3 u3 P3 B3 => ⟨_, _, rfl, rfl, ?_⟩⟩
    refine ⟨fun σ H' => ∃ w n d : Int, σ = [some (.ref p), some (.int w), some (.int n), some (.int d)] ∧ 0 < d ∧ n.natAbs < 2 ^ 85 ∧ d.natAbs < 2 ^ 45 ∧ Pl H' p ∧ But p H H', ?_, ?_⟩
    · refine ⟨_, rfl, rfl, _, rfl, ite2 (fun e => ?_) (fun e => ?_)⟩
      · refine ⟨_, rfl, _, _, rfl, rfl, ⟨by decide, by decide, by decide⟩, _, _, rfl, by decide, by decide, P3, fun v4 H4 l4 u4 P4 B4 => ?_⟩
        refine ⟨_, _, rfl, rfl, ⟨by decide, by decide, by decide⟩, _, _, rfl, rfl, .inl ⟨by decide, by decide⟩, _, _, rfl, rfl, ?_⟩
        refine ⟨_, rfl, _, _, rfl, rfl, ⟨by decide, by decide, by decide⟩, _, _, rfl, by decide, by decide, P4, fun v5 H5 l5 u5 P5 B5 => ⟨_, _, rfl, rfl, _, _, rfl, rfl, ?_⟩⟩
        have m1 : (v4 - 5 * (10 : Int) ^ (14 : Int).toNat).natAbs < 2 ^ 50 := by
          have : v4 < 1000000000000000 := u4
          have e : (5 * (10 : Int) ^ (14 : Int).toNat) = 500000000000000 := by decide
          rw [e]
          omega
        have m2 : (1 + v5).natAbs < 2 ^ 31 := by
          have : v5 < 1000000000 := u5
          omega
        refine ⟨cmul m1 m2, ?_⟩
        refine ⟨_, rfl, _, _, rfl, rfl, ⟨by decide, by decide, by decide⟩, _, _, rfl, by decide, by decide, P5, fun v6 H6 l6 u6 P6 B6 => ⟨_, _, rfl, rfl, ?_⟩⟩
        have u6' : v6 < 1000000000000 := u6
        exact ⟨_, _, 1 + v6, rfl, by omega, up_pow (mul_pow m1 m2) (by decide), by omega, P6, ((((B1.trans B2).trans B3).trans B4).trans B5).trans B6⟩
      · exact ⟨v1, v2 - 20, 1 + v3, rfl, by omega, by omega, by omega, P3, (B1.trans B2).trans B3⟩
    · intro σ H1' hW
      obtain ⟨w1, n, d, rfl, d0, hn, hd, P4, B4⟩ := hW
      refine ⟨_, rfl, _, rfl, n, d, rfl, d0, up_pow hn (by decide), up_pow hd (by decide), fun r nr => ?_⟩
      exact q r _ _ _ (P4.same (same_upd nr)) (B4.kp.trans (Same.kp (same_upd nr))) (Fr.mk d0 (up_pow hn (by decide)) (up_pow hd (by decide))) (Nat.lt_of_le_of_lt (frN_abs (by omega)) hn) (Nat.lt_of_le_of_lt (frD_abs (by omega)) hd) (low_fr d0)

/-- a call of a def that may raise -/
structure CallX (P : Program) (w : World) (K : PySem.W.Frag) (mg : Str → Option Value) (base : Heap) (k : Nat) (nm : Str) (ps : List Str) (sp : Sp) where
  g : Addr
  gd : FuncData
  G : FnOk P w K mg base (L2.CX P w) k g gd ps sp
  m : mg nm = some (.ref g)
  kp : PySem.W.keepIn K (.ref g) = true
  b : Binds K gd ps []

/-! ### texts of integers -/
structure FunC (K : PySem.W.Frag) (x qual : Str) (st : Stmt) (f : Addr) (fd : FuncData) (c : Addr) : Prop where
  ex : ∃ (oc : Value) (od : Option Addr) (kV doc pm : Value) (an : Option Addr) (ct : Value) (osl : Array (Option Value)),
    fd = PySem.W.fnOf x qual (defArgs st) (defBody st) (defScope st) .none kV doc pm an (.ref c) ct ∧ K.lookup f = some ⟨oc, od, .func fd, osl⟩ ∧ PySem.W.codeIn K (.ref c) qual = true
theorem FunC.ok {x qual : Str} {st : Stmt} {f c : Addr} {fd : FuncData} {N ps : List Str} {k : Nat} {sp : Sp} (F : FunC K x qual st f fd c) (S : FnScope N ps (defScope st)) (len : ∀ vs H Q E, sp vs H Q E → vs.length = ps.length)
    (hbody : ∀ (A : Around) (outer : List Env) (s : Shared) (H : Hp) (vs : List V) (Q : VK) (E : XK), Room k (A.deeper (envOfC qual (defScope st) s.heap.objs.size f (.ref c))) → sp vs H Q E →
      ∃ t, PSs (cxOf CX0 P w K mg base N qual (defScope st) f (.ref c) A outer s H E).nox (defBody st) t ∧ t { nx := fun _ H' => Q .non H', rt := Q } (L2.start N vs) H) : FnOk P w K mg base CX0 (k + 1) f fd ps sp := by
  obtain ⟨oc, od, kV, doc, pm, an, ct, osl, rfl, lk, hcd⟩ := F.ex
  refine fn_of lk hcd S len fun A outer s H vs Q E hr hsp => ?_
  obtain ⟨t, h, q⟩ := hbody A outer s H vs Q E hr hsp
  exact ⟨t, h.nox, q⟩
/-- the text of digits only, without a 0 too many -/
def isNum (z : Str) : Bool := !decide (z = ("" : Str)) && z.cps.toList.all (fun c => decide (c ∈ ("0123456789" : Str).cps.toList)) && (decide (z = ("0" : Str)) || decide (z.cps.toList.head? ≠ some 48))
abbrev s_is_number : Stmt := topS 9
theorem sc_is_number : FnScope ["digits", "digit"] ["digits"] (defScope s_is_number) := ⟨rfl, rfl, rfl, by decide +kernel, rfl, by decide +kernel, by decide +kernel⟩
def spIsNum (T : Addr) : Sp := fun vs H Q _ => ∃ z : Str, vs = [.str z] ∧ z.length ≤ 1000 ∧ TabG H T ∧ ∀ H', Tabbed T H H' → Q (.bl (isNum z)) H'
theorem ok_isnum {f c T : Addr} {fd : FuncData} {k : Nat} (F : FunC K "is_number" "is_number" s_is_number f fd c) (Z : Glb mg) (TB : TabB base mg c T) : FnOk P w K mg base CX0 (k + 1) f fd ["digits"] (spIsNum T) := by
  refine F.ok sc_is_number (fun vs H Q E h => ?_) (fun A outer s H vs Q E hr h => ?_)
  · obtain ⟨z, rfl, _⟩ := h
    rfl
  · obtain ⟨z, rfl, hl, hT, q⟩ := h
    refine ⟨_, (pss_cons (ps_if (PW.pt (pw_or (pt_cmpR op_eq (pv 0) pe_str (nomark _)) (pw_or1 (pt_not (pt_val (pe_allS hr (by rfl) Z.m_all PyProof.Rows.boot_all TB rfl ⟨rfl, rfl, by decide +kernel, rfl, rfl, fun y hy e => absurd e ((by decide +kernel : ∀ y ∈ _, y.2 ≠ NameKind.free) y hy)⟩ (pv 0) (elt_in rfl rfl) (fun _ => rfl))))))) (pss_one (ps_ret pe_bl)) pss_nil)
      (pss_one (ps_ret (pe_or (pe_cmpR op_eq (pv 0) pe_str (nomark _)) (pe_one (pe_cmpR op_ne (pe_ix ix_str (pv 0) pe_int (fun _ _ => rfl)) pe_str (nomark _))))))), ?_⟩
    refine ⟨_, rfl, rfl, _, rfl, ite2 (fun e => ?_) (fun e => ?_)⟩
    · have e0 : z = "" := V.str.inj (of_decide_eq_true e)
      have := q H ⟨hT, fun _ _ => rfl⟩
      unfold isNum at this
      rw [decide_eq_true e0] at this
      exact this
    have e0 : z ≠ "" := fun h => e (decide_eq_true (by rw [h]))
    refine ⟨_, rfl, _, rfl, hT, fun H1 t1 => ?_⟩
    have q := q H1 t1
    unfold isNum at q
    rw [decide_eq_false e0] at q
    refine ⟨_, rfl, ?_⟩
    cases hall : z.cps.toList.all (fun c => decide (c ∈ ("0123456789" : Str).cps.toList)) with
    | false =>
      rw [hall] at q
      exact iteT q
    | true =>
      rw [hall] at q
      refine iteF ?_
      refine ⟨_, rfl, rfl, _, rfl, ite2 (fun e => ?_) (fun e => ?_)⟩
      · have e1 : z = "0" := V.str.inj (of_decide_eq_true e)
        rw [decide_eq_true e1] at q
        exact q
      · have e1 : z ≠ "0" := fun h => e (decide_eq_true (by rw [h]))
        rw [decide_eq_false e1] at q
        have hp : 0 < z.cps.toList.length := by
          by_cases h : z.cps.toList = []
          · exfalso
            apply e0
            cases z with
            | mk c =>
              have : c = #[] := by
                have := congrArg List.toArray h
                simpa using this
              rw [this]
              rfl
          · exact List.length_pos_iff.mpr h
        have g0 : z.cps.toList[0]? = some (z.cps.toList[0]) := List.getElem?_eq_getElem hp
        refine ⟨_, rfl, _, _, _, rfl, rfl, Nat.le_of_lt (small1000 hl), atI_nat (j := 0) g0, rfl, ?_⟩
        have e2 : decide (z.cps.toList.head? ≠ some 48) = !decide (V.str ⟨#[z.cps.toList[0]]⟩ = V.str ("0" : Str)) := by
          rw [List.head?_eq_getElem?, g0]
          by_cases h : z.cps.toList[0] = 48
          · rw [h]
            decide
          · rw [show decide (some z.cps.toList[0] ≠ some 48) = true from decide_eq_true (fun z => h (Option.some.inj z)), decide_eq_false (fun x => h ?_)]
            · rfl
            · have : [z.cps.toList[0]] = [48] := congrArg (fun s : Str => s.cps.toList) (V.str.inj x)
              exact (List.cons.inj this).1
        rw [e2] at q
        exact q
def digs (z : Str) : Str := if Txt.startswith z "-" then cutS z (some 1) none else z
abbrev s_read_integer : Stmt := topS 8
theorem sc_read_integer : FnScope ["text", "most_digits", "digits"] ["text", "most_digits"] (defScope s_read_integer) := ⟨rfl, rfl, rfl, by decide +kernel, rfl, by decide +kernel, by decide +kernel⟩
def spRdI (T : Addr) : Sp := fun vs H Q _ => ∃ (z : Str) (n : Int), vs = [.str z, .int 60] ∧ z.length ≤ 640 ∧ TabG H T ∧ (digs z).length ≤ 60 ∧ isNum (digs z) = true ∧ z ≠ ("-0" : Str) ∧ PySem.intText? z = some n ∧ ∀ H', Tabbed T H H' → Q (.int n) H'
theorem digs_len (z : Str) : (digs z).length ≤ z.length := by
  unfold digs
  split
  · exact cutS_length z _ _
  · exact Nat.le_refl _
theorem ok_rdi {f T : Addr} {fd : FuncData} {k : Nat} (F : Fun K "read_integer" "read_integer" s_read_integer f fd) (Z : Glb mg)
    (Cis_number : Call P w K mg base k "is_number" ["digits"] (spIsNum T)) : FnOk P w K mg base CX0 (k + 1) f fd ["text", "most_digits"] (spRdI T) := by
  refine F.ok sc_read_integer (fun vs H Q E h => ?_) (fun cdv A outer s H vs Q E hr h => ?_)
  · obtain ⟨z, n, rfl, _⟩ := h
    rfl
  · obtain ⟨z, n, rfl, hl, hT, h60, hN, h0, hi, q⟩ := h
    refine ⟨_, (pss_cons (ps_set (i := 2) sc_read_integer.nd rfl (.inl rfl) (pe_ifExp (pt_val (pe_m1 PySem.F.slot_str_startswith PySem.F.type_str_startswith mt_startswith (pv 0) pe_str)) (pe_slice sl_str (pv 0) (po_some pe_int) po_none) (pv 0)))
      (pss_cons (ps_if (PW.pt (pw_or (pt_cmpR op_gt (pe_callB call_len_str (by rfl) Z.m_len PySem.boot_len (pa_cons (pv 2) pa_nil)) (pv 1) (nomark _)) (pw_or (pt_not (pt_val (pe_call Cis_number.G hr (by rfl) Cis_number.m Cis_number.kp Cis_number.b .nil pass0 (pa_cons (pv 2) pa_nil)))) (pw_or1 (pt_cmpR op_eq (pv 0) pe_str (nomark _)))))) (pss_one ps_never) pss_nil)
      (pss_one (ps_ret (pe_callTy call_int_str (by rfl) Z.m_int (by decide +kernel) (pa_cons (pv 0) pa_nil)))))), ?_⟩
    have dl := digs_len z
    refine ⟨_, rfl, ⟨z, rfl⟩, z, _, rfl, rfl, _, rfl, ite2 (fun e => ?_) (fun e => ?_)⟩
    · have ed : digs z = cutS z (some 1) none := if_pos e
      refine ⟨_, rfl, 1, rfl, ?_⟩
      unfold tNoPart
      refine ⟨z, rfl, Nat.le_of_lt (small1000 (by omega)), ?_⟩
      rw [← ed]
      refine ⟨_, rfl, digs z, rfl, Nat.le_of_lt (small1000 (by omega)), _, rfl, _, _, rfl, rfl, _, rfl, ite2 (fun e => absurd (of_decide_eq_true e) (by show ¬ ((60 : Int) < ((digs z).length : Nat)); omega)) (fun _ => ?_)⟩
      refine ⟨_, rfl, digs z, rfl, by omega, hT, fun H1 t1 => ?_⟩
      rw [hN]
      refine ⟨_, rfl, iteF ?_⟩
      refine ⟨_, rfl, rfl, _, rfl, ite2 (fun e => absurd (V.str.inj (of_decide_eq_true e)) h0) (fun _ => ?_)⟩
      exact ⟨_, rfl, z, n, rfl, hi, hl, q H1 t1⟩
    · have ed : digs z = z := if_neg e
      rw [ed] at h60 hN
      refine ⟨_, rfl, ?_⟩
      refine ⟨_, rfl, z, rfl, Nat.le_of_lt (small1000 (by omega)), _, rfl, _, _, rfl, rfl, _, rfl, ite2 (fun e => absurd (of_decide_eq_true e) (by show ¬ ((60 : Int) < (z.length : Nat)); omega)) (fun _ => ?_)⟩
      refine ⟨_, rfl, z, rfl, by omega, hT, fun H1 t1 => ?_⟩
      rw [hN]
      refine ⟨_, rfl, iteF ?_⟩
      refine ⟨_, rfl, rfl, _, rfl, ite2 (fun e => absurd (V.str.inj (of_decide_eq_true e)) h0) (fun _ => ?_)⟩
      exact ⟨_, rfl, z, n, rfl, hi, hl, q H1 t1⟩
/-- all that stood stands, but for the table at T, which may have grown -/
def SmT (T : Addr) (H H' : Hp) : Prop := TabG H' T ∧ ∀ x o, x ≠ T → H x = some o → H' x = some o
theorem SmT.refl {T : Addr} {H : Hp} (h : TabG H T) : SmT T H H := ⟨h, fun _ _ _ e => e⟩
theorem SmT.trans {T : Addr} {H H1 H2 : Hp} (a : SmT T H H1) (b : SmT T H1 H2) : SmT T H H2 := ⟨b.1, fun x o n e => b.2 x o n (a.2 x o n e)⟩
theorem smT_tab {T : Addr} {H H' : Hp} (h : Tabbed T H H') : SmT T H H' := ⟨h.1, fun x o n e => (h.2 x n).trans e⟩
theorem smT_same {T : Addr} {H H' : Hp} (h : TabG H T) (s : Same H H') : SmT T H H' := by
  obtain ⟨ps, e, k⟩ := h
  exact ⟨⟨ps, s _ _ e, k⟩, fun x o _ e => s _ _ e⟩
theorem tabG_ne {T a : Addr} {H : Hp} {xs : List V} (h : TabG H T) (e : H a = some (.tup xs)) : a ≠ T := by
  obtain ⟨ps, e', _⟩ := h
  intro z
  rw [z, e'] at e
  cases e
theorem tabG_neL {T a : Addr} {H : Hp} {xs : List V} (h : TabG H T) (e : H a = some (.lst xs)) : a ≠ T := by
  obtain ⟨ps, e', _⟩ := h
  intro z
  rw [z, e'] at e
  cases e
theorem Vc.smT {T a : Addr} {H H' : Hp} {v : List Int} (h : Vc H a v) (hT : TabG H T) (s : SmT T H H') : Vc H' a v := s.2 _ _ (tabG_ne hT h) h
/-- z is the text of n -/
def RdOk (z : Str) (n : Int) : Prop := z.length ≤ 640 ∧ (digs z).length ≤ 60 ∧ isNum (digs z) = true ∧ z ≠ ("-0" : Str) ∧ PySem.intText? z = some n
abbrev s_read_fraction : Stmt := topS 12
theorem sc_read_fraction : FnScope ["text", "top", "bar", "bottom", "a", "b"] ["text"] (defScope s_read_fraction) := ⟨rfl, rfl, rfl, by decide +kernel, rfl, by decide +kernel, by decide +kernel⟩
def spRdF (T : Addr) : Sp := fun vs H Q _ => ∃ (z : Str) (a b : Int), vs = [.str z] ∧ z.length ≤ 640 ∧ TabG H T ∧ RdOk (Txt.partition z "/").1 a ∧
  (((Txt.partition z "/").2.1 = "" ∧ b = 1) ∨ ((Txt.partition z "/").2.1 ≠ "" ∧ RdOk (Txt.partition z "/").2.2 b ∧ 2 ≤ b ∧ g2 a b = 1)) ∧ ∀ (H' : Hp) (r : Addr), SmT T H H' → Vc H' r [a, b] → Q (.ref r) H'
theorem ok_rdf {f T : Addr} {fd : FuncData} {k : Nat} (F : Fun K "read_fraction" "read_fraction" s_read_fraction f fd) (Z : Glb mg)
    (Cread_integer : Call P w K mg base k "read_integer" ["text", "most_digits"] (spRdI T)) : FnOk P w K mg base CX0 (k + 1) f fd ["text"] (spRdF T) := by
  refine F.ok sc_read_fraction (fun vs H Q E h => ?_) (fun cdv A outer s H vs Q E hr h => ?_)
  · obtain ⟨z, a, b, rfl, _⟩ := h
    rfl
  · obtain ⟨z, a, b, rfl, hl, hT, ha, hb, q⟩ := h
    refine ⟨_, (pss_cons (ps_asg (pe_partition (pv 0) pe_str) (pg_tup rfl (pgs_cons (pg_name (i := 1) sc_read_fraction.nd rfl (.inl rfl)) (pgs_cons (pg_name (i := 2) sc_read_fraction.nd rfl (.inl rfl)) (pgs_cons (pg_name (i := 3) sc_read_fraction.nd rfl (.inl rfl)) pgs_nil)))))
      (pss_cons (ps_set (i := 4) sc_read_fraction.nd rfl (.inl rfl) (pe_call Cread_integer.G hr (by rfl) Cread_integer.m Cread_integer.kp Cread_integer.b .nil pass0 (pa_cons (pv 1) (pa_cons (pe_glob (v := .int 60) (by rfl) (Z.m_most).choose_spec ⟨_, rfl⟩) pa_nil))))
      (pss_cons (ps_if (pt_cmpR op_eq (pv 2) pe_str (nomark _)) (pss_one (ps_ret (pe_tup (pa_cons (pv 4) (pa_cons pe_int pa_nil))))) pss_nil)
      (pss_cons (ps_set (i := 5) sc_read_fraction.nd rfl (.inl rfl) (pe_call Cread_integer.G hr (by rfl) Cread_integer.m Cread_integer.kp Cread_integer.b .nil pass0 (pa_cons (pv 3) (pa_cons (pe_glob (v := .int 60) (by rfl) (Z.m_most).choose_spec ⟨_, rfl⟩) pa_nil))))
      (pss_cons (ps_if (PW.pt (pw_or (pt_cmpR op_lt (pv 5) pe_int (nomark _)) (pw_or1 (pt_cmpR op_ne (pe_callBfun cr_gcd (by rfl) Z.m_gcd (pa_cons (pv 4) (pa_cons (pv 5) pa_nil))) pe_int (nomark _))))) (pss_one ps_never) pss_nil)
      (pss_one (ps_ret (pe_tup (pa_cons (pv 4) (pa_cons (pv 5) pa_nil)))))))))), ?_⟩
    refine ⟨_, rfl, ⟨z, rfl⟩, z, _, rfl, rfl, rfl, Nat.le_of_lt (small1000 (by omega)), fun p np => ?_⟩
    generalize Txt.partition z "/" = pt at *
    obtain ⟨top, bar, bottom⟩ := pt
    have s1 := same_upd (o := .tup [.str top, .str bar, .str bottom]) np
    have m1 := smT_same hT s1
    refine ⟨p, _, rfl, SqT.of upd_same, rfl, _, _, rfl, _, _, rfl, _, _, rfl, rfl, ?_⟩
    generalize upd H p (.tup [.str top, .str bar, .str bottom]) = H1 at *
    obtain ⟨a1, a2, a3, a4, a5⟩ := ha
    refine ⟨_, rfl, top, a, rfl, a1, m1.1, a2, a3, a4, a5, fun H2 t2 => ?_⟩
    have m2 := m1.trans (smT_tab t2)
    refine ⟨_, rfl, rfl, _, rfl, ite2 (fun e => ?_) (fun e => ?_)⟩
    · have e1 : bar = "" := V.str.inj (of_decide_eq_true e)
      have hb1 : b = 1 := by
        rcases hb with ⟨_, h⟩ | ⟨h, _⟩
        · exact h
        · exact absurd e1 h
      refine ⟨_, rfl, (show 2 ≤ sizeLine by decide), fun u nu => ?_⟩
      rw [hb1] at q
      exact q _ u (m2.trans (smT_same m2.1 (same_upd nu))) upd_same
    · have e1 : bar ≠ "" := fun h => e (decide_eq_true (by rw [h]))
      rcases hb with ⟨h, _⟩ | ⟨_, ⟨b1, b2, b3, b4, b5⟩, h2, hg⟩
      · exact absurd h e1
      refine ⟨_, rfl, bottom, b, rfl, b1, m2.1, b2, b3, b4, b5, fun H3 t3 => ?_⟩
      have m3 := m2.trans (smT_tab t3)
      refine ⟨_, rfl, _, _, rfl, rfl, _, rfl, ite2 (fun e => absurd (of_decide_eq_true e) (by show ¬ b < 2; omega)) (fun _ => ?_)⟩
      refine ⟨_, rfl, _, rfl, a, b, rfl, rfl, _, rfl, ite2 (fun e => ?_) (fun _ => ?_)⟩
      · exfalso
        have hg' : ((Nat.gcd a.natAbs b.natAbs : Nat) : Int) = 1 := hg
        rw [hg'] at e
        exact absurd e (by decide)
      · refine ⟨_, rfl, _, rfl, (show 2 ≤ sizeLine by decide), fun u nu => ?_⟩
        exact q _ u (m3.trans (smT_same m3.1 (same_upd nu))) upd_same

def dec (n : Int) : Str := Str.ofString (toString n)
def wI (n : Int) : Str := if n < 0 then ("-" : Str) ++ dec (-n) else dec n
theorem join_one (x : Str) : Txt.join "" [x] = x := rfl
abbrev s_write_integer : Stmt := topS 7
theorem sc_write_integer : FnScope ["number", "limit", "blocks", "block"] ["number"] (defScope s_write_integer) := ⟨rfl, rfl, rfl, by decide +kernel, rfl, by decide +kernel, by decide +kernel⟩
def spWI0 : Sp := fun vs H Q _ => ∃ n : Int, vs = [.int n] ∧ 0 ≤ n ∧ n.natAbs < 2 ^ 190 ∧ (dec n).length ≤ 500 ∧ ∀ H', Same H H' → Q (.str (dec n)) H'
def spWI : Sp := fun vs H Q _ => ∃ n : Int, vs = [.int n] ∧ n.natAbs < 2 ^ 190 ∧ (dec (n.natAbs : Int)).length ≤ 500 ∧ ∀ H', Same H H' → Q (.str (wI n)) H'
theorem ok_wi0 {f : Addr} {fd : FuncData} {k : Nat} (F : Fun K "write_integer" "write_integer" s_write_integer f fd) (Z : Glb mg) : FnOk P w K mg base CX0 (k + 1) f fd ["number"] spWI0 := by
  refine F.ok sc_write_integer (fun vs H Q E h => ?_) (fun cdv A outer s H vs Q E hr h => ?_)
  · obtain ⟨n, rfl, _⟩ := h
    rfl
  · obtain ⟨n, rfl, h0, hb, hl, q⟩ := h
    refine ⟨_, (pss_cons (ps_if (pt_cmpR op_lt (pv 0) pe_int (nomark _)) (pss_one ps_never) pss_nil)
      (pss_cons (ps_set (i := 1) sc_write_integer.nd rfl (.inl rfl) (pe_op op_pow pe_int pe_int))
      (pss_cons (ps_set (i := 2) sc_write_integer.nd rfl (.inl rfl) (pe_lst pa_nil))
      (pss_cons (ps_while PassesOwn.never (pt_cmpR op_ge (pv 0) (pv 1) (nomark _)) (pss_cons ps_never
      (pss_one ps_never)))
      (pss_cons (ps_expr (pe_bm PySem.F.plainAttrs_list PySem.F.slot_list_append PySem.F.type_list_append mt_append (pv 2) (pa_cons (pe_callTy call_str_int (by rfl) Z.m_str (by decide +kernel) (pa_cons (pv 0) pa_nil)) pa_nil)))
      (pss_one (ps_ret (pe_joinRev rfl pe_str (by rfl) Z.m_reversed (pv 2))))))))), ?_⟩
    refine ⟨_, rfl, _, _, rfl, rfl, _, rfl, ite2 (fun e => absurd (of_decide_eq_true e) (by show ¬ n < 0; omega)) (fun _ => ?_)⟩
    refine ⟨_, _, rfl, rfl, ⟨by decide, by decide, by decide⟩, ?_⟩
    refine ⟨Nat.zero_le _, fun l nl => ?_⟩
    have s1 := same_upd (o := .lst []) nl
    have el : (upd H l (.lst [])) l = some (.lst []) := upd_same
    generalize upd H l (.lst []) = H1 at *
    refine ⟨fun m σ H' => H' = H1 ∧ σ = [some (.int n), some (.int (10 ^ 60)), some (.ref l), none], ⟨0, rfl, rfl⟩, fun m σ H' hW => ?_⟩
    obtain ⟨rfl, rfl⟩ := hW
    refine ⟨_, rfl, _, rfl, _, _, rfl, rfl, _, rfl, ite2 (fun e => absurd (of_decide_eq_true e) ?_) (fun _ => ?_)⟩
    · have k1 : (2 : Nat) ^ 190 < 10 ^ 60 := by decide +kernel
      have k2 : ((10 : Int) ^ 60).natAbs = 10 ^ 60 := by decide +kernel
      show ¬ ((10 : Int) ^ 60 ≤ n)
      omega
    refine ⟨_, rfl, .inl ⟨rfl, _, SqL.of el⟩, _, rfl, n, rfl, ?_, l, _, _, rfl, rfl, el, (show 0 < sizeLine by decide), ?_⟩
    · exact Nat.lt_trans (PySem.Flt.log2_lt_of (by decide) hb) (by decide)
    refine ⟨_, rfl, _, rfl, l, [dec n], rfl, SqL.of upd_same, ?_, ?_⟩
    · show (dec n).length + 0 + 1 * 0 ≤ 16777216
      omega
    show Q (.str (Txt.join "" [dec n])) _
    rw [join_one]
    refine q _ fun x o hx => ?_
    rw [upd_ne (ne_of_none hx nl)]
    exact s1 _ _ hx
theorem fn_or {CX : CXT} {k : Nat} {f : Addr} {fd : FuncData} {ps : List Str} {sp1 sp2 : Sp} (F1 : FnOk P w K mg base CX k f fd ps sp1) (F2 : FnOk P w K mg base CX k f fd ps sp2) : FnOk P w K mg base CX k f fd ps (fun vs H Q E => sp1 vs H Q E ∨ sp2 vs H Q E) :=
  ⟨fun vs H Q E h => by
    rcases h with h | h
    · exact F1.len _ _ _ _ h
    · exact F2.len _ _ _ _ h,
  fun A outer s H args us vs Q E hr e b r h => by
    rcases h with h | h
    · exact F1.run A outer s H args us vs Q E hr e b r h
    · exact F2.run A outer s H args us vs Q E hr e b r h⟩
theorem app_len (x y : Str) : (x ++ y).length = x.length + y.length := by
  show (x.cps ++ y.cps).size = x.cps.size + y.cps.size
  exact Array.size_append
def spWIn : Sp := fun vs H Q _ => ∃ n : Int, vs = [.int n] ∧ n < 0 ∧ n.natAbs < 2 ^ 190 ∧ (dec (-n)).length ≤ 500 ∧ ∀ H', Same H H' → Q (.str (("-" : Str) ++ dec (-n))) H'
theorem ok_win {f : Addr} {fd : FuncData} {k : Nat} (F : Fun K "write_integer" "write_integer" s_write_integer f fd) (Z : Glb mg) (G : FnOk P w K mg base CX0 k f fd ["number"] spWI0) (gS : mg "write_integer" = some (.ref f)) (bS : Binds K fd ["number"] []) :
    FnOk P w K mg base CX0 (k + 1) f fd ["number"] spWIn := by
  refine F.ok sc_write_integer (fun vs H Q E h => ?_) (fun cdv A outer s H vs Q E hr h => ?_)
  · obtain ⟨n, rfl, _⟩ := h
    rfl
  · obtain ⟨n, rfl, h0, hb, hl, q⟩ := h
    refine ⟨_, (pss_cons (ps_if (pt_cmpR op_lt (pv 0) pe_int (nomark _)) (pss_one (ps_ret (pe_op op_add_str pe_str (pe_call G hr (by rfl) gS F.kp bS .nil pass0 (pa_cons (pe_un un_neg (pv 0)) pa_nil))))) pss_nil)
      (pss_cons (ps_set (i := 1) sc_write_integer.nd rfl (.inl rfl) (pe_op op_pow pe_int pe_int))
      (pss_cons (ps_set (i := 2) sc_write_integer.nd rfl (.inl rfl) (pe_lst pa_nil))
      (pss_cons (ps_while PassesOwn.never (pt_cmpR op_ge (pv 0) (pv 1) (nomark _)) (pss_cons ps_never
      (pss_one ps_never)))
      (pss_cons (ps_expr (pe_bm PySem.F.plainAttrs_list PySem.F.slot_list_append PySem.F.type_list_append mt_append (pv 2) (pa_cons (pe_callTy call_str_int (by rfl) Z.m_str (by decide +kernel) (pa_cons (pv 0) pa_nil)) pa_nil)))
      (pss_one (ps_ret (pe_joinRev rfl pe_str (by rfl) Z.m_reversed (pv 2))))))))), ?_⟩
    refine ⟨_, rfl, _, _, rfl, rfl, _, rfl, ite2 (fun _ => ?_) (fun e => absurd (decide_eq_true h0) e)⟩
    refine ⟨_, rfl, _, rfl, -n, rfl, by omega, by rw [Int.natAbs_neg]; exact hb, hl, fun H1 s1 => ?_⟩
    exact ⟨_, _, rfl, rfl, Nat.le_of_lt (small1000 (by show 1 + _ ≤ 1000; omega)), q H1 s1⟩
theorem ok_wi {f : Addr} {fd : FuncData} {k : Nat} (F : Fun K "write_integer" "write_integer" s_write_integer f fd) (Z : Glb mg) (G : FnOk P w K mg base CX0 k f fd ["number"] spWI0) (gS : mg "write_integer" = some (.ref f)) (bS : Binds K fd ["number"] []) :
    FnOk P w K mg base CX0 (k + 1) f fd ["number"] spWI :=
  (fn_or (ok_win F Z G gS bS) (G.mono (Nat.le_succ k))).imp fun vs H Q E h => by
    obtain ⟨n, rfl, hb, hl, q⟩ := h
    unfold wI at q
    by_cases c : n < 0
    · left
      rw [if_pos c] at q
      exact ⟨n, rfl, c, hb, by rw [show ((n.natAbs : Nat) : Int) = -n by omega] at hl; exact hl, q⟩
    · right
      rw [if_neg c] at q
      exact ⟨n, rfl, by omega, hb, by rw [show ((n.natAbs : Nat) : Int) = n by omega] at hl; exact hl, q⟩
def wF (a b : Int) : Str := if b = 1 then wI a else (wI a ++ ("/" : Str)) ++ wI b
abbrev s_write_fraction : Stmt := topS 11
theorem sc_write_fraction : FnScope ["x"] ["x"] (defScope s_write_fraction) := ⟨rfl, rfl, rfl, by decide +kernel, rfl, by decide +kernel, by decide +kernel⟩
def spWF : Sp := fun vs H Q _ => ∃ (x : Addr) (a b : Int), vs = [.ref x] ∧ Vc H x [a, b] ∧ a.natAbs < 2 ^ 190 ∧ b.natAbs < 2 ^ 190 ∧ (dec (a.natAbs : Int)).length ≤ 400 ∧ (dec (b.natAbs : Int)).length ≤ 400 ∧ (wI a).length ≤ 400 ∧ (wI b).length ≤ 400 ∧ ∀ H', Same H H' → Q (.str (wF a b)) H'
theorem ok_wf {f : Addr} {fd : FuncData} {k : Nat} (F : Fun K "write_fraction" "write_fraction" s_write_fraction f fd) (Z : Glb mg)
    (Cwrite_integer : Call P w K mg base k "write_integer" ["number"] spWI) : FnOk P w K mg base CX0 (k + 1) f fd ["x"] spWF := by
  refine F.ok sc_write_fraction (fun vs H Q E h => ?_) (fun cdv A outer s H vs Q E hr h => ?_)
  · obtain ⟨x, a, b, rfl, _⟩ := h
    rfl
  · obtain ⟨x, a, b, rfl, hx, ha, hb, la, lb, wa, wb, q⟩ := h
    refine ⟨_, (pss_cons (ps_if (pt_cmpR op_eq (pe_ix (r := rIxT K) ix_tup (pv 0) pe_int (fun _ _ => rfl)) pe_int (nomark _)) (pss_one (ps_ret (pe_call Cwrite_integer.G hr (by rfl) Cwrite_integer.m Cwrite_integer.kp Cwrite_integer.b .nil pass0 (pa_cons (pe_ix (r := rIxT K) ix_tup (pv 0) pe_int (fun _ _ => rfl)) pa_nil)))) pss_nil)
      (pss_one (ps_ret (pe_op op_add_str (pe_op op_add_str (pe_call Cwrite_integer.G hr (by rfl) Cwrite_integer.m Cwrite_integer.kp Cwrite_integer.b .nil pass0 (pa_cons (pe_ix (r := rIxT K) ix_tup (pv 0) pe_int (fun _ _ => rfl)) pa_nil)) pe_str) (pe_call Cwrite_integer.G hr (by rfl) Cwrite_integer.m Cwrite_integer.kp Cwrite_integer.b .nil pass0 (pa_cons (pe_ix (r := rIxT K) ix_tup (pv 0) pe_int (fun _ _ => rfl)) pa_nil)))))), ?_⟩
    refine ⟨_, rfl, _, _, _, _, rfl, rfl, SqT.of hx, atI_nat (j := 1) rfl, rfl, _, rfl, ite2 (fun e => ?_) (fun e => ?_)⟩
    · have e1 : b = 1 := V.int.inj (of_decide_eq_true e)
      unfold wF at q
      rw [if_pos e1] at q
      exact ⟨_, rfl, _, _, _, _, rfl, rfl, SqT.of hx, atI_nat (j := 0) rfl, a, rfl, ha, by omega, q⟩
    · have e1 : b ≠ 1 := fun h => e (decide_eq_true (by rw [h]))
      unfold wF at q
      rw [if_neg e1] at q
      refine ⟨_, rfl, _, _, _, _, rfl, rfl, SqT.of hx, atI_nat (j := 0) rfl, a, rfl, ha, by omega, fun H1 s1 => ?_⟩
      refine ⟨_, _, rfl, rfl, Nat.le_of_lt (small1000 (by show (wI a).length + 1 ≤ 1000; omega)), ?_⟩
      refine ⟨_, rfl, _, _, _, _, rfl, rfl, SqT.of (hx.same s1), atI_nat (j := 1) rfl, b, rfl, hb, by omega, fun H2 s2 => ?_⟩
      refine ⟨_, _, rfl, rfl, ?_, q H2 (s1.trans s2)⟩
      rw [app_len]
      exact Nat.le_of_lt (small1000 (by show (wI a).length + 1 + (wI b).length ≤ 1000; omega))

/-! ### texts of integers, as lists of signs -/
open TL in
theorem sw_dash (z : Str) : Txt.startswith z "-" = decide ((tl z).head? = some 45) := by
  unfold Txt.startswith
  rw [PySem.StrLaws.subAt_eq, List.drop_zero, len_tl]
  show (decide (0 + 1 ≤ (tl z).length) && ((tl z).take 1 == [45])) = _
  cases h : tl z with
  | nil => rfl
  | cons c r =>
    show (decide (0 + 1 ≤ r.length + 1) && ([c] == [45])) = decide (some c = some 45)
    rw [decide_eq_true (by omega), Bool.true_and]
    by_cases e : c = 45
    · subst e; rfl
    · rw [decide_eq_false (fun z => e (Option.some.inj z))]
      exact beq_eq_false_iff_ne.mpr (fun z => e (List.cons.inj z).1)
theorem tl_cut0 (z : Str) (n : Nat) : TL.tl (cutS z none (some (n : Int))) = (TL.tl z).take n := by
  show (List.take (HT.sIx z.length z.length (some (n : Int)) - HT.sIx z.length 0 none) ((TL.tl z).drop (HT.sIx z.length 0 none))) = _
  rw [HT.sIx_none, HT.sIx_nat, List.drop_zero, Nat.sub_zero, TL.len_tl]
  rw [← List.take_take, List.take_length]
theorem tl_cutd (z : Str) (n : Nat) : TL.tl (cutS z (some (n : Int)) none) = (TL.tl z).drop n := by
  show (List.take (HT.sIx z.length z.length none - HT.sIx z.length 0 (some (n : Int))) ((TL.tl z).drop (HT.sIx z.length 0 (some (n : Int))))) = _
  rw [HT.sIx_none, HT.sIx_nat, TL.len_tl]
  rw [List.take_of_length_le (by rw [List.length_drop]; omega)]
  by_cases h : n ≤ (TL.tl z).length
  · rw [Nat.min_eq_left h]
  · rw [Nat.min_eq_right (by omega), List.drop_length, List.drop_of_length_le (by omega)]
theorem tl_digs (z : Str) : TL.tl (digs z) = if (TL.tl z).head? = some 45 then (TL.tl z).drop 1 else TL.tl z := by
  unfold digs
  rw [sw_dash]
  by_cases h : (TL.tl z).head? = some 45
  · rw [if_pos (decide_eq_true h), if_pos h]
    exact tl_cutd z 1
  · rw [if_neg (fun e => h (of_decide_eq_true e)), if_neg h]
theorem mem_digits {c : Nat} : c ∈ ("0123456789" : Str).cps.toList ↔ 48 ≤ c ∧ c ≤ 57 := by
  show c ∈ [48, 49, 50, 51, 52, 53, 54, 55, 56, 57] ↔ _
  simp only [List.mem_cons, List.not_mem_nil, or_false]
  omega
theorem str_eq {z y : Str} : z = y ↔ TL.tl z = TL.tl y := ⟨fun h => by rw [h], TL.ext_tl⟩
theorem isNum_iff (z : Str) : isNum z = true ↔ TL.tl z ≠ [] ∧ NumText.AllDigits (TL.tl z) ∧ (TL.tl z = [48] ∨ (TL.tl z).head? ≠ some 48) := by
  unfold isNum
  rw [Bool.and_eq_true, Bool.and_eq_true, Bool.or_eq_true, List.all_eq_true]
  simp only [decide_eq_true_eq, Bool.not_eq_true', decide_eq_false_iff_not]
  constructor
  · rintro ⟨⟨h1, h2⟩, h3⟩
    refine ⟨fun e => h1 (TL.ext_tl e), fun c hc => mem_digits.mp (h2 c hc), ?_⟩
    rcases h3 with h | h
    · exact .inl (by rw [h]; rfl)
    · exact .inr h
  · rintro ⟨h1, h2, h3⟩
    refine ⟨⟨fun e => h1 (by rw [e]; rfl), fun c hc => mem_digits.mpr (h2 c hc)⟩, ?_⟩
    rcases h3 with h | h
    · exact .inl (TL.ext_tl h)
    · exact .inr h
def okI (z : Str) : Bool := decide ((digs z).length ≤ 60) && isNum (digs z) && decide (z ≠ ("-0" : Str))
def valI (z : Str) : Option Int := if okI z = true then PySem.intText? z else none
theorem okI_iff (z : Str) : okI z = true ↔ (digs z).length ≤ 60 ∧ isNum (digs z) = true ∧ z ≠ ("-0" : Str) := by
  unfold okI
  rw [Bool.and_eq_true, Bool.and_eq_true, decide_eq_true_eq, decide_eq_true_eq, and_assoc]
theorem dv_lt : ∀ (cs : List Nat) (a : Nat), NumText.AllDigits cs → cs.foldl (fun acc c => acc * 10 + (c - 48)) a < (a + 1) * 10 ^ cs.length
  | [], a, _ => by
    show a < (a + 1) * 10 ^ 0
    omega
  | c :: cs, a, h => by
    have hc := h c List.mem_cons_self
    have ih := dv_lt cs (a * 10 + (c - 48)) fun d hd => h d (List.mem_cons_of_mem _ hd)
    rw [List.foldl_cons]
    refine Nat.lt_of_lt_of_le ih ?_
    rw [List.length_cons, Nat.pow_succ, Nat.mul_comm (10 ^ cs.length) 10, ← Nat.mul_assoc]
    exact Nat.mul_le_mul_right _ (by omega)
theorem okI_int {z : Str} (h : okI z = true) : ∃ n : Int, PySem.intText? z = some n ∧ n.natAbs < 10 ^ 60 := by
  obtain ⟨h1, h2, h3⟩ := (okI_iff z).mp h
  obtain ⟨a, b, c⟩ := (isNum_iff _).mp h2
  rw [TL.len_tl] at h1
  rw [tl_digs] at a b c h1
  have big : ∀ cs : List Nat, NumText.AllDigits cs → cs.length ≤ 60 → NumText.digitsVal cs < 10 ^ 60 := fun cs hd hl => by
    have := dv_lt cs 0 hd
    have e : NumText.digitsVal cs < (0 + 1) * 10 ^ cs.length := this
    rw [Nat.zero_add, Nat.one_mul] at e
    exact Nat.lt_of_lt_of_le e (Nat.pow_le_pow_right (by decide) hl)
  by_cases hd : (TL.tl z).head? = some 45
  · rw [if_pos hd] at a b c h1
    cases e : TL.tl z with
    | nil => rw [e] at hd; cases hd
    | cons d r =>
      rw [e] at hd a b c h1
      have ed : d = 45 := Option.some.inj hd
      subst ed
      refine ⟨_, intText_neg e b a (by rw [TL.len_tl, e, List.length_cons]; have : r.length ≤ 60 := h1; omega), ?_⟩
      rw [Int.natAbs_neg]
      exact big r b h1
  · rw [if_neg hd] at a b c h1
    exact ⟨_, intText_digits b a (by rw [TL.len_tl]; omega), big _ b h1⟩
theorem valI_some {z : Str} {n : Int} (h : valI z = some n) : okI z = true ∧ PySem.intText? z = some n ∧ n.natAbs < 10 ^ 60 := by
  unfold valI at h
  by_cases c : okI z = true
  · rw [if_pos c] at h
    obtain ⟨m, h1, h2⟩ := okI_int c
    rw [h1] at h
    cases h
    exact ⟨c, h1, h2⟩
  · rw [if_neg c] at h
    cases h
theorem valI_none {z : Str} (h : valI z = none) : okI z = false := by
  by_cases c : okI z = true
  · obtain ⟨m, h1, _⟩ := okI_int c
    unfold valI at h
    rw [if_pos c, h1] at h
    cases h
  · exact Bool.eq_false_iff.mpr c
theorem valI_of {z : Str} (h : okI z = true) : ∃ n, valI z = some n ∧ PySem.intText? z = some n := by
  obtain ⟨m, h1, _⟩ := okI_int h
  exact ⟨m, by unfold valI; rw [if_pos h, h1], h1⟩
theorem valI_bad {z : Str} (h : ¬ okI z = true) : valI z = none := if_neg h
theorem numL_head : ∀ (n : Nat), 0 < n → (TL.numL n).head? ≠ some 48 := by
  intro n
  induction n using Nat.strongRecOn with
  | _ n ih =>
    intro h0
    by_cases h : n < 10
    · rw [TL.numL_lt h]
      intro e
      have : 48 + n = 48 := Option.some.inj e
      omega
    · rw [TL.numL_step (by omega), List.head?_append]
      have i := ih (n / 10) (by omega) (by omega)
      cases e : (TL.numL (n / 10)).head? with
      | none => exact absurd (List.head?_eq_none_iff.mp e) (TL.numL_ne _)
      | some d => rw [e] at i; exact i
theorem tl_wI (n : Int) : TL.tl (wI n) = if n < 0 then 45 :: TL.numL n.natAbs else TL.numL n.natAbs := by
  unfold wI
  by_cases h : n < 0
  · rw [if_pos h, if_pos h, TL.tl_append]
    unfold dec
    rw [show (-n) = ((n.natAbs : Nat) : Int) by omega]
    show [45] ++ TL.tl (Str.ofString (toString ((n.natAbs : Nat) : Int))) = _
    rw [TL.tl_num]
    rfl
  · rw [if_neg h, if_neg h]
    unfold dec
    conv => lhs; rw [show n = ((n.natAbs : Nat) : Int) by omega]
    exact TL.tl_num _
theorem numL_zero : TL.numL 0 = [48] := TL.numL_lt (by decide)
theorem valI_wI {n : Int} (h : n.natAbs < 10 ^ 60) : valI (wI n) = some n := by
  have hl := TL.numL_len (by decide) h
  have ht := tl_wI n
  have nd := TL.numL_digits n.natAbs
  have ne := TL.numL_ne n.natAbs
  have dg : TL.tl (digs (wI n)) = TL.numL n.natAbs := by
    rw [tl_digs, ht]
    by_cases c : n < 0
    · rw [if_pos c]; exact if_pos rfl
    · rw [if_neg c]
      refine if_neg fun e => ?_
      cases hh : TL.numL n.natAbs with
      | nil => exact ne hh
      | cons d r =>
        rw [hh] at e nd
        have := nd d List.mem_cons_self
        have : d = 45 := Option.some.inj e
        omega
  have ok : okI (wI n) = true := by
    refine (okI_iff _).mpr ⟨by rw [TL.len_tl, dg]; exact hl, (isNum_iff _).mpr ⟨by rw [dg]; exact ne, by rw [dg]; exact nd, ?_⟩, fun e => ?_⟩
    · rw [dg]
      by_cases c : n.natAbs = 0
      · rw [c]; exact .inl numL_zero
      · exact .inr (numL_head _ (by omega))
    · have e2 := congrArg TL.tl e
      rw [ht] at e2
      by_cases c : n < 0
      · rw [if_pos c] at e2
        have e3 : TL.numL n.natAbs = [48] := (List.cons.inj e2).2
        exact numL_head n.natAbs (by omega) (by rw [e3]; rfl)
      · rw [if_neg c] at e2
        rw [e2] at nd
        have := nd 45 List.mem_cons_self
        omega
  obtain ⟨m, h1, h2⟩ := valI_of ok
  rw [h1]
  have hlen : (wI n).length ≤ 4300 := by
    rw [TL.len_tl, ht]
    split
    · rw [List.length_cons]; omega
    · omega
  by_cases c : n < 0
  · rw [if_pos c] at ht
    rw [intText_neg ht nd ne hlen, TL.numL_val] at h2
    rw [← Option.some.inj h2]
    congr 1
    omega
  · rw [if_neg c] at ht
    have ht' : (wI n).cps.toList = TL.numL n.natAbs := ht
    rw [intText_digits (by rw [ht']; exact nd) (by rw [ht']; exact ne) hlen, ht', TL.numL_val] at h2
    rw [← Option.some.inj h2]
    congr 1
    omega
/-- the cut at the bar -/
theorem find_part (z : Str) : (Txt.find z "/" = -1 ∧ Txt.partition z "/" = (z, (("" : Str), ("" : Str)))) ∨ ∃ i : Nat, Txt.find z "/" = (i : Int) ∧ i < z.length ∧ Txt.partition z "/" = (cutS z none (some (i : Int)), ("/" : Str), cutS z (some ((i : Int) + 1)) none) := by
  unfold Txt.find Txt.partition
  cases h : Builtin.Str.occurrences z "/" 0 z.length 1 with
  | nil => exact .inl ⟨rfl, rfl⟩
  | cons i r =>
    have sp := PySem.StrLaws.occ_spec z "/" 0 z.length 1 i (by rw [h]; exact List.mem_cons_self)
    have h1 : i + 1 ≤ z.length := sp.1
    refine .inr ⟨i, rfl, h1, ?_⟩
    have e1 : Builtin.Str.strSub z 0 i = cutS z none (some (i : Int)) := TL.ext_tl (by
      rw [tl_cut0]
      show (z.cps.extract 0 i).toList = _
      rw [Array.toList_extract]
      simp)
    have e2 : Builtin.Str.strSub z (i + ("/" : Str).length) z.length = cutS z (some ((i : Int) + 1)) none := TL.ext_tl (by
      rw [show ((i : Int) + 1) = ((i + 1 : Nat) : Int) from rfl, tl_cutd]
      show (z.cps.extract (i + 1) z.cps.size).toList = _
      rw [Array.toList_extract]
      simp [List.extract]
      rw [List.take_of_length_le]
      simp)
    show (Builtin.Str.strSub z 0 i, ("/" : Str), Builtin.Str.strSub z (i + ("/" : Str).length) z.length) = _
    rw [e1, e2]
def valF (z : Str) : Option (Int × Int) := match valI (Txt.partition z "/").1 with
  | none => none
  | some a => if (Txt.partition z "/").2.1 = "" then some (a, 1) else match valI (Txt.partition z "/").2.2 with
    | none => none
    | some b => if b < 2 ∨ g2 a b ≠ 1 then none else some (a, b)
theorem free_wI (n : Int) : 47 ∉ TL.tl (wI n) := by
  rw [tl_wI]
  have := TL.numL_free (n := n.natAbs) (s := 47) (.inl (by decide))
  split
  · intro h
    rcases List.mem_cons.mp h with h | h
    · cases h
    · exact this h
  · exact this
theorem valF_wF {a b : Int} (ha : a.natAbs < 10 ^ 60) (hb : b.natAbs < 10 ^ 60) (b0 : 0 < b) (g : g2 a b = 1) : valF (wF a b) = some (a, b) := by
  have pp := TL.partition_par (wF a b) "/" (by decide)
  unfold valF
  by_cases c : b = 1
  · subst c
    have e : wF a 1 = wI a := if_pos rfl
    rw [e] at pp ⊢
    rw [show TL.tl ("/" : Str) = [47] from rfl, TL.par_none1 (free_wI a)] at pp
    rw [show Txt.partition (wI a) "/" = (wI a, Str.empty, Str.empty) from pp]
    show (match valI (wI a) with | none => none | some a => if Str.empty = ("" : Str) then some (a, (1 : Int)) else _) = _
    rw [valI_wI ha]
    exact if_pos rfl
  · have e : wF a b = (wI a ++ ("/" : Str)) ++ wI b := if_neg c
    have e2 : TL.tl (wF a b) = TL.tl (wI a) ++ ([47] ++ TL.tl (wI b)) := by
      rw [e, TL.tl_append, TL.tl_append, List.append_assoc]
      rfl
    rw [show TL.tl ("/" : Str) = [47] from rfl, e2, TL.par_part1 (free_wI a)] at pp
    have pp' : Txt.partition (wF a b) "/" = (wI a, ("/" : Str), wI b) := by
      rw [pp]
      show ((⟨(TL.tl (wI a)).toArray⟩ : Str), ("/" : Str), (⟨(TL.tl (wI b)).toArray⟩ : Str)) = _
      rw [TL.mk_tl, TL.mk_tl]
    rw [pp']
    show (match valI (wI a) with | none => none | some a => if ("/" : Str) = ("" : Str) then some (a, (1 : Int)) else match valI (wI b) with | none => none | some b => if b < 2 ∨ g2 a b ≠ 1 then none else some (a, b)) = _
    rw [valI_wI ha, valI_wI hb]
    show (if ("/" : Str) = ("" : Str) then some (a, (1 : Int)) else if b < 2 ∨ g2 a b ≠ 1 then none else some (a, b)) = _
    rw [if_neg (by decide), if_neg (fun h => h.elim (fun h => by omega) (fun h => h g))]

/-! ### the readers, for every text -/
def spRdIX (T D : Addr) : Sp := fun vs H Q E => ∃ z : Str, vs = [.str z, .int 60] ∧ z.length ≤ 640 ∧ TabG H T ∧ (∀ n, valI z = some n → ∀ H', Tabbed T H H' → Q (.int n) H') ∧ (valI z = none → ∀ H', Tabbed T H H' → E (.ref D) none H')
theorem ok_rdiX {f T D : Addr} {fd : FuncData} {k : Nat} (F : Fun K "read_integer" "read_integer" s_read_integer f fd) (Z : Glb mg) (E_BadText : Er K mg "BadText" D)
    (Cis_number : Call P w K mg base k "is_number" ["digits"] (spIsNum T)) : FnOk P w K mg base (L2.CX P w) (k + 1) f fd ["text", "most_digits"] (spRdIX T D) := by
  refine F.okX sc_read_integer (fun vs H Q E h => ?_) (fun cdv A outer s H vs Q E hr h => ?_)
  · obtain ⟨z, rfl, _⟩ := h
    rfl
  · obtain ⟨z, rfl, hl, hT, q, qe⟩ := h
    refine ⟨_, (pss_cons (ps_set (i := 2) sc_read_integer.nd rfl (.inl rfl) (pe_ifExp (pt_val (pe_m1 PySem.F.slot_str_startswith PySem.F.type_str_startswith mt_startswith (pv 0) pe_str)) (pe_slice sl_str (pv 0) (po_some pe_int) po_none) (pv 0)))
      (pss_cons (ps_if (PW.pt (pw_or (pt_cmpR op_gt (pe_callB call_len_str (by rfl) Z.m_len PySem.boot_len (pa_cons (pv 2) pa_nil)) (pv 1) (nomark _)) (pw_or (pt_not (pt_val (pe_call Cis_number.G hr (by rfl) Cis_number.m Cis_number.kp Cis_number.b .nil pass0 (pa_cons (pv 2) pa_nil)))) (pw_or1 (pt_cmpR op_eq (pv 0) pe_str (nomark _)))))) (pss_one (raiseE E_BadText rfl (takes_of rfl rfl rfl rfl) (by rfl))) pss_nil)
      (pss_one (ps_ret (pe_callTy call_int_str (by rfl) Z.m_int (by decide +kernel) (pa_cons (pv 0) pa_nil)))))), ?_⟩
    have dl := digs_len z
    have hok := okI_iff z
    refine ⟨_, rfl, ⟨z, rfl⟩, z, _, rfl, rfl, _, rfl, ite2 (fun e => ?_) (fun e => ?_)⟩
    · have ed : digs z = cutS z (some 1) none := if_pos e
      refine ⟨_, rfl, 1, rfl, ?_⟩
      unfold tNoPart
      refine ⟨z, rfl, Nat.le_of_lt (small1000 (by omega)), ?_⟩
      rw [← ed]
      refine ⟨_, rfl, (digs z), rfl, Nat.le_of_lt (small1000 (by omega)), _, rfl, _, _, rfl, rfl, _, rfl, ite2 (fun e2 => ?_) (fun e2 => ?_)⟩
      · have e3 : (60 : Int) < (((digs z).length : Nat) : Int) := of_decide_eq_true e2
        exact qe (valI_bad fun h => by have := (hok.mp h).1; omega) H ⟨hT, fun _ _ => rfl⟩
      · have e3 : ¬ (60 : Int) < (((digs z).length : Nat) : Int) := fun h => e2 (decide_eq_true h)
        refine ⟨_, rfl, (digs z), rfl, by omega, hT, fun H1 t1 => ?_⟩
        refine ⟨_, rfl, ?_⟩
        cases hN : isNum (digs z) with
        | false => exact iteT (qe (valI_bad fun h => by have := (hok.mp h).2.1; rw [hN] at this; cases this) H1 t1)
        | true =>
          refine iteF ?_
          refine ⟨_, rfl, rfl, _, rfl, ite2 (fun e4 => ?_) (fun e4 => ?_)⟩
          · exact qe (valI_bad fun h => (hok.mp h).2.2 (V.str.inj (of_decide_eq_true e4))) H1 t1
          · obtain ⟨n, hv, hi⟩ := valI_of (hok.mpr ⟨by omega, hN, fun h => e4 (decide_eq_true (by rw [h]))⟩)
            exact ⟨_, rfl, z, n, rfl, hi, hl, q n hv H1 t1⟩
    · have ed : digs z = z := if_neg e
      rw [ed] at hok dl
      refine ⟨_, rfl, ?_⟩
      refine ⟨_, rfl, z, rfl, Nat.le_of_lt (small1000 (by omega)), _, rfl, _, _, rfl, rfl, _, rfl, ite2 (fun e2 => ?_) (fun e2 => ?_)⟩
      · have e3 : (60 : Int) < ((z.length : Nat) : Int) := of_decide_eq_true e2
        exact qe (valI_bad fun h => by have := (hok.mp h).1; omega) H ⟨hT, fun _ _ => rfl⟩
      · have e3 : ¬ (60 : Int) < ((z.length : Nat) : Int) := fun h => e2 (decide_eq_true h)
        refine ⟨_, rfl, z, rfl, by omega, hT, fun H1 t1 => ?_⟩
        refine ⟨_, rfl, ?_⟩
        cases hN : isNum z with
        | false => exact iteT (qe (valI_bad fun h => by have := (hok.mp h).2.1; rw [hN] at this; cases this) H1 t1)
        | true =>
          refine iteF ?_
          refine ⟨_, rfl, rfl, _, rfl, ite2 (fun e4 => ?_) (fun e4 => ?_)⟩
          · exact qe (valI_bad fun h => (hok.mp h).2.2 (V.str.inj (of_decide_eq_true e4))) H1 t1
          · obtain ⟨n, hv, hi⟩ := valI_of (hok.mpr ⟨by omega, hN, fun h => e4 (decide_eq_true (by rw [h]))⟩)
            exact ⟨_, rfl, z, n, rfl, hi, hl, q n hv H1 t1⟩
def spRdFX (T D : Addr) : Sp := fun vs H Q E => ∃ z : Str, vs = [.str z] ∧ z.length ≤ 640 ∧ TabG H T ∧ (∀ a b, valF z = some (a, b) → ∀ (H' : Hp) (r : Addr), SmT T H H' → Vc H' r [a, b] → Q (.ref r) H') ∧ (valF z = none → ∀ H', SmT T H H' → E (.ref D) none H')
theorem part_len (z : Str) : (Txt.partition z "/").1.length ≤ z.length ∧ (Txt.partition z "/").2.2.length ≤ z.length := by
  rcases find_part z with ⟨_, h⟩ | ⟨i, _, _, h⟩
  · rw [h]
    exact ⟨Nat.le_refl _, Nat.zero_le _⟩
  · rw [h]
    exact ⟨cutS_length z _ _, cutS_length z _ _⟩
theorem ok_rdfX {f T D : Addr} {fd : FuncData} {k : Nat} (F : Fun K "read_fraction" "read_fraction" s_read_fraction f fd) (Z : Glb mg) (E_BadText : Er K mg "BadText" D)
    (Cread_integer : CallX P w K mg base k "read_integer" ["text", "most_digits"] (spRdIX T D)) : FnOk P w K mg base (L2.CX P w) (k + 1) f fd ["text"] (spRdFX T D) := by
  refine F.okX sc_read_fraction (fun vs H Q E h => ?_) (fun cdv A outer s H vs Q E hr h => ?_)
  · obtain ⟨z, rfl, _⟩ := h
    rfl
  · obtain ⟨z, rfl, hl, hT, q, qe⟩ := h
    refine ⟨_, (pss_cons (ps_asg (pe_partition (pv 0) pe_str) (pg_tup rfl (pgs_cons (pg_name (i := 1) sc_read_fraction.nd rfl (.inl rfl)) (pgs_cons (pg_name (i := 2) sc_read_fraction.nd rfl (.inl rfl)) (pgs_cons (pg_name (i := 3) sc_read_fraction.nd rfl (.inl rfl)) pgs_nil)))))
      (pss_cons (ps_set (i := 4) sc_read_fraction.nd rfl (.inl rfl) (pe_call Cread_integer.G hr (by rfl) Cread_integer.m Cread_integer.kp Cread_integer.b .nil (passes_call (takes_of rfl rfl rfl rfl) (fun _ _ _ _ h => h)) (pa_cons (pv 1) (pa_cons (pe_glob (v := .int 60) (by rfl) (Z.m_most).choose_spec ⟨_, rfl⟩) pa_nil))))
      (pss_cons (ps_if (pt_cmpR op_eq (pv 2) pe_str (nomark _)) (pss_one (ps_ret (pe_tup (pa_cons (pv 4) (pa_cons pe_int pa_nil))))) pss_nil)
      (pss_cons (ps_set (i := 5) sc_read_fraction.nd rfl (.inl rfl) (pe_call Cread_integer.G hr (by rfl) Cread_integer.m Cread_integer.kp Cread_integer.b .nil (passes_call (takes_of rfl rfl rfl rfl) (fun _ _ _ _ h => h)) (pa_cons (pv 3) (pa_cons (pe_glob (v := .int 60) (by rfl) (Z.m_most).choose_spec ⟨_, rfl⟩) pa_nil))))
      (pss_cons (ps_if (PW.pt (pw_or (pt_cmpR op_lt (pv 5) pe_int (nomark _)) (pw_or1 (pt_cmpR op_ne (pe_callBfun cr_gcd (by rfl) Z.m_gcd (pa_cons (pv 4) (pa_cons (pv 5) pa_nil))) pe_int (nomark _))))) (pss_one (raiseE E_BadText rfl (takes_of rfl rfl rfl rfl) (by rfl))) pss_nil)
      (pss_one (ps_ret (pe_tup (pa_cons (pv 4) (pa_cons (pv 5) pa_nil)))))))))), ?_⟩
    refine ⟨_, rfl, ⟨z, rfl⟩, z, _, rfl, rfl, rfl, Nat.le_of_lt (small1000 (by omega)), fun p np => ?_⟩
    unfold valF at q qe
    obtain ⟨l1, l2⟩ := part_len z
    generalize Txt.partition z "/" = pt at *
    obtain ⟨top, bar, bottom⟩ := pt
    have l1 : top.length ≤ z.length := l1
    have l2 : bottom.length ≤ z.length := l2
    have s1 := same_upd (o := .tup [.str top, .str bar, .str bottom]) np
    have m1 := smT_same hT s1
    refine ⟨p, _, rfl, SqT.of upd_same, rfl, _, _, rfl, _, _, rfl, _, _, rfl, rfl, ?_⟩
    generalize upd H p (.tup [.str top, .str bar, .str bottom]) = H1 at *
    refine ⟨_, rfl, top, rfl, by omega, m1.1, fun a ha H2 t2 => ?_, fun hn H2 t2 => ?_⟩
    · have ha : valI top = some a := ha
      have m2 := m1.trans (smT_tab t2)
      have qe : (if bar = "" then some (a, (1 : Int)) else match valI bottom with | none => none | some b => if b < 2 ∨ g2 a b ≠ 1 then none else some (a, b)) = none → ∀ H', SmT T H H' → E (.ref D) none H' := fun h => qe (by show (match valI top with | none => none | some a => if bar = "" then some (a, (1 : Int)) else match valI bottom with | none => none | some b => if b < 2 ∨ g2 a b ≠ 1 then none else some (a, b)) = none; rw [ha]; exact h)
      have q : ∀ c b, (if bar = "" then some (a, (1 : Int)) else match valI bottom with | none => none | some b => if b < 2 ∨ g2 a b ≠ 1 then none else some (a, b)) = some (c, b) → ∀ (H' : Hp) (r : Addr), SmT T H H' → Vc H' r [c, b] → Q (.ref r) H' := fun c b h => q c b (by show (match valI top with | none => none | some a => if bar = "" then some (a, (1 : Int)) else match valI bottom with | none => none | some b => if b < 2 ∨ g2 a b ≠ 1 then none else some (a, b)) = some (c, b); rw [ha]; exact h)
      refine ⟨_, rfl, rfl, _, rfl, ite2 (fun e => ?_) (fun e => ?_)⟩
      · have e1 : bar = "" := V.str.inj (of_decide_eq_true e)
        refine ⟨_, rfl, (show 2 ≤ sizeLine by decide), fun u nu => ?_⟩
        exact q a 1 (if_pos e1) _ u (m2.trans (smT_same m2.1 (same_upd nu))) upd_same
      · have e1 : bar ≠ "" := fun h => e (decide_eq_true (by rw [h]))
        rw [if_neg e1] at q qe
        refine ⟨_, rfl, bottom, rfl, by omega, m2.1, fun b hb H3 t3 => ?_, fun hn H3 t3 => ?_⟩
        · have hb : valI bottom = some b := hb
          rw [hb] at q qe
          have m3 := m2.trans (smT_tab t3)
          refine ⟨_, rfl, _, _, rfl, rfl, _, rfl, ite2 (fun e2 => qe (if_pos (.inl (of_decide_eq_true e2))) H3 m3) (fun e2 => ?_)⟩
          have b2 : ¬ b < 2 := fun h => e2 (decide_eq_true h)
          refine ⟨_, rfl, _, rfl, a, b, rfl, rfl, _, rfl, ?_⟩
          by_cases hg : g2 a b = 1
          · have hg' : ((Nat.gcd a.natAbs b.natAbs : Nat) : Int) = 1 := hg
            rw [hg']
            refine iteF ⟨_, rfl, _, rfl, (show 2 ≤ sizeLine by decide), fun u nu => ?_⟩
            exact q a b (if_neg (fun h => h.elim b2 (fun h => h hg))) _ u (m3.trans (smT_same m3.1 (same_upd nu))) upd_same
          · refine ite2 (fun _ => qe (if_pos (.inr hg)) H3 m3) (fun e3 => ?_)
            refine absurd ?_ e3
            show (!decide (V.int (g2 a b) = V.int 1)) = true
            rw [decide_eq_false (fun z => hg (V.int.inj z))]
            rfl
        · have hn : valI bottom = none := hn
          rw [hn] at qe
          exact qe rfl H3 (m2.trans (smT_tab t3))
    · have hn : valI top = none := hn
      exact qe (by show (match valI top with | none => none | some a => if bar = "" then some (a, (1 : Int)) else match valI bottom with | none => none | some b => if b < 2 ∨ g2 a b ≠ 1 then none else some (a, b)) = none; rw [hn]) H2 (m1.trans (smT_tab t2))

/-! ### the law's own readers -/
theorem cut1_dash (z : Str) : cutS z none (some 1) = ("-" : Str) ↔ (TL.tl z).head? = some 45 := by
  rw [str_eq, show (1 : Int) = ((1 : Nat) : Int) from rfl, tl_cut0]
  show (TL.tl z).take 1 = [45] ↔ _
  cases TL.tl z with
  | nil => exact ⟨fun h => (by cases h), fun h => (by cases h)⟩
  | cons c r => exact ⟨fun h => congrArg some (List.cons.inj h).1, fun h => (by rw [Option.some.inj h]; rfl)⟩
abbrev s__law_read_int : Stmt := topS 22
theorem sc__law_read_int : FnScope ["text", "digits", "sign"] ["text"] (defScope s__law_read_int) := ⟨rfl, rfl, rfl, by decide +kernel, rfl, by decide +kernel, by decide +kernel⟩
def vI : Option Int → V
  | none => .non
  | some n => .int n
/-- no digit -/
def nd (c : Nat) : Bool := !decide (c ∈ ("0123456789" : Str).cps.toList)
def spLRI : Sp := fun vs H Q _ => ∃ z : Str, vs = [.str z] ∧ z.length ≤ 600 ∧ ∀ H', Same H H' → Q (vI (valI z)) H'
theorem ok_lri {f : Addr} {fd : FuncData} {k : Nat} (F : Fun K "_law_read_int" "_law_read_int" s__law_read_int f fd) (Z : Glb mg) : FnOk P w K mg base CX0 (k + 1) f fd ["text"] spLRI := by
  refine F.ok sc__law_read_int (fun vs H Q E h => ?_) (fun cdv A outer s H vs Q E hr h => ?_)
  · obtain ⟨z, rfl, _⟩ := h
    rfl
  · obtain ⟨z, rfl, hl, q⟩ := h
    refine ⟨_, (pss_cons (ps_set (i := 1) sc__law_read_int.nd rfl (.inl rfl) (pv 0))
      (pss_cut (ps_if (pt_cmpR op_eq (pe_slice sl_str (pv 0) po_none (po_some pe_int)) pe_str (nomark _)) (pss_one (ps_set (i := 1) sc__law_read_int.nd rfl (.inl rfl) (pe_slice sl_str (pv 0) (po_some pe_int) po_none))) pss_nil)
      (pss_cons (ps_if (PW.pt (pw_or (pt_cmpR op_eq (pv 1) pe_str (nomark _)) (pw_or (pt_cmpR op_gt (pe_callB call_len_str (by rfl) Z.m_len PySem.boot_len (pa_cons (pv 1) pa_nil)) pe_int (nomark _)) (pw_or1 (pt_cmpR op_gt (pe_callB call_len_seq (by rfl) Z.m_len PySem.boot_len (pa_cons (pe_lc (own := [("sign", 2)]) (g := gName 2) (by rfl) sc__law_read_int.nd (pi_str (pv 1)) (blkOk_by (own := [("sign", 2)]) (N := ["text", "digits", "sign"]) (sc := defScope s__law_read_int) (by first | decide +kernel | kernel_rfl)) (fun _ _ _ _ _ => (pg_name (i := 2) sc__law_read_int.nd rfl (.inl rfl))) (fun _ _ _ _ _ => (pts_one (pt_cmpR op_notIn_str (pv 2) pe_str (by rfl)))) (fun _ _ _ _ _ => (pv 2))) pa_nil)) pe_int (nomark _)))))) (pss_one (ps_ret pe_non)) pss_nil)
      (pss_cons (ps_if (PW.pt (pw_and (pt_cmpR op_eq (pe_ix ix_str (pv 1) pe_int (fun _ _ => rfl)) pe_str (nomark _)) (pw_and1 (pt_cmpR op_ne (pv 0) pe_str (nomark _))))) (pss_one (ps_ret pe_non)) pss_nil)
      (pss_one (ps_ret (pe_callTy call_int_str (by rfl) Z.m_int (by decide +kernel) (pa_cons (pv 0) pa_nil)))))))), ?_⟩
    have dl := digs_len z
    have hok := okI_iff z
    refine ⟨_, rfl, ?_⟩
    refine ⟨fun σ H' => ∃ y2, σ = [some (.str z), some (.str (digs z)), y2] ∧ H' = H, ?_, ?_⟩
    · refine ⟨_, rfl, ?_⟩
      refine ⟨1, rfl, z, rfl, Nat.le_of_lt (small1000 (by omega)), rfl, _, rfl, ite2 (fun e => ?_) (fun e => ?_)⟩
      · have e1 := (cut1_dash z).mp (V.str.inj (of_decide_eq_true e))
        refine ⟨_, rfl, 1, rfl, ?_⟩
        unfold tNoPart
        refine ⟨z, rfl, Nat.le_of_lt (small1000 (by omega)), ?_⟩
        have ed : digs z = cutS z (some 1) none := if_pos (by rw [sw_dash]; exact decide_eq_true e1)
        rw [← ed]
        exact ⟨_, rfl, rfl⟩
      · have e1 : ¬ (TL.tl z).head? = some 45 := fun h => e (decide_eq_true (by rw [(cut1_dash z).mpr h]))
        have ed : digs z = z := if_neg (by rw [sw_dash]; exact fun h => e1 (of_decide_eq_true h))
        rw [ed]
        exact ⟨_, rfl, rfl⟩
    · intro σ H' hW
      obtain ⟨y2, rfl, rfl⟩ := hW
      have bad : ∀ H1, Same H' H1 → ¬ okI z = true → Q .non H1 := fun H1 s1 h => by
        have := q H1 s1
        rw [valI_bad h] at this
        exact this
      have good : okI z = true → ∃ n, PySem.intText? z = some n ∧ ∀ H1, Same H' H1 → Q (.int n) H1 := fun h => by
        obtain ⟨n, h1, h2⟩ := valI_of h
        rw [h1] at q
        exact ⟨n, h2, q⟩
      refine ⟨_, rfl, rfl, _, rfl, ite2 (fun e => ?_) (fun e => ?_)⟩
      · exact iteT (bad H' (Same.refl _) fun h => by
          have h2 := ((isNum_iff _).mp (hok.mp h).2.1).1
          rw [V.str.inj (of_decide_eq_true e)] at h2
          exact h2 rfl)
      · have d0 : digs z ≠ "" := fun h => e (decide_eq_true (by rw [h]))
        refine ⟨_, rfl, digs z, rfl, Nat.le_of_lt (small1000 (by omega)), _, _, rfl, rfl, _, rfl, ite2 (fun e2 => ?_) (fun e2 => ?_)⟩
        · have e3 : (60 : Int) < (((digs z).length : Nat) : Int) := of_decide_eq_true e2
          exact iteT (bad H' (Same.refl _) fun h => by have := (hok.mp h).1; omega)
        · have e3 : ¬ (60 : Int) < (((digs z).length : Nat) : Int) := fun h => e2 (decide_eq_true h)
          refine ⟨_, rfl, digs z, rfl, fun D nD => ?_⟩
          refine lc_it walk_str (fun i H2 => Same H' H2 ∧ H2 D = some (.lst ((((TL.tl (digs z)).take i).filter nd).map fun c => V.str ⟨#[c]⟩))) ⟨same_upd nD, upd_same⟩ (fun _ _ _ _ => trivial) (fun i x H2 H3 hi hP hY => ?_) (fun H2 hP => ?_)
          · obtain ⟨rfl, c, hc, rfl⟩ := hY
            have hc' : (TL.tl (digs z))[i]? = some c := by
              rw [Array.getElem?_toList]
              exact hc
            have fo := PySem.StrLaws.found_one ("0123456789" : Str) c
            have tk := take_get hc'
            refine ⟨rfl, ?_⟩
            refine ⟨_, rfl, _, _, rfl, rfl, _, rfl, ?_⟩
            rw [fo]
            cases hd : decide (c ∈ ("0123456789" : Str).cps.toList) with
            | true =>
              refine iteF ⟨hP.1, ?_⟩
              rw [hP.2, tk, List.filter_append, List.filter_cons_of_neg (by unfold nd; rw [hd]; decide), List.filter_nil, List.append_nil]
            | false =>
              refine iteT ⟨_, rfl, _, hP.2, ?_, ?_, ?_⟩
              · rw [List.length_map]
                exact small1000 (Nat.le_trans (List.length_filter_le _ _) (by rw [List.length_take, ← TL.len_tl]; omega))
              · intro x o hxo
                have : x ≠ D := ne_of_none hxo nD
                rw [upd_ne this]
                exact hP.1 _ _ hxo
              · rw [upd_same, tk, List.filter_append, List.filter_cons_of_pos (by unfold nd; rw [hd]; rfl), List.filter_nil, List.map_append]
                rfl
          · obtain ⟨s2, e2⟩ := hP
            rw [show (digs z).cps.size = (TL.tl (digs z)).length from (Array.length_toList).symm, List.take_length] at e2
            refine ⟨D, _, rfl, .inl (SqL.of e2), _, _, rfl, rfl, _, rfl, ite2 (fun e4 => ?_) (fun e4 => ?_)⟩
            · have e5 : (0 : Int) < (((((TL.tl (digs z)).filter nd).map fun c => V.str ⟨#[c]⟩).length : Nat) : Int) := of_decide_eq_true e4
              suffices h9 : ¬ okI z = true from bad H2 s2 h9
              intro h
              have h2 := ((isNum_iff _).mp (hok.mp h).2.1).2.1
              have h3 : (TL.tl (digs z)).filter nd = [] := List.filter_eq_nil_iff.mpr fun c hc hn => by
                unfold nd at hn
                rw [decide_eq_true (mem_digits.mpr (h2 c hc))] at hn
                cases hn
              rw [h3] at e5
              exact absurd e5 (by decide)
            · have e5 : ¬ (0 : Int) < (((((TL.tl (digs z)).filter nd).map fun c => V.str ⟨#[c]⟩).length : Nat) : Int) := fun h => e4 (decide_eq_true h)
              have h3 : (TL.tl (digs z)).filter nd = [] := by
                cases h : (TL.tl (digs z)).filter nd with
                | nil => rfl
                | cons a r => rw [h, List.map_cons, List.length_cons] at e5; omega
              have hall : NumText.AllDigits (TL.tl (digs z)) := fun c hc => mem_digits.mp (by
                have := List.filter_eq_nil_iff.mp h3 c hc
                unfold nd at this
                cases hd : decide (c ∈ ("0123456789" : Str).cps.toList) with
                | true => exact of_decide_eq_true hd
                | false => rw [hd] at this; exact absurd rfl this)
              have ne0 : TL.tl (digs z) ≠ [] := fun h => d0 (TL.ext_tl h)
              have hp : 0 < (TL.tl (digs z)).length := List.length_pos_iff.mpr ne0
              have g0 : (TL.tl (digs z))[0]? = some ((TL.tl (digs z))[0]) := List.getElem?_eq_getElem hp
              have gh : (TL.tl (digs z)).head? = some ((TL.tl (digs z))[0]) := by rw [List.head?_eq_getElem?, g0]
              have td := tl_digs z
              refine ⟨_, rfl, _, _, _, rfl, rfl, Nat.le_of_lt (small1000 (by omega)), atI_nat (j := 0) g0, rfl, _, rfl, ite2 (fun e6 => ?_) (fun e6 => ?_)⟩
              · have e7 : (TL.tl (digs z))[0] = 48 := by
                  have : [(TL.tl (digs z))[0]] = [48] := congrArg (fun s : Str => s.cps.toList) (V.str.inj (of_decide_eq_true e6))
                  exact (List.cons.inj this).1
                rw [e7] at gh
                refine ⟨_, rfl, rfl, _, rfl, ?_⟩
                by_cases hz : z = "0"
                · rw [decide_eq_true (by rw [hz])]
                  refine iteF ?_
                  obtain ⟨n, hi, qn⟩ := good (by rw [hz]; decide +kernel)
                  exact ⟨_, rfl, z, n, rfl, hi, by omega, qn H2 s2⟩
                · rw [decide_eq_false (fun h => hz (V.str.inj h))]
                  suffices h9 : ¬ okI z = true by exact iteT (bad H2 s2 h9)
                  intro h
                  obtain ⟨_, h2, h3⟩ := hok.mp h
                  rcases ((isNum_iff _).mp h2).2.2 with h4 | h4
                  · rw [h4] at td
                    by_cases hd : (TL.tl z).head? = some 45
                    · rw [if_pos hd] at td
                      apply h3
                      apply TL.ext_tl
                      cases hz2 : TL.tl z with
                      | nil => rw [hz2] at hd; cases hd
                      | cons c r =>
                        rw [hz2] at hd td
                        have e8 : [48] = r := td
                        rw [← e8, Option.some.inj hd]
                        rfl
                    · rw [if_neg hd] at td
                      exact hz (TL.ext_tl td.symm)
                  · exact h4 gh
              · have e7 : (TL.tl (digs z))[0] ≠ 48 := fun h => e6 (decide_eq_true (by rw [h]; rfl))
                have h48 : (TL.tl (digs z)).head? ≠ some 48 := by rw [gh]; exact fun h => e7 (Option.some.inj h)
                obtain ⟨n, hi, qn⟩ := good (hok.mpr ⟨by omega, (isNum_iff _).mpr ⟨ne0, hall, .inr h48⟩, fun h => h48 (by rw [h]; decide +kernel)⟩)
                exact ⟨_, rfl, z, n, rfl, hi, by omega, qn H2 s2⟩
theorem valF_a {z : Str} (h : Txt.partition z "/" = (z, (("" : Str), ("" : Str)))) : valF z = match valI z with | none => none | some a => some (a, 1) := by
  unfold valF
  rw [h]
  show (match valI z with | none => none | some a => if ("" : Str) = ("" : Str) then some (a, (1 : Int)) else _) = _
  cases valI z with
  | none => rfl
  | some a => exact if_pos rfl
theorem valF_b {z t b : Str} (h : Txt.partition z "/" = (t, ("/" : Str), b)) : valF z = match valI t with | none => none | some a => match valI b with | none => none | some c => if c < 2 ∨ g2 a c ≠ 1 then none else some (a, c) := by
  unfold valF
  rw [h]
  show (match valI t with | none => none | some a => if ("/" : Str) = ("" : Str) then some (a, (1 : Int)) else match valI b with | none => none | some b => if b < 2 ∨ g2 a b ≠ 1 then none else some (a, b)) = _
  cases valI t with
  | none => rfl
  | some a => exact if_neg (by decide)
abbrev s__law_read_frac : Stmt := topS 23
theorem sc__law_read_frac : FnScope ["text", "at", "whole", "a", "b"] ["text"] (defScope s__law_read_frac) := ⟨rfl, rfl, rfl, by decide +kernel, rfl, by decide +kernel, by decide +kernel⟩
def spLRF : Sp := fun vs H Q _ => ∃ z : Str, vs = [.str z] ∧ z.length ≤ 600 ∧ (valF z = none → ∀ H', Same H H' → Q .non H') ∧ (∀ a b, valF z = some (a, b) → ∀ (H' : Hp) (r : Addr), Same H H' → Vc H' r [a, b] → Q (.ref r) H')
theorem ok_lrf {f : Addr} {fd : FuncData} {k : Nat} (F : Fun K "_law_read_frac" "_law_read_frac" s__law_read_frac f fd) (Z : Glb mg)
    (C_law_read_int : Call P w K mg base k "_law_read_int" ["text"] spLRI) (C_law_gcd : Call P w K mg base k "_law_gcd" ["a", "b"] spGcd) : FnOk P w K mg base CX0 (k + 1) f fd ["text"] spLRF := by
  refine F.ok sc__law_read_frac (fun vs H Q E h => ?_) (fun cdv A outer s H vs Q E hr h => ?_)
  · obtain ⟨z, rfl, _⟩ := h
    rfl
  · obtain ⟨z, rfl, hl, qn, q⟩ := h
    refine ⟨_, (pss_cons (ps_set (i := 1) sc__law_read_frac.nd rfl (.inl rfl) (pe_m1 PySem.F.slot_str_find PySem.F.type_str_find mt_find (pv 0) pe_str))
      (pss_cons (ps_if (pt_cmpR op_lt (pv 1) pe_int (nomark _)) (pss_cons (ps_set (i := 2) sc__law_read_frac.nd rfl (.inl rfl) (pe_call C_law_read_int.G hr (by rfl) C_law_read_int.m C_law_read_int.kp C_law_read_int.b .nil pass0 (pa_cons (pv 0) pa_nil)))
      (pss_one (ps_ret (pe_ifExp (pt_cmp (pc_isN (pv 2))) pe_non (pe_tup (pa_cons (pv 2) (pa_cons pe_int pa_nil))))))) pss_nil)
      (pss_cons (ps_set (i := 3) sc__law_read_frac.nd rfl (.inl rfl) (pe_call C_law_read_int.G hr (by rfl) C_law_read_int.m C_law_read_int.kp C_law_read_int.b .nil pass0 (pa_cons (pe_slice sl_str (pv 0) po_none (po_some (pv 1))) pa_nil)))
      (pss_cons (ps_set (i := 4) sc__law_read_frac.nd rfl (.inl rfl) (pe_call C_law_read_int.G hr (by rfl) C_law_read_int.m C_law_read_int.kp C_law_read_int.b .nil pass0 (pa_cons (pe_slice sl_str (pv 0) (po_some (pe_op op_add (pv 1) pe_int)) po_none) pa_nil)))
      (pss_cons (ps_if (PW.pt (pw_or (pt_cmp (pc_isN (pv 3))) (pw_or (pt_cmp (pc_isN (pv 4))) (pw_or (pt_cmpR op_lt (pv 4) pe_int (nomark _)) (pw_or1 (pt_cmpR op_ne (pe_call C_law_gcd.G hr (by rfl) C_law_gcd.m C_law_gcd.kp C_law_gcd.b .nil pass0 (pa_cons (pv 3) (pa_cons (pv 4) pa_nil))) pe_int (nomark _))))))) (pss_one (ps_ret pe_non)) pss_nil)
      (pss_one (ps_ret (pe_tup (pa_cons (pv 3) (pa_cons (pv 4) pa_nil)))))))))), ?_⟩
    have cl : ∀ lo hi, (cutS z lo hi).length ≤ 600 := fun lo hi => Nat.le_trans (cutS_length z lo hi) hl
    have zl : z.length ≤ sizeLine := Nat.le_of_lt (small1000 (by omega))
    refine ⟨_, rfl, ⟨z, rfl⟩, z, _, rfl, rfl, ?_⟩
    rcases find_part z with ⟨e1, e2⟩ | ⟨i, e1, hi, e2⟩
    · rw [e1]
      rw [valF_a e2] at q qn
      refine ⟨_, rfl, _, _, rfl, rfl, _, rfl, ite2 (fun _ => ?_) (fun e => absurd (by decide) e)⟩
      refine ⟨_, rfl, z, rfl, hl, fun H1 s1 => ?_⟩
      cases hv : valI z with
      | none =>
        rw [hv] at qn
        exact ⟨_, rfl, true, rfl, iteT (qn rfl H1 s1)⟩
      | some a =>
        rw [hv] at q
        exact ⟨_, rfl, false, rfl, iteF ⟨_, rfl, (show 2 ≤ sizeLine by decide), fun u nu => q a 1 rfl _ u (s1.trans (same_upd nu)) upd_same⟩⟩
    · rw [e1]
      rw [valF_b e2] at q qn
      refine ⟨_, rfl, _, _, rfl, rfl, _, rfl, ite2 (fun e => absurd (of_decide_eq_true e) (by show ¬ (i : Int) < 0; omega)) (fun _ => ?_)⟩
      refine ⟨_, rfl, _, rfl, i, rfl, z, rfl, zl, _, rfl, cl _ _, fun H1 s1 => ?_⟩
      refine ⟨_, rfl, _, rfl, _, _, rfl, rfl, _, rfl, ?_⟩
      unfold tNoPart
      refine ⟨z, rfl, zl, _, rfl, cl _ _, fun H2 s2 => ?_⟩
      have s12 := s1.trans s2
      cases ha : valI (cutS z none (some (i : Int))) with
      | none =>
        rw [ha] at qn
        refine ⟨_, rfl, true, rfl, iteT (qn rfl H2 s12)⟩
      | some a =>
        rw [ha] at q qn
        refine ⟨_, rfl, false, rfl, iteF ?_⟩
        cases hb : valI (cutS z (some ((i : Int) + 1)) none) with
        | none =>
          rw [hb] at qn
          refine ⟨_, rfl, true, rfl, iteT (qn rfl H2 s12)⟩
        | some b =>
          rw [hb] at q qn
          refine ⟨_, rfl, false, rfl, iteF ?_⟩
          refine ⟨_, rfl, _, _, rfl, rfl, _, rfl, ite2 (fun e3 => qn (if_pos (.inl (of_decide_eq_true e3))) H2 s12) (fun e3 => ?_)⟩
          have b2 : ¬ b < 2 := fun h => e3 (decide_eq_true h)
          have na := (valI_some ha).2.2
          have nb := (valI_some hb).2.2
          have k60 : (10 : Nat) ^ 60 < 2 ^ 299 := by decide +kernel
          refine ⟨_, rfl, _, rfl, a, b, rfl, by omega, by omega, rfl, _, rfl, ?_⟩
          by_cases hg : g2 a b = 1
          · rw [hg]
            refine iteF ⟨_, rfl, _, rfl, (show 2 ≤ sizeLine by decide), fun u nu => ?_⟩
            exact q a b (if_neg (fun h => h.elim b2 (fun h => h hg))) _ u (s12.trans (same_upd nu)) upd_same
          · refine ite2 (fun _ => qn (if_pos (.inr hg)) H2 s12) (fun e4 => ?_)
            refine absurd ?_ e4
            show (!decide (V.int (g2 a b) = V.int 1)) = true
            rw [decide_eq_false (fun z => hg (V.int.inj z))]
            rfl

/-! ### a text many times; the shown text -/
theorem rep_size (c : Array Nat) : ∀ (m : Nat) (a : Array Nat), ((List.replicate m c).foldl (· ++ ·) a).size = a.size + m * c.size
  | 0, a => by
    show a.size = a.size + 0 * c.size
    omega
  | m + 1, a => by
    rw [List.replicate_succ, List.foldl_cons, rep_size c m, Array.size_append, Nat.succ_mul]
    omega
def rMul1 : V → V → Hp → VK → Prop := fun x y H Q => ∃ (z : Str) (n : Nat), x = .str z ∧ y = .int (n : Int) ∧ z.length = 1 ∧ 2 ≤ n ∧ n ≤ 1000 ∧ ∀ t : Str, t.length = n → Q (.str t) H
theorem op_mul1 {X : Cx} : OpR X (binaryOp .Mult) rMul1 := by
  intro pins s σ H x y v u Q I rx ry h
  obtain ⟨z, n, rfl, rfl, hz, h2, h3, q⟩ := h
  obtain ⟨t, rfl⟩ := rx
  obtain ⟨t', rfl⟩ := ry
  have hs : z.cps.size = 1 := hz
  refine PySem.P.mul_str (by rw [decide_eq_false (by omega), decide_eq_false (by omega)]; rfl) (fun _ _ => ?_) (fun _ _ => ?_) ?_
  · rw [hz]
    have : (1 : Int) ≤ (2 ^ 63 - 1) / (n : Int) := Int.le_ediv_of_mul_le (by omega) (by omega)
    show ¬ ((1 : Nat) : Int) > _
    omega
  · rw [hz, Nat.one_mul, Int.toNat_natCast]
    exact decide_eq_false (by have : (1000 : Nat) ≤ sizeLine := by decide
                              omega)
  · rw [if_neg (by omega), if_neg (by rw [hz]; simp; omega)]
    refine ⟨?_, ⟨.str _, H, I.tok _, ⟨_, rfl⟩, q _ ?_⟩⟩
    · show ((List.replicate (n : Int).toNat z.cps).foldl (· ++ ·) #[]).size ≤ _
      rw [rep_size, hs, Int.toNat_natCast]
      show 0 + n * 1 ≤ _
      exact Nat.le_trans (show 0 + n * 1 ≤ 1000 by omega) (by decide)
    · show ((List.replicate (n : Int).toNat z.cps).foldl (· ++ ·) #[]).size = n
      rw [rep_size, hs, Int.toNat_natCast]
      show 0 + n * 1 = n
      omega
theorem dec_wI (n : Int) : dec n = wI n := by
  by_cases h : n < 0
  · have e : wI n = ("-" : Str) ++ dec (-n) := if_pos h
    rw [e]
    unfold dec
    rw [PyProof.Rows.toString_neg h, show (0 : Int) - n = -n by omega]
    apply TL.ext_tl
    rw [TL.tl_append]
    show (Str.ofString ("-" ++ toString (-n))).cps.toList = [45] ++ (Str.ofString (toString (-n))).cps.toList
    rw [PyProof.Rows.signs_ofString, PyProof.Rows.signs_ofString, String.toList_append, List.map_append]
    rfl
  · exact (if_neg h).symm
abbrev s__law_shown : Stmt := topS 20
theorem sc__law_shown : FnScope ["x"] ["x"] (defScope s__law_shown) := ⟨rfl, rfl, rfl, by decide +kernel, rfl, by decide +kernel, by decide +kernel⟩
def spShown : Sp := fun vs H Q _ => ∃ (x : Addr) (a b : Int), vs = [.ref x] ∧ Vc H x [a, b] ∧ a.natAbs < 2 ^ 190 ∧ b.natAbs < 2 ^ 190 ∧ (wI a).length ≤ 400 ∧ (wI b).length ≤ 400 ∧ ∀ H', Same H H' → Q (.str (wF a b)) H'
theorem ok_shown {f : Addr} {fd : FuncData} {k : Nat} (F : Fun K "_law_shown" "_law_shown" s__law_shown f fd) (Z : Glb mg) : FnOk P w K mg base CX0 (k + 1) f fd ["x"] spShown := by
  refine F.ok sc__law_shown (fun vs H Q E h => ?_) (fun cdv A outer s H vs Q E hr h => ?_)
  · obtain ⟨x, a, b, rfl, _⟩ := h
    rfl
  · obtain ⟨x, a, b, rfl, hx, ha, hb, wa, wb, q⟩ := h
    refine ⟨_, (pss_one (ps_ret (pe_ifExp (pt_cmpR op_eq (pe_ix (r := rIxT K) ix_tup (pv 0) pe_int (fun _ _ => rfl)) pe_int (nomark _)) (pe_callTy call_str_int (by rfl) Z.m_str (by decide +kernel) (pa_cons (pe_ix (r := rIxT K) ix_tup (pv 0) pe_int (fun _ _ => rfl)) pa_nil)) (pe_op op_add_str (pe_op op_add_str (pe_callTy call_str_int (by rfl) Z.m_str (by decide +kernel) (pa_cons (pe_ix (r := rIxT K) ix_tup (pv 0) pe_int (fun _ _ => rfl)) pa_nil)) pe_str) (pe_callTy call_str_int (by rfl) Z.m_str (by decide +kernel) (pa_cons (pe_ix (r := rIxT K) ix_tup (pv 0) pe_int (fun _ _ => rfl)) pa_nil)))))), ?_⟩
    have lg : ∀ n : Int, n.natAbs < 2 ^ 190 → n.natAbs.log2 < 1920 := fun n h => Nat.lt_trans (PySem.Flt.log2_lt_of (by decide) h) (by decide)
    have q := q H (Same.refl _)
    refine ⟨_, rfl, _, _, _, _, rfl, rfl, SqT.of hx, atI_nat (j := 1) rfl, rfl, _, rfl, ite2 (fun e => ?_) (fun e => ?_)⟩
    · have e1 : b = 1 := V.int.inj (of_decide_eq_true e)
      unfold wF at q
      rw [if_pos e1, ← dec_wI] at q
      exact ⟨_, rfl, _, _, _, _, rfl, rfl, SqT.of hx, atI_nat (j := 0) rfl, a, rfl, lg a ha, q⟩
    · have e1 : b ≠ 1 := fun h => e (decide_eq_true (by rw [h]))
      unfold wF at q
      rw [if_neg e1, ← dec_wI, ← dec_wI] at q
      rw [← dec_wI] at wa wb
      refine ⟨_, rfl, _, _, _, _, rfl, rfl, SqT.of hx, atI_nat (j := 0) rfl, a, rfl, lg a ha, ?_⟩
      refine ⟨_, _, rfl, rfl, Nat.le_of_lt (small1000 (by show (dec a).length + 1 ≤ 1000; omega)), ?_⟩
      refine ⟨_, rfl, _, _, _, _, rfl, rfl, SqT.of hx, atI_nat (j := 1) rfl, b, rfl, lg b hb, ?_⟩
      refine ⟨_, _, rfl, rfl, ?_, q⟩
      show (dec a ++ ("/" : Str)).length + (dec b).length ≤ _
      rw [app_len]
      exact Nat.le_of_lt (small1000 (by show (dec a).length + 1 + (dec b).length ≤ 1000; omega))

/-! ### the law -/
theorem tabG_keep {H H' : Hp} {T p : Addr} (h : TabG H T) (ne : T ≠ p) (k : Keep p H H') : TabG H' T := by
  obtain ⟨ps, e, t⟩ := h
  exact ⟨ps, k _ _ ne e, t⟩
theorem Pl.smT {T p : Addr} {H H' : Hp} (h : Pl H p) (hT : TabG H T) (s : SmT T H H') : Pl H' p := by
  obtain ⟨q, ns, a, b, c, d, e, e2, n⟩ := h
  exact ⟨q, ns, a, b, c, d, s.2 _ _ (tabG_neL hT e) e, s.2 _ _ (tabG_neL hT e2) e2, n⟩
theorem wI_len {n : Int} (h : n.natAbs < 10 ^ 60) : (wI n).length ≤ 61 ∧ (dec (n.natAbs : Int)).length ≤ 60 := by
  have hl := TL.numL_len (by decide) h
  constructor
  · rw [TL.len_tl, tl_wI]
    split
    · rw [List.length_cons]; omega
    · omega
  · rw [TL.len_tl]
    unfold dec
    rw [TL.tl_num]
    exact hl
theorem wF_len {a b : Int} (ha : a.natAbs < 10 ^ 60) (hb : b.natAbs < 10 ^ 60) : (wF a b).length ≤ 124 := by
  have h1 := (wI_len ha).1
  have h2 := (wI_len hb).1
  unfold wF
  split
  · omega
  · rw [app_len, app_len]
    show (wI a).length + 1 + (wI b).length ≤ 124
    omega
theorem c0_len (z : Str) (n : Nat) : (cutS z none (some (n : Int))).length = min n z.length := by
  rw [TL.len_tl, tl_cut0, List.length_take, TL.len_tl]
theorem cd_len (z : Str) (n : Nat) : (cutS z (some (n : Int)) none).length = z.length - n := by
  rw [TL.len_tl, tl_cutd, List.length_drop, TL.len_tl]
theorem eleven {j : Nat} {t1 t2 t3 : Str} (h : j < 11) (h1 : t1.length ≤ 61) (h2 : t2.length ≤ 62) (h3 : t3.length ≤ 63) :
    ∃ z : Str, ([V.str t1, .str t2, .str t3, .str "2/4", .str "1/1", .str "-0", .str "01", .str "0/5", .str "1/0", .str "1/-2", .str "-1/3"] : List V)[j]? = some (.str z) ∧ z.length ≤ 130 := by
  match j, h with
  | 0, _ => exact ⟨_, rfl, by omega⟩
  | 1, _ => exact ⟨_, rfl, by omega⟩
  | 2, _ => exact ⟨_, rfl, by omega⟩
  | 3, _ => exact ⟨_, rfl, by decide⟩
  | 4, _ => exact ⟨_, rfl, by decide⟩
  | 5, _ => exact ⟨_, rfl, by decide⟩
  | 6, _ => exact ⟨_, rfl, by decide⟩
  | 7, _ => exact ⟨_, rfl, by decide⟩
  | 8, _ => exact ⟨_, rfl, by decide⟩
  | 9, _ => exact ⟨_, rfl, by decide⟩
  | 10, _ => exact ⟨_, rfl, by decide⟩
  | j + 11, h => exact absurd h (by omega)
theorem three {j : Nat} {t1 t2 t3 : Str} {B : Nat} (h : j < 3) (h1 : t1.length ≤ B) (h2 : t2.length ≤ B) (h3 : t3.length ≤ B) : ∃ z : Str, ([V.str t1, .str t2, .str t3] : List V)[j]? = some (.str z) ∧ z.length ≤ B := by
  match j, h with
  | 0, _ => exact ⟨_, rfl, h1⟩
  | 1, _ => exact ⟨_, rfl, h2⟩
  | 2, _ => exact ⟨_, rfl, h3⟩
  | j + 3, h => exact absurd h (by omega)
theorem tabG_free {H : Hp} {T D : Addr} (hT : TabG H T) (n : H D = none) : T ≠ D := by
  obtain ⟨ps, e, _⟩ := hT
  exact ne_of_none e n
theorem alike_of {H : Hp} {n : Nat} {i j : Int} (e : i = j) : Alike H n (.int i) (.int j) := by
  subst e
  exact .int n i
/-- two pairs of the same ints -/
theorem pair_alike {H : Hp} {x y : Addr} {a b c d : Int} (n : Nat) (hx : H x = some (.tup [.int a, .int b])) (hy : H y = some (.tup [.int c, .int d])) (e1 : a = c) (e2 : b = d) : Alike H (n + 1) (.ref x) (.ref y) := by
  subst e1 e2
  refine .tup hx hy rfl (by show 2 ≤ 1000000; decide) fun i u v h1 h2 => ?_
  have e := Option.some.inj (h1.symm.trans h2)
  subst e
  match i with
  | 0 => cases h1; exact .int n _
  | 1 => cases h1; exact .int n _
  | i + 2 => cases h1
abbrev s_law : Stmt := topS 24
theorem sc_law : FnScope ["script", "pool", "x", "text", "turn", "at", "sign", "many", "due", "told", "e"] ["script"] (defScope s_law) := ⟨rfl, rfl, rfl, by decide +kernel, rfl, by decide +kernel, by decide +kernel⟩
def spLaw (T : Addr) (K : PySem.W.Frag) : Sp := fun vs H Q _ => ∃ (a : Addr) (ns : List Int), vs = [.ref a] ∧ SqL K H a (ns.map V.int) ∧ TabG H T ∧ ∀ H', Q (.bl true) H'
theorem ok_law {f T D_BadText D_BadNumber : Addr} {fd : FuncData} {k : Nat} (F : Fun K "law" "law" s_law f fd) (Z : Glb mg)
    (E_BadText : Er K mg "BadText" D_BadText) (X_BadText : ExcC K D_BadText) (E_BadNumber : mg "BadNumber" = some (.ref D_BadNumber)) (I1 : PySem.W.kitOne K (.ref D_BadText) (.ref D_BadNumber) = some false)
    (C_law_pool : Call P w K mg base k "_law_pool" ["script"] (spPool K))
    (C_law_draw : Call P w K mg base k "_law_draw" ["pool", "many"] spDraw)
    (C_law_same : Call P w K mg base k "_law_same" ["actual", "due"] (spSame 1))
    (C_law_some_frac : Call P w K mg base k "_law_some_frac" ["pool"] spSome)
    (C_law_shown : Call P w K mg base k "_law_shown" ["x"] spShown)
    (C_law_read_frac : Call P w K mg base k "_law_read_frac" ["text"] spLRF)
    (Cwrite_fraction : Call P w K mg base k "write_fraction" ["x"] spWF)
    (Cread_fraction : CallX P w K mg base k "read_fraction" ["text"] (spRdFX T D_BadText)) : FnOk P w K mg base CX0 (k + 1) f fd ["script"] (spLaw T K) := by
  refine F.ok sc_law (fun vs H Q E h => ?_) (fun cdv A outer s H vs Q E hr h => ?_)
  · obtain ⟨a, ns, rfl, _⟩ := h
    rfl
  · obtain ⟨sa, ns, rfl, hS, hT0, q⟩ := h
    refine ⟨_, (pss_cons (ps_set (i := 1) sc_law.nd rfl (.inl rfl) (pe_call C_law_pool.G hr (by rfl) C_law_pool.m C_law_pool.kp C_law_pool.b .nil pass0 (pa_cons (pv 0) pa_nil)))
      (pss_cons (ps_set (i := 2) sc_law.nd rfl (.inl rfl) (pe_call C_law_some_frac.G hr (by rfl) C_law_some_frac.m C_law_some_frac.kp C_law_some_frac.b .nil pass0 (pa_cons (pv 1) pa_nil)))
      (pss_cons (ps_set (i := 3) sc_law.nd rfl (.inl rfl) (pe_call C_law_shown.G hr (by rfl) C_law_shown.m C_law_shown.kp C_law_shown.b .nil pass0 (pa_cons (pv 2) pa_nil)))
      (pss_cons (ps_if (PW.pt (pw_or (pt_not (pt_val (pe_call C_law_same.G hr (by rfl) C_law_same.m C_law_same.kp C_law_same.b .nil pass0 (pa_cons (pe_call Cwrite_fraction.G hr (by rfl) Cwrite_fraction.m Cwrite_fraction.kp Cwrite_fraction.b .nil pass0 (pa_cons (pv 2) pa_nil)) (pa_cons (pv 3) pa_nil))))) (pw_or1 (pt_not (pt_val (pe_call C_law_same.G hr (by rfl) C_law_same.m C_law_same.kp C_law_same.b .nil pass0 (pa_cons (pe_call Cread_fraction.G hr (by rfl) Cread_fraction.m Cread_fraction.kp Cread_fraction.b .nil passL (pa_cons (pv 3) pa_nil)) (pa_cons (pv 2) pa_nil)))))))) (pss_one ps_never) pss_nil)
      (pss_cut (ps_for PassesOwn.never rfl (pi_range1 rfl Z.m_range (pa_cons (pe_call C_law_draw.G hr (by rfl) C_law_draw.m C_law_draw.kp C_law_draw.b .nil pass0 (pa_cons (pv 1) (pa_cons pe_int pa_nil))) pa_nil)) (pg_name (i := 4) sc_law.nd rfl (.inl rfl)) (pss_cons (ps_set (i := 5) sc_law.nd rfl (.inl rfl) (pe_call C_law_draw.G hr (by rfl) C_law_draw.m C_law_draw.kp C_law_draw.b .nil pass0 (pa_cons (pv 1) (pa_cons (pe_op op_add (pe_callB call_len_str (by rfl) Z.m_len PySem.boot_len (pa_cons (pv 3) pa_nil)) pe_int) pa_nil))))
      (pss_cons (ps_set (i := 6) sc_law.nd rfl (.inl rfl) (pe_ix ix_str pe_str (pe_call C_law_draw.G hr (by rfl) C_law_draw.m C_law_draw.kp C_law_draw.b .nil pass0 (pa_cons (pv 1) (pa_cons pe_int pa_nil))) (fun _ _ => rfl)))
      (pss_one (ps_set (i := 3) sc_law.nd rfl (.inl rfl) (pe_ix (r := rIxL K) ix_list (pe_lst (pa_cons (pe_op op_add_str (pe_op op_add_str (pe_slice sl_str (pv 3) po_none (po_some (pv 5))) (pv 6)) (pe_slice sl_str (pv 3) (po_some (pv 5)) po_none)) (pa_cons (pe_op op_add_str (pe_slice sl_str (pv 3) po_none (po_some (pv 5))) (pe_slice sl_str (pv 3) (po_some (pe_op op_add (pv 5) pe_int)) po_none)) (pa_cons (pe_op op_add_str (pe_op op_add_str (pe_slice sl_str (pv 3) po_none (po_some (pv 5))) (pv 6)) (pe_slice sl_str (pv 3) (po_some (pe_op op_add (pv 5) pe_int)) po_none)) pa_nil)))) (pe_call C_law_draw.G hr (by rfl) C_law_draw.m C_law_draw.kp C_law_draw.b .nil pass0 (pa_cons (pv 1) (pa_cons pe_int pa_nil))) (fun _ _ => rfl)))))))
      (pss_cut (ps_if (pt_cmpR op_eq (pe_call C_law_draw.G hr (by rfl) C_law_draw.m C_law_draw.kp C_law_draw.b .nil pass0 (pa_cons (pv 1) (pa_cons pe_int pa_nil))) pe_int (nomark _)) (pss_cons (ps_set (i := 7) sc_law.nd rfl (.inl rfl) (pe_op op_add pe_int (pe_call C_law_draw.G hr (by rfl) C_law_draw.m C_law_draw.kp C_law_draw.b .nil pass0 (pa_cons (pv 1) (pa_cons pe_int pa_nil)))))
      (pss_one (ps_set (i := 3) sc_law.nd rfl (.inl rfl) (pe_ix (r := rIxL K) ix_list (pe_lst (pa_cons (pe_op op_mul1 pe_str (pv 7)) (pa_cons (pe_op op_add_str pe_str (pe_op op_mul1 pe_str (pv 7))) (pa_cons (pe_op op_add_str pe_str (pe_op op_mul1 pe_str (pv 7))) (pa_cons pe_str (pa_cons pe_str (pa_cons pe_str (pa_cons pe_str (pa_cons pe_str (pa_cons pe_str (pa_cons pe_str (pa_cons pe_str pa_nil)))))))))))) (pe_call C_law_draw.G hr (by rfl) C_law_draw.m C_law_draw.kp C_law_draw.b .nil pass0 (pa_cons (pv 1) (pa_cons pe_int pa_nil))) (fun _ _ => rfl))))) pss_nil)
      (pss_cons (ps_set (i := 8) sc_law.nd rfl (.inl rfl) (pe_call C_law_read_frac.G hr (by rfl) C_law_read_frac.m C_law_read_frac.kp C_law_read_frac.b .nil pass0 (pa_cons (pv 3) pa_nil)))
      (pss_cut (ps_try_as (i := 10) rfl rfl sc_law.nd rfl rfl ⟨rfl, by decide, .inl E_BadText.g⟩ takes0 (fun W pn xe tk _ => (pss_one (ps_set (i := 9) sc_law.nd rfl (.inl rfl) (pe_callS Cread_fraction.G hr (by rfl) Cread_fraction.m Cread_fraction.kp Cread_fraction.b (fun σ => passAt tk σ) (pa_cons (pv 3) pa_nil)))))
      (fun a oe cls d pn hz hf => (pss_one (ps_ret (pe_and (pe_cmp (pc_isN (pv 8))) (pe_one (pe_not (pe_callB (r := rE K D_BadText a cls d) (call_isE2 X_BadText hz hf) (by rfl) Z.m_isinstance (by decide +kernel) (pa_cons (pv 10) (pa_cons (pe_glob (v := .ref D_BadNumber) rfl E_BadNumber rfl) pa_nil))))))))))
      (pss_one (ps_ret (pe_and (pe_cmp (pc_notN (pv 8))) (pe_one (pe_call C_law_same.G hr (by rfl) C_law_same.m C_law_same.kp C_law_same.b .nil pass0 (pa_cons (pv 9) (pa_cons (pv 8) pa_nil))))))))))))))), ?_⟩
    unfold tNoPart
    refine ⟨_, rfl, sa, ns, rfl, hS, fun H1 p s1 np hP => ?_⟩
    have Tp : T ≠ p := tabG_free hT0 np
    have hT1 := (smT_same hT0 s1).1
    refine ⟨_, rfl, p, rfl, hP, fun x H2 a b P2 K2 X2 na nb lo => ?_⟩
    have hT2 := tabG_keep hT1 Tp K2.k
    have a60 : a.natAbs < 10 ^ 60 := Nat.lt_trans na (by decide +kernel)
    have b60 : b.natAbs < 10 ^ 60 := Nat.lt_trans nb (by decide +kernel)
    have a190 : a.natAbs < 2 ^ 190 := Nat.lt_trans na (by decide +kernel)
    have b190 : b.natAbs < 2 ^ 190 := Nat.lt_trans nb (by decide +kernel)
    obtain ⟨la, la2⟩ := wI_len a60
    obtain ⟨lb, lb2⟩ := wI_len b60
    have lF := wF_len a60 b60
    have vx2 : Vc H2 x [a, b] := X2.1
    refine ⟨_, rfl, x, a, b, rfl, vx2, a190, b190, by omega, by omega, fun H3 s3 => ?_⟩
    have m3 := smT_same hT2 s3
    refine ⟨_, rfl, x, a, b, rfl, vx2.same s3, a190, b190, by omega, by omega, by omega, by omega, fun H4 s4 => ?_⟩
    refine ⟨_, rfl, _, _, rfl, .str _ _, true, rfl, iteF ?_⟩
    have m4 := m3.trans (smT_same m3.1 s4)
    have vF := valF_wF a60 b60 lo.1 (by
      have h := lo.2
      show ((Nat.gcd a.natAbs b.natAbs : Nat) : Int) = 1
      exact congrArg Int.ofNat h)
    refine ⟨_, rfl, wF a b, rfl, by omega, m4.1, fun c d hv H5 r m5 hr => ?_, fun hn => by rw [vF] at hn; cases hn⟩
    rw [vF] at hv
    cases hv
    have m45 := m4.trans m5
    have vx5 := vx2.smT hT2 m45
    refine ⟨_, rfl, _, _, rfl, pair_alike 0 hr vx5 rfl rfl, true, rfl, iteF ?_⟩
    have P5 := P2.smT hT2 m45
    have hT5 := m45.1
    -- the loop
    refine ⟨fun σ H' => ∃ (z : Str) (y4 y5 y6 : Option V), σ = [some (.ref sa), some (.ref p), some (.ref x), some (.str z), y4, y5, y6, none, none, none, none] ∧ z.length ≤ 130 ∧ Pl H' p ∧ TabG H' T, ?_, ?_⟩
    · refine ⟨_, rfl, p, _, rfl, by decide, by decide, P5, fun v H6 l6 u6 P6 B6 => ?_⟩
      obtain ⟨m, rfl⟩ := Int.eq_ofNat_of_zero_le l6
      have hT6 := tabG_keep hT5 Tp B6.keep
      refine ⟨m, rfl, by omega, by omega, ?_⟩
      refine for_range (lo := 0) (n := m) (fun i σ H' => ∃ (z : Str) (y4 y5 y6 : Option V), σ = [some (.ref sa), some (.ref p), some (.ref x), some (.str z), y4, y5, y6, none, none, none, none] ∧ z.length ≤ 124 + i ∧ Pl H' p ∧ TabG H' T) ⟨_, _, _, _, rfl, lF, P6, hT6⟩ (fun i σ H' hi hW => ?_) (fun σ H' hW => ?_)
      · obtain ⟨z, y4, y5, y6, rfl, hz, P7, hT7⟩ := hW
        have zl : z.length ≤ sizeLine := Nat.le_of_lt (small1000 (by omega))
        -- at
        refine ⟨_, rfl, _, rfl, z, rfl, zl, _, _, rfl, rfl, p, _, rfl, by show (0 : Int) < (z.length : Int) + 1; omega, Nat.lt_of_le_of_lt (show ((z.length : Int) + 1).natAbs ≤ 200 by omega) (by decide +kernel), P7, fun v8 H8 l8 u8 P8 B8 => ?_⟩
        have hT8 := tabG_keep hT7 Tp B8.keep
        obtain ⟨at', rfl⟩ := Int.eq_ofNat_of_zero_le l8
        have u8' : at' ≤ z.length := by have : (at' : Int) < (z.length : Int) + 1 := u8; omega
        -- sign
        refine ⟨_, rfl, p, _, rfl, by decide, by decide, P8, fun v9 H9 l9 u9 P9 B9 => ?_⟩
        have hT9 := tabG_keep hT8 Tp B9.keep
        obtain ⟨j, rfl⟩ := Int.eq_ofNat_of_zero_le l9
        have hj : j < ("0123456789-/ +.a" : Str).cps.toList.length := by
          show j < 16
          have : (j : Int) < 16 := u9
          omega
        refine ⟨_, _, _, rfl, rfl, by decide, atI_nat (j := j) (List.getElem?_eq_getElem hj), ?_⟩
        generalize ("0123456789-/ +.a" : Str).cps.toList[j] = c
        have sl : (⟨#[c]⟩ : Str).length = 1 := rfl
        have e0 := c0_len z at'
        have e1 := cd_len z at'
        have e2 := cd_len z (at' + 1)
        have ea : ((at' : Int) + 1) = ((at' + 1 : Nat) : Int) := rfl
        have big : ∀ n : Nat, n ≤ 1000 → n ≤ sizeLine := fun n h => Nat.le_of_lt (small1000 h)
        -- the three texts
        refine ⟨_, rfl, _, rfl, _, rfl, z, rfl, zl, _, rfl, _, _, rfl, rfl, big _ (by omega), ?_⟩
        refine ⟨_, rfl, _, rfl, _, rfl, z, rfl, zl, _, _, rfl, rfl, big _ (by rw [app_len]; omega), ?_⟩
        refine ⟨_, rfl, _, rfl, _, rfl, z, rfl, zl, _, rfl, _, rfl, _, _, rfl, rfl, _, rfl, z, rfl, zl, _, _, rfl, rfl, big _ (by rw [ea]; omega), ?_⟩
        refine ⟨_, rfl, _, rfl, _, rfl, z, rfl, zl, _, rfl, _, _, rfl, rfl, big _ (by omega), ?_⟩
        refine ⟨_, rfl, _, rfl, _, _, rfl, rfl, _, rfl, z, rfl, zl, _, _, rfl, rfl, big _ (by rw [app_len, ea]; omega), ?_⟩
        refine ⟨(show 3 ≤ sizeLine by decide), fun l nl => ?_⟩
        have s10 := same_upd (o := .lst [.str (cutS z none (some (at' : Int)) ++ ⟨#[c]⟩ ++ cutS z (some (at' : Int)) none), .str (cutS z none (some (at' : Int)) ++ cutS z (some ((at' : Int) + 1)) none), .str (cutS z none (some (at' : Int)) ++ ⟨#[c]⟩ ++ cutS z (some ((at' : Int) + 1)) none)]) nl
        refine ⟨_, rfl, p, _, rfl, by decide, by decide, P9.same s10, fun v11 H11 l11 u11 P11 B11 => ?_⟩
        have hT11 := tabG_keep (smT_same hT9 s10).1 Tp B11.keep
        obtain ⟨j3, rfl⟩ := Int.eq_ofNat_of_zero_le l11
        have lp : l ≠ p := by
          obtain ⟨q0, h0⟩ := P9.q
          exact (h0.ne_free nl).1.symm
        have hl := (B11.1 l lp).trans upd_same
        obtain ⟨z3, g3, n3⟩ := three (B := 124 + (i + 1)) (t1 := cutS z none (some (at' : Int)) ++ ⟨#[c]⟩ ++ cutS z (some (at' : Int)) none) (t2 := cutS z none (some (at' : Int)) ++ cutS z (some ((at' : Int) + 1)) none) (t3 := cutS z none (some (at' : Int)) ++ ⟨#[c]⟩ ++ cutS z (some ((at' : Int) + 1)) none) (j := j3) (by have : (j3 : Int) < 3 := u11; omega) (by rw [app_len, app_len]; omega) (by rw [app_len, ea]; omega) (by rw [app_len, app_len, ea]; omega)
        exact ⟨_, _, _, _, rfl, rfl, SqL.of hl, atI_nat (j := j3) g3, z3, _, _, _, rfl, n3, P11, hT11⟩
      · obtain ⟨z, y4, y5, y6, rfl, hz, P7, hT7⟩ := hW
        exact ⟨z, _, _, _, rfl, by have : (m : Int) < 3 := u6; omega, P7, hT7⟩
    · intro σ H6 hW
      obtain ⟨z, y4, y5, y6, rfl, hz, P6, hT6⟩ := hW
      -- one of the written texts
      refine ⟨fun σ H' => ∃ (z : Str) (y4 y5 y6 y7 : Option V), σ = [some (.ref sa), some (.ref p), some (.ref x), some (.str z), y4, y5, y6, y7, none, none, none] ∧ z.length ≤ 130 ∧ TabG H' T, ?_, ?_⟩
      · refine ⟨_, rfl, p, _, rfl, by decide, by decide, P6, fun v7 H7 l7 u7 P7 B7 => ?_⟩
        have hT7 := tabG_keep hT6 Tp B7.keep
        refine ⟨rfl, _, rfl, ite2 (fun _ => ?_) (fun _ => ⟨z, _, _, _, _, rfl, hz, hT7⟩)⟩
        refine ⟨_, rfl, p, _, rfl, by decide, by decide, P7, fun v8 H8 l8 u8 P8 B8 => ⟨_, _, rfl, rfl, ?_⟩⟩
        have hT8 := tabG_keep hT7 Tp B8.keep
        obtain ⟨j, rfl⟩ := Int.eq_ofNat_of_zero_le l8
        have uj : j < 3 := by have : (j : Int) < 3 := u8; omega
        show gName 7 (V.int (59 + (j : Int))) _ _ _
        rw [show (59 : Int) + (j : Int) = ((59 + j : Nat) : Int) by omega]
        have big : ∀ n : Nat, n ≤ 1000 → n ≤ sizeLine := fun n h => Nat.le_of_lt (small1000 h)
        refine ⟨_, rfl, "7", 59 + j, rfl, rfl, rfl, by omega, by omega, fun t1 n1 => ?_⟩
        refine ⟨_, rfl, "7", 59 + j, rfl, rfl, rfl, by omega, by omega, fun t2 n2 => ⟨_, _, rfl, rfl, big _ (by show 1 + t2.length ≤ 1000; omega), ?_⟩⟩
        refine ⟨_, rfl, "3", 59 + j, rfl, rfl, rfl, by omega, by omega, fun t3 n3 => ⟨_, _, rfl, rfl, big _ (by show 2 + t3.length ≤ 1000; omega), ?_⟩⟩
        refine ⟨(show 11 ≤ sizeLine by decide), fun l nl => ?_⟩
        have s10 := same_upd (o := .lst [.str t1, .str (("-" : Str) ++ t2), .str (("1/" : Str) ++ t3), .str "2/4", .str "1/1", .str "-0", .str "01", .str "0/5", .str "1/0", .str "1/-2", .str "-1/3"]) nl
        refine ⟨_, rfl, p, _, rfl, by decide, by decide, P8.same s10, fun v11 H11 l11 u11 P11 B11 => ?_⟩
        have hT11 := tabG_keep (smT_same hT8 s10).1 Tp B11.keep
        obtain ⟨j3, rfl⟩ := Int.eq_ofNat_of_zero_le l11
        have lp : l ≠ p := by
          obtain ⟨q0, h0⟩ := P8.q
          exact (h0.ne_free nl).1.symm
        have hl := (B11.1 l lp).trans upd_same
        obtain ⟨z3, g3, n3⟩ := eleven (t1 := t1) (t2 := ("-" : Str) ++ t2) (t3 := ("1/" : Str) ++ t3) (j := j3) (by have : (j3 : Int) < 11 := u11; omega) (by omega) (by rw [app_len]; show 1 + t2.length ≤ 62; omega) (by rw [app_len]; show 2 + t3.length ≤ 63; omega)
        exact ⟨_, _, _, _, rfl, rfl, SqL.of hl, atI_nat (j := j3) g3, z3, _, _, _, _, rfl, n3, hT11⟩
      · intro σ H7 hW
        obtain ⟨z, y4, y5, y6, y7, rfl, hz, hT7⟩ := hW
        cases hv : valF z with
        | none =>
          refine ⟨_, rfl, z, rfl, by omega, fun _ H8 s8 => ?_, fun a b h => (by rw [hv] at h; cases h)⟩
          have m8 := smT_same hT7 s8
          refine ⟨fun _ _ => False, ?_, fun _ _ h => h.elim⟩
          refine ⟨_, rfl, z, rfl, by omega, m8.1, fun a b h => (by rw [hv] at h; cases h), fun _ H9 m9 => ?_⟩
          refine ⟨true, E_BadText.em, fun _ e ne => ?_, fun z => nomatch z⟩
          refine ⟨_, rfl, true, rfl, iteT ?_⟩
          exact ⟨_, rfl, rfl, rfl, _, _, _, rfl, fun u hu => hu, I1, _, rfl, q _⟩
        | some ab =>
          obtain ⟨a, b⟩ := ab
          refine ⟨_, rfl, z, rfl, by omega, fun hn => (by rw [hv] at hn; cases hn), fun c d h H8 r s8 hr8 => ?_⟩
          rw [hv] at h
          cases h
          have m8 := smT_same hT7 s8
          refine ⟨fun σ H' => ∃ (y4 y5 y6 y7 y10 : Option V) (r2 : Addr), σ = [some (.ref sa), some (.ref p), some (.ref x), some (.str z), y4, y5, y6, y7, some (.ref r), some (.ref r2), y10] ∧ Vc H' r [a, b] ∧ Vc H' r2 [a, b], ?_, ?_⟩
          · refine ⟨_, rfl, z, rfl, by omega, m8.1, fun c d h H9 r2 m9 hr9 => ?_, fun hn => by rw [hv] at hn; cases hn⟩
            rw [hv] at h
            cases h
            exact ⟨_, _, _, _, _, r2, rfl, hr8.smT m8.1 m9, hr9⟩
          · intro σ H9 hW
            obtain ⟨y4, y5, y6, y7, y10, r2, rfl, h1, h2⟩ := hW
            refine ⟨_, rfl, true, rfl, iteT ?_⟩
            exact ⟨_, rfl, _, rfl, _, _, rfl, pair_alike 0 h2 h1 rfl rfl, q _⟩

end
/-! ### the end: the law is called where the table of one def stands -/
theorem walk_top {l : PySem.W.OpenLaw} {n k : Nat} {q : Program} {loose : List Str} {XP : (Str → Option Value) → Heap → Prop} {YP : World → Heap → Prop} {d : DefRec} {K : Params → PySem.W.Frag} {CX : World → CXT} {x : Str}
    (hn : l.most = some n) (hn2 : n ≤ sizeLine) (hdf : d.params.defaults = []) (hr : Room k callerA) (hY : ∀ (w : World) (h : Heap), YP w h → (K w.params).In h)
    (F : ∀ (w : World) (mg : Str → Option Value) (fa : Addr) (h : Heap), YP w h → (K w.params).In h → h.Ns mainGlobals mg → mg d.name = some (.ref fa) →
      (∀ (nm : Str) (c T : Addr), ((recsOf q).any fun e => e.name == nm) = true → PySem.W.tabIn (K w.params) nm = some (c, T) → PySem.W.CodeHd h c T ∧ h.get? T = some { cls := .none, data := .fields #[] }) → LamX.LawAtS l w (K w.params) (CX w) k n x mg fa h)
    (hCX : ∀ (w : World) (H : Hp) (s : Shared) (e : Value) (s' : Shared), CX w [] H s (fun _ _ _ => False) e s' → False) :
    PySem.W.WalkO q loose XP YP l.row.toRowW d [] (fun f vs => PySem.call f vs) := by
  refine Att.attach_callB hn hdf fun w s₀ s₁ mg mb fa o pm cd doc a vs ns G Y ho hd hcd hmg hobj hints hlen hbits hg => ?_
  have KX := hY w _ Y
  obtain ⟨fd, cs, sp, hT, nT, C, hb, hsp, hF⟩ := F w mg fa _ Y KX G.T.g hmg fun nm c T hm ht => by
    cases hf : (recsOf q).find? fun e => e.name == nm with
    | none =>
      obtain ⟨e, he, hn⟩ := List.any_eq_true.mp hm
      exact absurd hn (List.find?_eq_none.mp hf e he)
    | some e => exact PySem.W.tab_of G.T KX hf ht
  exact LamX.law_callTs KX G.T.g G.T.b G.T.builtins G.T.nolimit hg hT nT C G.T.bmain hobj hints (Nat.le_trans hlen hn2) hr hF hb (fun H hH hS => hsp H a ns hlen hbits hH hS) fun H e s' => hCX w H s₁ e s'
theorem tabIn_of {K : PySem.W.Frag} {nm : Str} {f c T : Addr} {oc ec : Value} {od ed : Option Addr} {fd : FuncData} {sl es : Array (Option Value)} {vs : Array Value} (a : PySem.W.nsIn K mainGlobals nm = some (some (.ref f))) (l : K.lookup f = some ⟨oc, od, .func fd, sl⟩) (e : fd.code = .ref c)
    (lc : K.lookup c = some ⟨ec, ed, .fields vs, es⟩) (e11 : vs[11]? = some (.ref T)) : PySem.W.tabIn K nm = some (c, T) := by
  unfold PySem.W.tabIn
  rw [a]
  simp only [l, e, lc, e11]
theorem at_mk {l : PySem.W.OpenLaw} {w : World} {K : PySem.W.Frag} {q : Program} {k n : Nat} {mg : Str → Option Value} {fa : Addr} {h : Heap} {nm : Str} {c T : Addr}
    (TT : ∀ (nm : Str) (c T : Addr), ((recsOf q).any fun e => e.name == nm) = true → PySem.W.tabIn K nm = some (c, T) → PySem.W.CodeHd h c T ∧ h.get? T = some { cls := .none, data := .fields #[] })
    (hm : ((recsOf q).any fun e => e.name == nm) = true)
    (F : PySem.W.tabIn K nm = some (c, T) ∧ K.lookup T = none ∧ ∃ fd : FuncData, (∀ (s : Shared) (v : Value), BindsTo s fd ⟨[v], []⟩ [("script", v)]) ∧ ∀ base : Heap, K.In base → base.Ns mainGlobals mg → GxR.TabB base mg c T → FnOk l.prog w K mg base CX0 k fa fd ["script"] (spLaw T K)) :
    LamX.LawAtS l w K CX0 k n "script" mg fa h := by
  obtain ⟨ht, nT, fd, hb, hF⟩ := F
  obtain ⟨h1, h2⟩ := TT nm c T hm ht
  refine ⟨fd, [(c, T)], spLaw T K, fun p hp => ?_, fun p hp => ?_, fun p hp => ?_, hb, fun H a ns _ _ hT hS => ⟨a, ns, rfl, hS, ⟨#[], hT (c, T) List.mem_cons_self, trivial⟩, fun _ => rfl⟩, fun base KX G TB => hF base KX G ?_⟩
  · rw [List.mem_singleton.mp hp]; exact h2
  · rw [List.mem_singleton.mp hp]; exact nT
  · rw [List.mem_singleton.mp hp]; exact h1
  · have t := TB (c, T) List.mem_cons_self
    exact ⟨t.code, t.bm, t.gP⟩
section
variable {P : Program} {w : World} {K : PySem.W.Frag} {mg : Str → Option Value} {base : Heap}

end
/-! ### what the top has written -/
theorem all_mk {l : PySem.W.OpenLaw} {w : World} {K : PySem.W.Frag} {h : Heap} {mg : Str → Option Value} {fa f__law_same f__law_gcd f__law_spread f__law_draw f__law_pool f__law_frac f__law_some_frac f__law_shown f__law_read_int f__law_read_frac f_write_integer f_write_fraction f_is_number f_read_integer f_read_fraction f_law D_BadText D_BadNumber : Addr} (X : K.In h) (G : h.Ns mainGlobals mg) (hfa : mg "law" = some (.ref fa))
    {od__law_same an__law_same od__law_gcd an__law_gcd od__law_spread an__law_spread od__law_draw an__law_draw od__law_pool an__law_pool od__law_frac an__law_frac od__law_some_frac an__law_some_frac od__law_shown an__law_shown od__law_read_int an__law_read_int od__law_read_frac an__law_read_frac od_write_integer an_write_integer od_write_fraction an_write_fraction od_is_number an_is_number od_read_integer an_read_integer od_read_fraction an_read_fraction od_law an_law : Option Addr} {sl__law_same sl__law_gcd sl__law_spread sl__law_draw sl__law_pool sl__law_frac sl__law_some_frac sl__law_shown sl__law_read_int sl__law_read_frac sl_write_integer sl_write_fraction sl_is_number sl_read_integer sl_read_fraction sl_law : Array (Option Value)} {oc__law_same kV__law_same dc__law_same pm__law_same cd__law_same ct__law_same oc__law_gcd kV__law_gcd dc__law_gcd pm__law_gcd cd__law_gcd ct__law_gcd oc__law_spread kV__law_spread dc__law_spread pm__law_spread cd__law_spread ct__law_spread oc__law_draw kV__law_draw dc__law_draw pm__law_draw cd__law_draw ct__law_draw oc__law_pool kV__law_pool dc__law_pool pm__law_pool cd__law_pool ct__law_pool oc__law_frac kV__law_frac dc__law_frac pm__law_frac cd__law_frac ct__law_frac oc__law_some_frac kV__law_some_frac dc__law_some_frac pm__law_some_frac cd__law_some_frac ct__law_some_frac oc__law_shown kV__law_shown dc__law_shown pm__law_shown cd__law_shown ct__law_shown oc__law_read_int kV__law_read_int dc__law_read_int pm__law_read_int cd__law_read_int ct__law_read_int oc__law_read_frac kV__law_read_frac dc__law_read_frac pm__law_read_frac cd__law_read_frac ct__law_read_frac oc_write_integer kV_write_integer dc_write_integer pm_write_integer cd_write_integer ct_write_integer oc_write_fraction kV_write_fraction dc_write_fraction pm_write_fraction cd_write_fraction ct_write_fraction oc_is_number kV_is_number dc_is_number pm_is_number ct_is_number oc_read_integer kV_read_integer dc_read_integer pm_read_integer cd_read_integer ct_read_integer oc_read_fraction kV_read_fraction dc_read_fraction pm_read_fraction cd_read_fraction ct_read_fraction oc_law kV_law dc_law pm_law cd_law ct_law : Value}
    {c_I T_I : Addr} {t_most : _} {ec_I : Value} {ed_I : Option Addr} {vs_I : Array Value} {es_I : Array (Option Value)}
    (a__law_same : PySem.W.nsIn K mainGlobals "_law_same" = some (some (.ref f__law_same))) (l__law_same : K.lookup f__law_same = some ⟨oc__law_same, od__law_same, .func (PySem.W.fnOf "_law_same" "_law_same" (defArgs s__law_same) (defBody s__law_same) (defScope s__law_same) .none kV__law_same dc__law_same pm__law_same an__law_same cd__law_same ct__law_same), sl__law_same⟩) (c__law_same : PySem.W.codeIn K cd__law_same "_law_same" = true) (k__law_same : PySem.W.keepIn K (.ref f__law_same) = true)
    (a__law_gcd : PySem.W.nsIn K mainGlobals "_law_gcd" = some (some (.ref f__law_gcd))) (l__law_gcd : K.lookup f__law_gcd = some ⟨oc__law_gcd, od__law_gcd, .func (PySem.W.fnOf "_law_gcd" "_law_gcd" (defArgs s__law_gcd) (defBody s__law_gcd) (defScope s__law_gcd) .none kV__law_gcd dc__law_gcd pm__law_gcd an__law_gcd cd__law_gcd ct__law_gcd), sl__law_gcd⟩) (c__law_gcd : PySem.W.codeIn K cd__law_gcd "_law_gcd" = true) (k__law_gcd : PySem.W.keepIn K (.ref f__law_gcd) = true)
    (a__law_spread : PySem.W.nsIn K mainGlobals "_law_spread" = some (some (.ref f__law_spread))) (l__law_spread : K.lookup f__law_spread = some ⟨oc__law_spread, od__law_spread, .func (PySem.W.fnOf "_law_spread" "_law_spread" (defArgs s__law_spread) (defBody s__law_spread) (defScope s__law_spread) .none kV__law_spread dc__law_spread pm__law_spread an__law_spread cd__law_spread ct__law_spread), sl__law_spread⟩) (c__law_spread : PySem.W.codeIn K cd__law_spread "_law_spread" = true) (k__law_spread : PySem.W.keepIn K (.ref f__law_spread) = true)
    (a__law_draw : PySem.W.nsIn K mainGlobals "_law_draw" = some (some (.ref f__law_draw))) (l__law_draw : K.lookup f__law_draw = some ⟨oc__law_draw, od__law_draw, .func (PySem.W.fnOf "_law_draw" "_law_draw" (defArgs s__law_draw) (defBody s__law_draw) (defScope s__law_draw) .none kV__law_draw dc__law_draw pm__law_draw an__law_draw cd__law_draw ct__law_draw), sl__law_draw⟩) (c__law_draw : PySem.W.codeIn K cd__law_draw "_law_draw" = true) (k__law_draw : PySem.W.keepIn K (.ref f__law_draw) = true)
    (a__law_pool : PySem.W.nsIn K mainGlobals "_law_pool" = some (some (.ref f__law_pool))) (l__law_pool : K.lookup f__law_pool = some ⟨oc__law_pool, od__law_pool, .func (PySem.W.fnOf "_law_pool" "_law_pool" (defArgs s__law_pool) (defBody s__law_pool) (defScope s__law_pool) .none kV__law_pool dc__law_pool pm__law_pool an__law_pool cd__law_pool ct__law_pool), sl__law_pool⟩) (c__law_pool : PySem.W.codeIn K cd__law_pool "_law_pool" = true) (k__law_pool : PySem.W.keepIn K (.ref f__law_pool) = true)
    (a__law_frac : PySem.W.nsIn K mainGlobals "_law_frac" = some (some (.ref f__law_frac))) (l__law_frac : K.lookup f__law_frac = some ⟨oc__law_frac, od__law_frac, .func (PySem.W.fnOf "_law_frac" "_law_frac" (defArgs s__law_frac) (defBody s__law_frac) (defScope s__law_frac) .none kV__law_frac dc__law_frac pm__law_frac an__law_frac cd__law_frac ct__law_frac), sl__law_frac⟩) (c__law_frac : PySem.W.codeIn K cd__law_frac "_law_frac" = true) (k__law_frac : PySem.W.keepIn K (.ref f__law_frac) = true)
    (a__law_some_frac : PySem.W.nsIn K mainGlobals "_law_some_frac" = some (some (.ref f__law_some_frac))) (l__law_some_frac : K.lookup f__law_some_frac = some ⟨oc__law_some_frac, od__law_some_frac, .func (PySem.W.fnOf "_law_some_frac" "_law_some_frac" (defArgs s__law_some_frac) (defBody s__law_some_frac) (defScope s__law_some_frac) .none kV__law_some_frac dc__law_some_frac pm__law_some_frac an__law_some_frac cd__law_some_frac ct__law_some_frac), sl__law_some_frac⟩) (c__law_some_frac : PySem.W.codeIn K cd__law_some_frac "_law_some_frac" = true) (k__law_some_frac : PySem.W.keepIn K (.ref f__law_some_frac) = true)
    (a__law_shown : PySem.W.nsIn K mainGlobals "_law_shown" = some (some (.ref f__law_shown))) (l__law_shown : K.lookup f__law_shown = some ⟨oc__law_shown, od__law_shown, .func (PySem.W.fnOf "_law_shown" "_law_shown" (defArgs s__law_shown) (defBody s__law_shown) (defScope s__law_shown) .none kV__law_shown dc__law_shown pm__law_shown an__law_shown cd__law_shown ct__law_shown), sl__law_shown⟩) (c__law_shown : PySem.W.codeIn K cd__law_shown "_law_shown" = true) (k__law_shown : PySem.W.keepIn K (.ref f__law_shown) = true)
    (a__law_read_int : PySem.W.nsIn K mainGlobals "_law_read_int" = some (some (.ref f__law_read_int))) (l__law_read_int : K.lookup f__law_read_int = some ⟨oc__law_read_int, od__law_read_int, .func (PySem.W.fnOf "_law_read_int" "_law_read_int" (defArgs s__law_read_int) (defBody s__law_read_int) (defScope s__law_read_int) .none kV__law_read_int dc__law_read_int pm__law_read_int an__law_read_int cd__law_read_int ct__law_read_int), sl__law_read_int⟩) (c__law_read_int : PySem.W.codeIn K cd__law_read_int "_law_read_int" = true) (k__law_read_int : PySem.W.keepIn K (.ref f__law_read_int) = true)
    (a__law_read_frac : PySem.W.nsIn K mainGlobals "_law_read_frac" = some (some (.ref f__law_read_frac))) (l__law_read_frac : K.lookup f__law_read_frac = some ⟨oc__law_read_frac, od__law_read_frac, .func (PySem.W.fnOf "_law_read_frac" "_law_read_frac" (defArgs s__law_read_frac) (defBody s__law_read_frac) (defScope s__law_read_frac) .none kV__law_read_frac dc__law_read_frac pm__law_read_frac an__law_read_frac cd__law_read_frac ct__law_read_frac), sl__law_read_frac⟩) (c__law_read_frac : PySem.W.codeIn K cd__law_read_frac "_law_read_frac" = true) (k__law_read_frac : PySem.W.keepIn K (.ref f__law_read_frac) = true)
    (a_write_integer : PySem.W.nsIn K mainGlobals "write_integer" = some (some (.ref f_write_integer))) (l_write_integer : K.lookup f_write_integer = some ⟨oc_write_integer, od_write_integer, .func (PySem.W.fnOf "write_integer" "write_integer" (defArgs s_write_integer) (defBody s_write_integer) (defScope s_write_integer) .none kV_write_integer dc_write_integer pm_write_integer an_write_integer cd_write_integer ct_write_integer), sl_write_integer⟩) (c_write_integer : PySem.W.codeIn K cd_write_integer "write_integer" = true) (k_write_integer : PySem.W.keepIn K (.ref f_write_integer) = true)
    (a_write_fraction : PySem.W.nsIn K mainGlobals "write_fraction" = some (some (.ref f_write_fraction))) (l_write_fraction : K.lookup f_write_fraction = some ⟨oc_write_fraction, od_write_fraction, .func (PySem.W.fnOf "write_fraction" "write_fraction" (defArgs s_write_fraction) (defBody s_write_fraction) (defScope s_write_fraction) .none kV_write_fraction dc_write_fraction pm_write_fraction an_write_fraction cd_write_fraction ct_write_fraction), sl_write_fraction⟩) (c_write_fraction : PySem.W.codeIn K cd_write_fraction "write_fraction" = true) (k_write_fraction : PySem.W.keepIn K (.ref f_write_fraction) = true)
    (a_is_number : PySem.W.nsIn K mainGlobals "is_number" = some (some (.ref f_is_number))) (l_is_number : K.lookup f_is_number = some ⟨oc_is_number, od_is_number, .func (PySem.W.fnOf "is_number" "is_number" (defArgs s_is_number) (defBody s_is_number) (defScope s_is_number) .none kV_is_number dc_is_number pm_is_number an_is_number (.ref c_I) ct_is_number), sl_is_number⟩) (c_is_number : PySem.W.codeIn K (.ref c_I) "is_number" = true) (k_is_number : PySem.W.keepIn K (.ref f_is_number) = true)
    (a_read_integer : PySem.W.nsIn K mainGlobals "read_integer" = some (some (.ref f_read_integer))) (l_read_integer : K.lookup f_read_integer = some ⟨oc_read_integer, od_read_integer, .func (PySem.W.fnOf "read_integer" "read_integer" (defArgs s_read_integer) (defBody s_read_integer) (defScope s_read_integer) .none kV_read_integer dc_read_integer pm_read_integer an_read_integer cd_read_integer ct_read_integer), sl_read_integer⟩) (c_read_integer : PySem.W.codeIn K cd_read_integer "read_integer" = true) (k_read_integer : PySem.W.keepIn K (.ref f_read_integer) = true)
    (a_read_fraction : PySem.W.nsIn K mainGlobals "read_fraction" = some (some (.ref f_read_fraction))) (l_read_fraction : K.lookup f_read_fraction = some ⟨oc_read_fraction, od_read_fraction, .func (PySem.W.fnOf "read_fraction" "read_fraction" (defArgs s_read_fraction) (defBody s_read_fraction) (defScope s_read_fraction) .none kV_read_fraction dc_read_fraction pm_read_fraction an_read_fraction cd_read_fraction ct_read_fraction), sl_read_fraction⟩) (c_read_fraction : PySem.W.codeIn K cd_read_fraction "read_fraction" = true) (k_read_fraction : PySem.W.keepIn K (.ref f_read_fraction) = true)
    (a_law : PySem.W.nsIn K mainGlobals "law" = some (some (.ref f_law))) (l_law : K.lookup f_law = some ⟨oc_law, od_law, .func (PySem.W.fnOf "law" "law" (defArgs s_law) (defBody s_law) (defScope s_law) .none kV_law dc_law pm_law an_law cd_law ct_law), sl_law⟩) (c_law : PySem.W.codeIn K cd_law "law" = true) (k_law : PySem.W.keepIn K (.ref f_law) = true)
    (eg_BadText : PySem.W.nsIn K mainGlobals "BadText" = some (some (.ref D_BadText))) (ex_BadText : PySem.W.excIn K D_BadText VE "ValueError.__new__" = true) (ek_BadText : PySem.W.keepIn K (.ref D_BadText) = true) (eb_BadText : PySem.W.subIn K (.ref D_BadText) (.type "BaseException") = some true) (et_BadText : PySem.W.typeIn K (.ref D_BadText) = some (.type "type")) (ed_BadText : PySem.W.hasDictIn K D_BadText = true) (es_BadText : PySem.W.subIn K (.ref D_BadText) (.ref D_BadText) = some true)
    (eg_BadNumber : PySem.W.nsIn K mainGlobals "BadNumber" = some (some (.ref D_BadNumber)))
    (xg_BadText : PySem.W.findIn K (.ref D_BadText) "__getattribute__" = some (some (.builtin "BaseException.__getattribute__"))) (xk_BadText : PySem.W.findIn K (.ref D_BadText) "__getattr__" = some none) (xa_BadText : PySem.W.findIn K (.ref D_BadText) "__class__" = some (some (.builtin "object.__class__"))) (xn_BadText : PySem.W.specialIn K (.builtin "object.__class__") "__get__" = some (some (.builtin "getset_descriptor.__get__"))) (xt_BadText : PySem.W.takesIn K (.builtin "object.__class__") = some true) (xm_BadText : PySem.W.mroIn K D_BadText (.type "object") = some true)
    (kit_BadText_BadNumber : PySem.W.kitOne K (.ref D_BadText) (.ref D_BadNumber) = some false)
    (z_len : PySem.W.nsIn K mainGlobals "len" = some none) (z_range : PySem.W.nsIn K mainGlobals "range" = some none) (z_int : PySem.W.nsIn K mainGlobals "int" = some none) (z_list : PySem.W.nsIn K mainGlobals "list" = some none) (z_tuple : PySem.W.nsIn K mainGlobals "tuple" = some none) (z_bool : PySem.W.nsIn K mainGlobals "bool" = some none) (z_isinstance : PySem.W.nsIn K mainGlobals "isinstance" = some none) (z_abs : PySem.W.nsIn K mainGlobals "abs" = some none) (z_sum : PySem.W.nsIn K mainGlobals "sum" = some none) (z_zip : PySem.W.nsIn K mainGlobals "zip" = some none) (z_str : PySem.W.nsIn K mainGlobals "str" = some none) (z_all : PySem.W.nsIn K mainGlobals "all" = some none) (z_reversed : PySem.W.nsIn K mainGlobals "reversed" = some none) (z_divmod : PySem.W.nsIn K mainGlobals "divmod" = some none)
    (z_gcd : PySem.W.nsIn K mainGlobals "gcd" = some (some (.builtin "math.gcd")))
    (z_most : PySem.W.nsIn K mainGlobals "MOST_DIGITS" = some (some (.int 60 t_most)))
    (t_I : K.lookup c_I = some ⟨ec_I, ed_I, .fields vs_I, es_I⟩) (e_I : vs_I[11]? = some (.ref T_I)) (n_I : K.lookup T_I = none)
    : PySem.W.tabIn K "is_number" = some (c_I, T_I) ∧ K.lookup T_I = none ∧ ∃ fd : FuncData, (∀ (s : Shared) (v : Value), BindsTo s fd ⟨[v], []⟩ [("script", v)]) ∧ ∀ base : Heap, K.In base → base.Ns mainGlobals mg → GxR.TabB base mg c_I T_I → FnOk l.prog w K mg base CX0 4 fa fd ["script"] (spLaw T_I K) := by
  have e := hfa.symm.trans (PySem.W.mg_of X G a_law)
  cases e
  have F__law_same := fun_mk (st := s__law_same) l__law_same c__law_same k__law_same
  have b__law_same := F__law_same.binds (ps := ["actual", "due"]) fun _ _ _ _ _ _ us hl => match us, hl with | [_, _], _ => rfl
  have F__law_gcd := fun_mk (st := s__law_gcd) l__law_gcd c__law_gcd k__law_gcd
  have b__law_gcd := F__law_gcd.binds (ps := ["a", "b"]) fun _ _ _ _ _ _ us hl => match us, hl with | [_, _], _ => rfl
  have F__law_spread := fun_mk (st := s__law_spread) l__law_spread c__law_spread k__law_spread
  have b__law_spread := F__law_spread.binds (ps := ["cell"]) fun _ _ _ _ _ _ us hl => match us, hl with | [_], _ => rfl
  have F__law_draw := fun_mk (st := s__law_draw) l__law_draw c__law_draw k__law_draw
  have b__law_draw := F__law_draw.binds (ps := ["pool", "many"]) fun _ _ _ _ _ _ us hl => match us, hl with | [_, _], _ => rfl
  have F__law_pool := fun_mk (st := s__law_pool) l__law_pool c__law_pool k__law_pool
  have b__law_pool := F__law_pool.binds (ps := ["script"]) fun _ _ _ _ _ _ us hl => match us, hl with | [_], _ => rfl
  have F__law_frac := fun_mk (st := s__law_frac) l__law_frac c__law_frac k__law_frac
  have b__law_frac := F__law_frac.binds (ps := ["a", "b"]) fun _ _ _ _ _ _ us hl => match us, hl with | [_, _], _ => rfl
  have F__law_some_frac := fun_mk (st := s__law_some_frac) l__law_some_frac c__law_some_frac k__law_some_frac
  have b__law_some_frac := F__law_some_frac.binds (ps := ["pool"]) fun _ _ _ _ _ _ us hl => match us, hl with | [_], _ => rfl
  have F__law_shown := fun_mk (st := s__law_shown) l__law_shown c__law_shown k__law_shown
  have b__law_shown := F__law_shown.binds (ps := ["x"]) fun _ _ _ _ _ _ us hl => match us, hl with | [_], _ => rfl
  have F__law_read_int := fun_mk (st := s__law_read_int) l__law_read_int c__law_read_int k__law_read_int
  have b__law_read_int := F__law_read_int.binds (ps := ["text"]) fun _ _ _ _ _ _ us hl => match us, hl with | [_], _ => rfl
  have F__law_read_frac := fun_mk (st := s__law_read_frac) l__law_read_frac c__law_read_frac k__law_read_frac
  have b__law_read_frac := F__law_read_frac.binds (ps := ["text"]) fun _ _ _ _ _ _ us hl => match us, hl with | [_], _ => rfl
  have F_write_integer := fun_mk (st := s_write_integer) l_write_integer c_write_integer k_write_integer
  have b_write_integer := F_write_integer.binds (ps := ["number"]) fun _ _ _ _ _ _ us hl => match us, hl with | [_], _ => rfl
  have F_write_fraction := fun_mk (st := s_write_fraction) l_write_fraction c_write_fraction k_write_fraction
  have b_write_fraction := F_write_fraction.binds (ps := ["x"]) fun _ _ _ _ _ _ us hl => match us, hl with | [_], _ => rfl
  have F_is_number := fun_mk (st := s_is_number) l_is_number c_is_number k_is_number
  have b_is_number := F_is_number.binds (ps := ["digits"]) fun _ _ _ _ _ _ us hl => match us, hl with | [_], _ => rfl
  have F_read_integer := fun_mk (st := s_read_integer) l_read_integer c_read_integer k_read_integer
  have b_read_integer := F_read_integer.binds (ps := ["text", "most_digits"]) fun _ _ _ _ _ _ us hl => match us, hl with | [_, _], _ => rfl
  have F_read_fraction := fun_mk (st := s_read_fraction) l_read_fraction c_read_fraction k_read_fraction
  have b_read_fraction := F_read_fraction.binds (ps := ["text"]) fun _ _ _ _ _ _ us hl => match us, hl with | [_], _ => rfl
  have F_law := fun_mk (st := s_law) l_law c_law k_law
  have Z : Glb mg := ⟨PySem.W.mg_none_of X G z_len, PySem.W.mg_none_of X G z_range, PySem.W.mg_none_of X G z_int, PySem.W.mg_none_of X G z_list, PySem.W.mg_none_of X G z_tuple, PySem.W.mg_none_of X G z_bool, PySem.W.mg_none_of X G z_isinstance, PySem.W.mg_none_of X G z_abs, PySem.W.mg_none_of X G z_sum, PySem.W.mg_none_of X G z_zip, PySem.W.mg_none_of X G z_str, PySem.W.mg_none_of X G z_all, PySem.W.mg_none_of X G z_reversed, PySem.W.mg_none_of X G z_divmod, PySem.W.mg_of X G z_gcd, ⟨_, PySem.W.mg_of X G z_most⟩⟩
  have FC_is_number : FunC K "is_number" "is_number" s_is_number f_is_number _ c_I := ⟨_, _, _, _, _, _, _, _, rfl, l_is_number, c_is_number⟩
  refine ⟨tabIn_of a_is_number l_is_number rfl t_I e_I, n_I, ?_⟩
  have E_BadText : Er K mg "BadText" D_BadText := ⟨PySem.W.mg_of X G eg_BadText, ex_BadText, ek_BadText, eb_BadText, et_BadText, ed_BadText, es_BadText⟩
  have X_BadText : ExcC K D_BadText := ⟨xg_BadText, xk_BadText, eb_BadText, ed_BadText, xa_BadText, xn_BadText, xt_BadText, xm_BadText⟩
  refine ⟨PySem.W.fnOf "law" "law" (defArgs s_law) (defBody s_law) (defScope s_law) .none kV_law dc_law pm_law an_law cd_law ct_law, fun s v => .of_eq rfl, fun base _ _ TB => ?_⟩
  have S__law_pool_3 : FnOk l.prog w K mg base CX0 3 f__law_pool _ ["script"] (spPool K) := ok_pool (k := 2) F__law_pool Z 
  have C__law_pool_3 : Call l.prog w K mg base 3 "_law_pool" ["script"] (spPool K) := ⟨f__law_pool, _, S__law_pool_3, PySem.W.mg_of X G a__law_pool, F__law_pool.kp, b__law_pool⟩
  have S__law_spread_2 : FnOk l.prog w K mg base CX0 2 f__law_spread _ ["cell"] spSpread := ok_spread (k := 1) F__law_spread Z 
  have C__law_spread_2 : Call l.prog w K mg base 2 "_law_spread" ["cell"] spSpread := ⟨f__law_spread, _, S__law_spread_2, PySem.W.mg_of X G a__law_spread, F__law_spread.kp, b__law_spread⟩
  have S__law_draw_3 : FnOk l.prog w K mg base CX0 3 f__law_draw _ ["pool", "many"] spDraw := ok_draw (k := 2) F__law_draw Z  C__law_spread_2
  have C__law_draw_3 : Call l.prog w K mg base 3 "_law_draw" ["pool", "many"] spDraw := ⟨f__law_draw, _, S__law_draw_3, PySem.W.mg_of X G a__law_draw, F__law_draw.kp, b__law_draw⟩
  have S_same_0_2 := ok_same (P := l.prog) (w := w) (base := base) (k := 1) (n := 0) F__law_same Z (fun m e => absurd e (by omega)) (PySem.W.mg_of X G a__law_same) b__law_same
  have S_same_1_3 := ok_same (P := l.prog) (w := w) (base := base) (k := 2) (n := 1) F__law_same Z (fun m e => by cases e; exact S_same_0_2) (PySem.W.mg_of X G a__law_same) b__law_same
  have DS_same_1_3 : Call l.prog w K mg base 3 "_law_same" ["actual", "due"] (spSame 1) := ⟨f__law_same, _, S_same_1_3, PySem.W.mg_of X G a__law_same, F__law_same.kp, b__law_same⟩
  have S__law_spread_1 : FnOk l.prog w K mg base CX0 1 f__law_spread _ ["cell"] spSpread := ok_spread (k := 0) F__law_spread Z 
  have C__law_spread_1 : Call l.prog w K mg base 1 "_law_spread" ["cell"] spSpread := ⟨f__law_spread, _, S__law_spread_1, PySem.W.mg_of X G a__law_spread, F__law_spread.kp, b__law_spread⟩
  have S__law_draw_2 : FnOk l.prog w K mg base CX0 2 f__law_draw _ ["pool", "many"] spDraw := ok_draw (k := 1) F__law_draw Z  C__law_spread_1
  have C__law_draw_2 : Call l.prog w K mg base 2 "_law_draw" ["pool", "many"] spDraw := ⟨f__law_draw, _, S__law_draw_2, PySem.W.mg_of X G a__law_draw, F__law_draw.kp, b__law_draw⟩
  have S__law_gcd_1 : FnOk l.prog w K mg base CX0 1 f__law_gcd _ ["a", "b"] spGcd := ok_gcd (k := 0) F__law_gcd Z 
  have C__law_gcd_1 : Call l.prog w K mg base 1 "_law_gcd" ["a", "b"] spGcd := ⟨f__law_gcd, _, S__law_gcd_1, PySem.W.mg_of X G a__law_gcd, F__law_gcd.kp, b__law_gcd⟩
  have S__law_frac_2 : FnOk l.prog w K mg base CX0 2 f__law_frac _ ["a", "b"] spFr := ok_lfrac (k := 1) F__law_frac Z  C__law_gcd_1
  have C__law_frac_2 : Call l.prog w K mg base 2 "_law_frac" ["a", "b"] spFr := ⟨f__law_frac, _, S__law_frac_2, PySem.W.mg_of X G a__law_frac, F__law_frac.kp, b__law_frac⟩
  have S__law_some_frac_3 : FnOk l.prog w K mg base CX0 3 f__law_some_frac _ ["pool"] spSome := ok_some (k := 2) F__law_some_frac Z  C__law_draw_2 C__law_frac_2
  have C__law_some_frac_3 : Call l.prog w K mg base 3 "_law_some_frac" ["pool"] spSome := ⟨f__law_some_frac, _, S__law_some_frac_3, PySem.W.mg_of X G a__law_some_frac, F__law_some_frac.kp, b__law_some_frac⟩
  have S__law_shown_3 : FnOk l.prog w K mg base CX0 3 f__law_shown _ ["x"] spShown := ok_shown (k := 2) F__law_shown Z 
  have C__law_shown_3 : Call l.prog w K mg base 3 "_law_shown" ["x"] spShown := ⟨f__law_shown, _, S__law_shown_3, PySem.W.mg_of X G a__law_shown, F__law_shown.kp, b__law_shown⟩
  have S__law_read_int_2 : FnOk l.prog w K mg base CX0 2 f__law_read_int _ ["text"] spLRI := ok_lri (k := 1) F__law_read_int Z 
  have C__law_read_int_2 : Call l.prog w K mg base 2 "_law_read_int" ["text"] spLRI := ⟨f__law_read_int, _, S__law_read_int_2, PySem.W.mg_of X G a__law_read_int, F__law_read_int.kp, b__law_read_int⟩
  have S__law_gcd_2 : FnOk l.prog w K mg base CX0 2 f__law_gcd _ ["a", "b"] spGcd := ok_gcd (k := 1) F__law_gcd Z 
  have C__law_gcd_2 : Call l.prog w K mg base 2 "_law_gcd" ["a", "b"] spGcd := ⟨f__law_gcd, _, S__law_gcd_2, PySem.W.mg_of X G a__law_gcd, F__law_gcd.kp, b__law_gcd⟩
  have S__law_read_frac_3 : FnOk l.prog w K mg base CX0 3 f__law_read_frac _ ["text"] spLRF := ok_lrf (k := 2) F__law_read_frac Z  C__law_read_int_2 C__law_gcd_2
  have C__law_read_frac_3 : Call l.prog w K mg base 3 "_law_read_frac" ["text"] spLRF := ⟨f__law_read_frac, _, S__law_read_frac_3, PySem.W.mg_of X G a__law_read_frac, F__law_read_frac.kp, b__law_read_frac⟩
  have S_write_integer_v_0_1 : FnOk l.prog w K mg base CX0 1 f_write_integer _ ["number"] spWI0 := ok_wi0 (k := 0) F_write_integer Z 
  have C_write_integer_v_0_1 : Call l.prog w K mg base 1 "write_integer" ["number"] spWI0 := ⟨f_write_integer, _, S_write_integer_v_0_1, PySem.W.mg_of X G a_write_integer, F_write_integer.kp, b_write_integer⟩
  have S_write_integer_2 : FnOk l.prog w K mg base CX0 2 f_write_integer _ ["number"] spWI := ok_wi (k := 1) F_write_integer Z S_write_integer_v_0_1 (PySem.W.mg_of X G a_write_integer) b_write_integer
  have C_write_integer_2 : Call l.prog w K mg base 2 "write_integer" ["number"] spWI := ⟨f_write_integer, _, S_write_integer_2, PySem.W.mg_of X G a_write_integer, F_write_integer.kp, b_write_integer⟩
  have S_write_fraction_3 : FnOk l.prog w K mg base CX0 3 f_write_fraction _ ["x"] spWF := ok_wf (k := 2) F_write_fraction Z  C_write_integer_2
  have C_write_fraction_3 : Call l.prog w K mg base 3 "write_fraction" ["x"] spWF := ⟨f_write_fraction, _, S_write_fraction_3, PySem.W.mg_of X G a_write_fraction, F_write_fraction.kp, b_write_fraction⟩
  have S_is_number_1 : FnOk l.prog w K mg base CX0 1 f_is_number _ ["digits"] (spIsNum T_I) := ok_isnum (k := 0) FC_is_number Z TB
  have C_is_number_1 : Call l.prog w K mg base 1 "is_number" ["digits"] (spIsNum T_I) := ⟨f_is_number, _, S_is_number_1, PySem.W.mg_of X G a_is_number, F_is_number.kp, b_is_number⟩
  have S_read_integer_2 : FnOk l.prog w K mg base (L2.CX l.prog w) 2 f_read_integer _ ["text", "most_digits"] (spRdIX T_I D_BadText) := ok_rdiX (k := 1) F_read_integer Z E_BadText C_is_number_1
  have C_read_integer_2 : CallX l.prog w K mg base 2 "read_integer" ["text", "most_digits"] (spRdIX T_I D_BadText) := ⟨f_read_integer, _, S_read_integer_2, PySem.W.mg_of X G a_read_integer, F_read_integer.kp, b_read_integer⟩
  have S_read_fraction_3 : FnOk l.prog w K mg base (L2.CX l.prog w) 3 f_read_fraction _ ["text"] (spRdFX T_I D_BadText) := ok_rdfX (k := 2) F_read_fraction Z E_BadText C_read_integer_2
  have C_read_fraction_3 : CallX l.prog w K mg base 3 "read_fraction" ["text"] (spRdFX T_I D_BadText) := ⟨f_read_fraction, _, S_read_fraction_3, PySem.W.mg_of X G a_read_fraction, F_read_fraction.kp, b_read_fraction⟩
  exact ok_law (P := l.prog) (w := w) (base := base) (k := 3) F_law Z E_BadText X_BadText (PySem.W.mg_of X G eg_BadNumber) kit_BadText_BadNumber C__law_pool_3 C__law_draw_3 DS_same_1_3 C__law_some_frac_3 C__law_shown_3 C__law_read_frac_3 C_write_fraction_3 C_read_fraction_3
end HwP
open PySem PySem.W PyProof.Rows
set_option maxHeartbeats 0 in
theorem PySem.Challenge.cw_hullwright_k03_texts_of_fractions_holds : PySem.Challenge.rw_hullwright_k03_texts_of_fractions.Holds := by
  w_on; o_law; k_head; (case hw => w_witness2)
  k_fill
  refine HwP.walk_top (l := PySem.Challenge.rw_hullwright_k03_texts_of_fractions) (n := 63) (k := 4) (x := "script") (CX := fun _ => L2.CX0) rfl (by decide) rfl ⟨rfl, by decide, by decide⟩ (fun w h Y => PySem.W.kIn_of Y) ?F (fun _ _ _ _ _ h => h)
  case F =>
    intro w mg fa h Y KX G hmg TT
    refine' HwP.at_mk (nm := "is_number") TT (by decide +kernel) (HwP.all_mk KX G hmg (a__law_same := ?a__law_same) (l__law_same := ?l__law_same) (c__law_same := ?c__law_same) (k__law_same := ?k__law_same) (a__law_gcd := ?a__law_gcd) (l__law_gcd := ?l__law_gcd) (c__law_gcd := ?c__law_gcd) (k__law_gcd := ?k__law_gcd) (a__law_spread := ?a__law_spread) (l__law_spread := ?l__law_spread) (c__law_spread := ?c__law_spread) (k__law_spread := ?k__law_spread) (a__law_draw := ?a__law_draw) (l__law_draw := ?l__law_draw) (c__law_draw := ?c__law_draw) (k__law_draw := ?k__law_draw) (a__law_pool := ?a__law_pool) (l__law_pool := ?l__law_pool) (c__law_pool := ?c__law_pool) (k__law_pool := ?k__law_pool) (a__law_frac := ?a__law_frac) (l__law_frac := ?l__law_frac) (c__law_frac := ?c__law_frac) (k__law_frac := ?k__law_frac) (a__law_some_frac := ?a__law_some_frac) (l__law_some_frac := ?l__law_some_frac) (c__law_some_frac := ?c__law_some_frac) (k__law_some_frac := ?k__law_some_frac) (a__law_shown := ?a__law_shown) (l__law_shown := ?l__law_shown) (c__law_shown := ?c__law_shown) (k__law_shown := ?k__law_shown) (a__law_read_int := ?a__law_read_int) (l__law_read_int := ?l__law_read_int) (c__law_read_int := ?c__law_read_int) (k__law_read_int := ?k__law_read_int) (a__law_read_frac := ?a__law_read_frac) (l__law_read_frac := ?l__law_read_frac) (c__law_read_frac := ?c__law_read_frac) (k__law_read_frac := ?k__law_read_frac) (a_write_integer := ?a_write_integer) (l_write_integer := ?l_write_integer) (c_write_integer := ?c_write_integer) (k_write_integer := ?k_write_integer) (a_write_fraction := ?a_write_fraction) (l_write_fraction := ?l_write_fraction) (c_write_fraction := ?c_write_fraction) (k_write_fraction := ?k_write_fraction) (a_is_number := ?a_is_number) (l_is_number := ?l_is_number) (c_is_number := ?c_is_number) (k_is_number := ?k_is_number) (a_read_integer := ?a_read_integer) (l_read_integer := ?l_read_integer) (c_read_integer := ?c_read_integer) (k_read_integer := ?k_read_integer) (a_read_fraction := ?a_read_fraction) (l_read_fraction := ?l_read_fraction) (c_read_fraction := ?c_read_fraction) (k_read_fraction := ?k_read_fraction) (a_law := ?a_law) (l_law := ?l_law) (c_law := ?c_law) (k_law := ?k_law) (eg_BadText := ?eg_BadText) (ex_BadText := ?ex_BadText) (ek_BadText := ?ek_BadText) (eb_BadText := ?eb_BadText) (et_BadText := ?et_BadText) (ed_BadText := ?ed_BadText) (es_BadText := ?es_BadText) (eg_BadNumber := ?eg_BadNumber) (xg_BadText := ?xg_BadText) (xk_BadText := ?xk_BadText) (xa_BadText := ?xa_BadText) (xn_BadText := ?xn_BadText) (xt_BadText := ?xt_BadText) (xm_BadText := ?xm_BadText) (kit_BadText_BadNumber := ?kit_BadText_BadNumber) (z_len := ?z_len) (z_range := ?z_range) (z_int := ?z_int) (z_list := ?z_list) (z_tuple := ?z_tuple) (z_bool := ?z_bool) (z_isinstance := ?z_isinstance) (z_abs := ?z_abs) (z_sum := ?z_sum) (z_zip := ?z_zip) (z_str := ?z_str) (z_all := ?z_all) (z_reversed := ?z_reversed) (z_divmod := ?z_divmod) (z_gcd := ?z_gcd) (z_most := ?z_most) (t_I := ?t_I) (e_I := ?e_I) (n_I := ?n_I))
    (case a__law_same => k_is)
    (case l__law_same => k_is)
    (case c__law_same => k_is)
    (case k__law_same => k_is)
    (case a__law_gcd => k_is)
    (case l__law_gcd => k_is)
    (case c__law_gcd => k_is)
    (case k__law_gcd => k_is)
    (case a__law_spread => k_is)
    (case l__law_spread => k_is)
    (case c__law_spread => k_is)
    (case k__law_spread => k_is)
    (case a__law_draw => k_is)
    (case l__law_draw => k_is)
    (case c__law_draw => k_is)
    (case k__law_draw => k_is)
    (case a__law_pool => k_is)
    (case l__law_pool => k_is)
    (case c__law_pool => k_is)
    (case k__law_pool => k_is)
    (case a__law_frac => k_is)
    (case l__law_frac => k_is)
    (case c__law_frac => k_is)
    (case k__law_frac => k_is)
    (case a__law_some_frac => k_is)
    (case l__law_some_frac => k_is)
    (case c__law_some_frac => k_is)
    (case k__law_some_frac => k_is)
    (case a__law_shown => k_is)
    (case l__law_shown => k_is)
    (case c__law_shown => k_is)
    (case k__law_shown => k_is)
    (case a__law_read_int => k_is)
    (case l__law_read_int => k_is)
    (case c__law_read_int => k_is)
    (case k__law_read_int => k_is)
    (case a__law_read_frac => k_is)
    (case l__law_read_frac => k_is)
    (case c__law_read_frac => k_is)
    (case k__law_read_frac => k_is)
    (case a_write_integer => k_is)
    (case l_write_integer => k_is)
    (case c_write_integer => k_is)
    (case k_write_integer => k_is)
    (case a_write_fraction => k_is)
    (case l_write_fraction => k_is)
    (case c_write_fraction => k_is)
    (case k_write_fraction => k_is)
    (case a_is_number => k_is)
    (case l_is_number => k_is)
    (case c_is_number => k_is)
    (case k_is_number => k_is)
    (case a_read_integer => k_is)
    (case l_read_integer => k_is)
    (case c_read_integer => k_is)
    (case k_read_integer => k_is)
    (case a_read_fraction => k_is)
    (case l_read_fraction => k_is)
    (case c_read_fraction => k_is)
    (case k_read_fraction => k_is)
    (case a_law => k_is)
    (case l_law => k_is)
    (case c_law => k_is)
    (case k_law => k_is)
    (case eg_BadText => k_is)
    (case ex_BadText => k_exc)
    (case ek_BadText => k_is)
    (case eb_BadText => k_is)
    (case et_BadText => k_is)
    (case ed_BadText => k_is)
    (case es_BadText => first | rfl | k_is)
    (case eg_BadNumber => k_is)
    (case xg_BadText => k_is)
    (case xk_BadText => k_is)
    (case xa_BadText => k_is)
    (case xn_BadText => first | rfl | k_is)
    (case xt_BadText => first | rfl | k_is)
    (case xm_BadText => k_is)
    (case kit_BadText_BadNumber => first | rfl | k_is)
    (case z_len => k_is)
    (case z_range => k_is)
    (case z_int => k_is)
    (case z_list => k_is)
    (case z_tuple => k_is)
    (case z_bool => k_is)
    (case z_isinstance => k_is)
    (case z_abs => k_is)
    (case z_sum => k_is)
    (case z_zip => k_is)
    (case z_str => k_is)
    (case z_all => k_is)
    (case z_reversed => k_is)
    (case z_divmod => k_is)
    (case z_gcd => k_is)
    (case z_most => k_is)
    (case t_I => k_is)
    (case e_I => rfl)
    (case n_I => kernel_rfl)

