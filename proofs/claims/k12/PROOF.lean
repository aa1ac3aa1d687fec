import PyProof.Rows.All
import Wide.All
import OpenK.AllK
import Wide.FinOn
import HandS.ForMost
import HandS.Wide
import HandS.Gcd
import HandS.IsInst
import HandS.Codes
import HandS.Zip
import HandS.Walk
import PyProof.WalksMore
import PyProof.ConsumeWalk
import PyProof.JoinWalk
import KE.GoesMore
import KE.GoesEnum
import KE.GoesZip
import HandS.TupMul
import HandS.Conv
import HandS.WideBits
import HandS.TupAny
import HandS.Exc
import HandS.TryOnly
import HandS.ExcOwn
import HandS.WordsExc
import HandS.ExcIs
import HandS.Text
import HandS.Rev
import HandS.RevTup
import HandS.AnyAll
import HandS.EndTab
import PySem.Challenge.RW_hullwright_k12_whole_values_are_affine
set_option Elab.async false
set_option linter.all false
set_option maxRecDepth 100000
set_option maxHeartbeats 4000000

namespace Hw
/-- Euclid's loop, by its turn -/
def Fit (i A B : Nat) : Prop := (i = 0 ∧ A * B < 2 ^ 598) ∨ (1 ≤ i ∧ B < A ∧ A * B * 2 ^ (i - 1) < 2 ^ 598)
theorem fit0 {A B : Nat} (ha : A < 2 ^ 299) (hb : B < 2 ^ 299) : Fit 0 A B := by
  refine .inl ⟨rfl, ?_⟩
  have h : A * B < 2 ^ 299 * 2 ^ 299 := Nat.mul_lt_mul'' ha hb
  rwa [← Nat.pow_add] at h
theorem fit_step {i A B : Nat} (h : Fit i A B) (hb : B ≠ 0) : Fit (i + 1) B (A % B) := by
  have hr : A % B < B := Nat.mod_lt _ (Nat.pos_of_ne_zero hb)
  refine .inr ⟨by omega, hr, ?_⟩
  rcases h with ⟨rfl, h⟩ | ⟨hi, hlt, h⟩
  · have h1 : B * (A % B) ≤ B * A := Nat.mul_le_mul_left _ (Nat.mod_le _ _)
    rw [Nat.mul_comm B A] at h1
    show B * (A % B) * 2 ^ 0 < 2 ^ 598
    rw [Nat.pow_zero, Nat.mul_one]
    omega
  · obtain ⟨j, rfl⟩ : ∃ j, i = j + 1 := ⟨i - 1, by omega⟩
    show B * (A % B) * 2 ^ (j + 1) < 2 ^ 598
    have h2 : 2 * (A % B) ≤ A := by
      have e : B * (A / B) + A % B = A := Nat.div_add_mod A B
      have q : 1 ≤ A / B := Nat.div_pos (Nat.le_of_lt hlt) (Nat.pos_of_ne_zero hb)
      have m : B * 1 ≤ B * (A / B) := Nat.mul_le_mul_left _ q
      omega
    have h3 : B * (2 * (A % B)) ≤ B * A := Nat.mul_le_mul_left _ h2
    have h4 : B * (A % B) * 2 ^ (j + 1) = B * (2 * (A % B)) * 2 ^ j := by
      rw [Nat.pow_succ]
      simp only [Nat.mul_assoc, Nat.mul_left_comm, Nat.mul_comm]
    rw [h4]
    refine Nat.lt_of_le_of_lt (Nat.mul_le_mul_right _ h3) ?_
    rw [Nat.mul_comm B A]
    exact h
theorem fit_end {A B : Nat} (h : Fit 600 A B) : B = 0 := by
  rcases h with ⟨h, _⟩ | ⟨_, hlt, h⟩
  · omega
  · by_cases hb : B = 0
    · exact hb
    · exfalso
      have h1 : 1 ≤ A * B := Nat.mul_pos (by omega) (by omega)
      have h2 : 1 * 2 ^ (600 - 1) ≤ A * B * 2 ^ (600 - 1) := Nat.mul_le_mul_right _ h1
      have h3 : (2 : Nat) ^ 598 < 2 ^ (600 - 1) := Nat.pow_lt_pow_right (by decide) (by decide)
      omega
theorem gcd_turn (A B : Nat) : Nat.gcd B (A % B) = Nat.gcd A B := by
  rw [Nat.gcd_comm B, ← Nat.gcd_rec, Nat.gcd_comm]
/-- the greatest common divisor, an int -/
def g2 (a b : Int) : Int := ((Nat.gcd a.natAbs b.natAbs : Nat) : Int)
theorem g2_pos {a b : Int} (hb : b ≠ 0) : 0 < g2 a b := by
  unfold g2
  have : 0 < Nat.gcd a.natAbs b.natAbs := Nat.gcd_pos_of_pos_right _ (by omega)
  omega
theorem g2_nn0 (a b : Int) : 0 ≤ g2 a b := by
  unfold g2
  omega
theorem g2_le {a b : Int} (hb : b ≠ 0) : (g2 a b).natAbs ≤ b.natAbs := by
  unfold g2
  have : Nat.gcd a.natAbs b.natAbs ≤ b.natAbs := Nat.gcd_le_right _ (by omega)
  omega
/-- a fraction's two entries, b > 0 -/
def frN (a b : Int) : Int := a / g2 a b
def frD (a b : Int) : Int := b / g2 a b
theorem g2_dvd_l (a b : Int) : g2 a b ∣ a := by
  unfold g2
  exact Int.ofNat_dvd_left.mpr (Nat.gcd_dvd_left _ _)
theorem g2_dvd_r (a b : Int) : g2 a b ∣ b := by
  unfold g2
  exact Int.ofNat_dvd_left.mpr (Nat.gcd_dvd_right _ _)
theorem frD_pos {a b : Int} (hb : 0 < b) : 0 < frD a b := by
  have g := g2_pos (a := a) (b := b) (by omega)
  exact Int.ediv_pos_of_pos_of_dvd hb (Int.le_of_lt g) (g2_dvd_r a b)
theorem ediv_abs {a g : Int} (hg : 0 < g) : (a / g).natAbs ≤ a.natAbs := by
  have h1 := Int.mul_ediv_self_le (x := a) (k := g) (by omega)
  have h2 := Int.lt_mul_ediv_self_add (x := a) (k := g) hg
  generalize hq : a / g = q at *
  by_cases c : 0 ≤ q
  · have : 1 * q ≤ g * q := Int.mul_le_mul_of_nonneg_right (by omega) c
    omega
  · have h3 : g * q ≤ g * (-1) + (q + 1) := by
      have : g * (q + 1) ≤ 1 * (q + 1) := Int.mul_le_mul_of_nonpos_right (by omega) (by omega)
      rw [Int.mul_add, Int.mul_one, Int.one_mul] at this
      omega
    omega
theorem frN_abs {a b : Int} (hb : b ≠ 0) : (frN a b).natAbs ≤ a.natAbs := ediv_abs (g2_pos hb)
theorem frD_abs {a b : Int} (hb : b ≠ 0) : (frD a b).natAbs ≤ b.natAbs := ediv_abs (g2_pos hb)
theorem mul_pow {x y : Int} {a b : Nat} (ha : x.natAbs < 2 ^ a) (hb : y.natAbs < 2 ^ b) : (x * y).natAbs < 2 ^ (a + b) := by
  rw [Int.natAbs_mul, Nat.pow_add]
  exact Nat.mul_lt_mul'' ha hb
theorem add_pow {x y : Int} {a : Nat} (ha : x.natAbs < 2 ^ a) (hb : y.natAbs < 2 ^ a) : (x + y).natAbs < 2 ^ (a + 1) := by
  rw [Nat.pow_succ]
  omega
theorem sub_pow {x y : Int} {a : Nat} (ha : x.natAbs < 2 ^ a) (hb : y.natAbs < 2 ^ a) : (x - y).natAbs < 2 ^ (a + 1) := by
  rw [Nat.pow_succ]
  omega
theorem up_pow {x : Nat} {a b : Nat} (h : x < 2 ^ a) (l : a ≤ b) : x < 2 ^ b := Nat.lt_of_lt_of_le h (Nat.pow_le_pow_right (by decide) l)
/-- the sign of an int -/
def sg (a : Int) : Int := if 0 < a then 1 else if a < 0 then -1 else 0
theorem sg_frN {a b : Int} (hb : b ≠ 0) : sg (frN a b) = sg a := by
  have g := g2_pos (a := a) hb
  obtain ⟨c, hc⟩ := g2_dvd_l a b
  have e : frN a b = c := by
    unfold frN
    generalize g2 a b = k at *
    subst hc
    exact Int.mul_ediv_cancel_left _ (by omega)
  rw [e]
  generalize g2 a b = k at *
  subst hc
  unfold sg
  have p1 : 0 < k * c ↔ 0 < c := ⟨fun h => Int.pos_of_mul_pos_right h (by omega), fun h => Int.mul_pos g h⟩
  have p2 : k * c < 0 ↔ c < 0 := by
    constructor
    · intro h
      by_cases q : c < 0
      · exact q
      · have := Int.mul_nonneg (Int.le_of_lt g) (show 0 ≤ c by omega)
        omega
    · intro h
      exact Int.mul_neg_of_pos_of_neg g h
  simp only [p1, p2]
end Hw

/-! ### sep.join(reversed(a list of texts)); a sign in a written text -/
namespace HwT
open PySem PySem.Spec PyProof.Rows L2 RT GxR
section
variable {prog : Program} {w : World} {A : Around} {E : Value → Shared → Prop} {s : Shared} {x : Str} {t : Tok} {Q : Value → Shared → Prop}
theorem join_rev {it l : Addr} {items : Array Value} {ys : List Str} (hh : A.handled = none) (hit : s.heap.IsRevIter it l ((items.size : Int) - 1)) (hl : s.heap.IsList l items) (hne : l ≠ it) (hn : items.size ≤ sizeLine)
    (hok : (ys.map (·.length)).sum + ys.length * x.length ≤ 16777216) (hs : ∀ acc : Array Value, ItemsOf (fun i v => items[items.size - 1 - i]? = some v) acc items.size → StrsAre acc.toList ys)
    (h : ∀ (h' : Heap) (k : Nat) (t' : Tok), (∀ b o, b ≠ it → s.heap.get? b = some o → h'.get? b = some o) → Q (.str (Txt.join x ys) t') { s with heap := h', toks := k }) :
    wpAny (model prog w) A (call (.builtin "str.join") [.str x t, .ref it]) Q E s := by
  refine wpAny_call (codeAny_call_builtin F.slot_str_join.plain F.entry_str_join (F.slot_str_join.check _ _ _ _ _ _ _ _ (typeIs_str _ _ _) (F.args_str_join_2 _ _) ?_))
  rw [join_tree_other]
  refine wpAny_bind (wpAny_typeOf hit.typeIs ?_)
  show wpAny _ A.in1 ((pyIter (.ref it)).tryCatch _ >>= fun it => collect it >>= fun items => joinTail x items) _ _ s
  refine wpAny_bind (wpAny_tryCatch (wpAny_pyIter_revIter hit ?_))
  have hh1 : A.in1.handled = none := hh
  refine wpAny_bind (collect_rev (A := A.in1) hh1 hit hl hne hn fun h' tk acc hk hacc => ?_)
  obtain ⟨ls, hv, ht⟩ := strsAre_values (hs acc hacc)
  rw [hv]
  have hok' := joinOk_of hok
  rw [← ht] at hok'
  have hok2 := hok'
  unfold JoinOk at hok2
  rw [Bool.not_eq_true'] at hok2
  have g : Gives (joinTail x (strValues ls)) (joinMade x ls) := by
    have g0 := gives_joinTail x ls hok2
    cases ls with
    | nil => exact g0
    | cons p r => cases r with
      | nil => exact g0
      | cons q r' => exact g0
  refine g prog w A (wants Q E) _ (post_join ls ⟨joinFit_length hok2, fun t' k => ?_⟩)
  rw [ht]
  exact h h' k t' hk
end
section
variable {X : Cx} {o e : Expr} {to te : TE}
def tJoinRev (K : PySem.W.Frag) (to te : TE) : TE := fun σ H Q => to σ H fun v H1 => ∃ sep : Str, v = .str sep ∧ te σ H1 fun u H2 => ∃ (a : Addr) (ys : List Str), u = .ref a ∧ SqL K H2 a (ys.map V.str) ∧ (ys.map (·.length)).sum + ys.length * sep.length ≤ 16777216 ∧ Q (.str (Txt.join sep ys.reverse)) H2
theorem pe_joinRev {p2 apos pos pos2 : Pos} (hc : X.calm = true) (ho : PE X o to) (hg2 : Gl X "reversed") (hm2 : X.mg "reversed" = none) (he : PE X e te)
    (hs : starEach [.Call (.Name "reversed" p2) [e] [] pos2] X.env = [(false, eval (.Call (.Name "reversed" p2) [e] [] pos2) X.env)] := by rfl)
    (hs2 : starEach [e] X.env = (false, eval e X.env) :: starEach [] X.env := by rfl)
    (hbase : attributeBase o "join" X.env (eval o X.env) = eval o X.env := by rfl) (hline : (apos.endLine == pos.line) = true := by rfl) :
    PE X (.Call (.Attribute o "join" apos) [.Call (.Name "reversed" p2) [e] [] pos2] [] pos) (tJoinRev X.K to te) := by
  refine ⟨fun pins s σ H Q I h => ?_⟩
  refine PySem.Call_method1 hbase hs hline (thn (ho.run pins s σ H _ I h) fun v s1 ⟨x, H1, I1, r1, q1⟩ => ?_)
  obtain ⟨sep, rfl, q1⟩ := q1
  obtain ⟨t, rfl⟩ := _root_.id r1
  refine ⟨"str", _, F.plainAttrs_str, F.slot_str_join, F.type_str_join, typeIs_str _ _ _, (fun _ e => nomatch e), Calls.callWith_builtin rfl (Calls.evalArgs_plain (Calls.spliced_cons ?_))⟩
  refine Call_ (ld_blt I1 hg2 hm2 PyProof.Rows.boot_reversed (PyProof.Rows.callWith_type1 (args_cons (thn (he.run pins s1 σ H1 _ I1 q1) fun u s2 ⟨v, H2, I2, r2, q2⟩ => args_nil ?_) hs2) hs2 (by rfl)))
  obtain ⟨a, ys, ev, hq, hz2, q⟩ := q2
  subst ev
  obtain rfl : u = Value.ref a := r2
  obtain ⟨its, rv, p', hz⟩ := I2.list hq
  refine call_reversed_list p'.isList (Calls.spliced_nil ?_)
  have k0 : ∀ b o, s2.heap.get? b = some o → (s2.heap.push (revObj a ((its.toArray.size : Int) - 1))).get? b = some o := fun b o e => Heap.get?_push_of_some _ e
  have I3 : Inv X pins σ H2 { s2 with heap := s2.heap.push (revObj a ((its.toArray.size : Int) - 1)) } := I2.kept (t' := s2.toks) k0
  obtain ⟨f0, f1, f2, f3, f4, f5⟩ := I2.fpOk (H' := H2) (b := s2.heap.objs.size) (Nat.le_refl _) (I2.hok.fresh (Nat.le_refl _))
  have hl := p'.isList
  obtain ⟨ol, hol, _⟩ := _root_.id hl
  have hne : a ≠ s2.heap.objs.size := Nat.ne_of_lt (Heap.lt_size hol)
  have hn : its.toArray.size ≤ sizeLine := by rw [List.size_toArray, ← rv.length]; exact hz
  have e1 : (ys.reverse.map (·.length)).sum = (ys.map (·.length)).sum := by
    rw [List.map_reverse]
    exact List.sum_reverse _
  refine join_rev (s := { s2 with heap := s2.heap.push (revObj a ((its.toArray.size : Int) - 1)) }) (ys := ys.reverse) (I2.ok.hd hc) ⟨_, Heap.get?_push_size _ rfl, rfl, rfl⟩ (hl.push _) hne hn (by rw [e1, List.length_reverse]; exact hz2) (fun acc hi => ?_) fun h' tk t' hk => ?_
  · have := vals_rev rv hi
    rw [← List.map_reverse] at this
    exact strs_of_vals this
  · have I4 : Inv X pins σ H2 { s2 with heap := h', toks := tk } := I3.turned (t' := tk) (fun b o hb e => hk b o hb e) f0 f1 f3 f4 f5
    exact ⟨.str _, H2, I4, ⟨t', rfl⟩, q⟩
theorem elt_in {prog : Program} {w : World} {scope : Scope} {x k : Str} {j : Nat} {p1 p2 p3 : Pos} (hk : scope.kind = .function) (hl : scope.names.lookup x = some .local) (hd : (x == ("__debug__" : Str)) = false := by decide) :
    EltP prog w scope x (.Compare (.Name x p1) [.In] [.Constant (.str k) j p2] p3) (fun c => decide (c ∈ k.cps.toList)) := by
  intro cenv A' E' c t s₂ m₂ hs hn hm
  refine wpAny_Compare1 ?_
  refine wpAny_Name (wpAny_loadName_local (by rw [hs]; exact hk) (show cenv.scope.names.lookup x = some .local by rw [hs]; exact hl) hn hm ?_) hd
  refine Calls.Constant_str ?_
  exact PyProof.Rows.in_str ⟨by rw [PySem.StrLaws.found_one], keeps_tok _ _⟩
end
end HwT

/-! ### operations that the layer lacks -/
namespace HwG
open PySem PySem.Spec PyProof.Rows L2 RZ
theorem tuple_mul1 (l : Addr) (items : Array Value) (n : Nat) (dd : Option Addr) (sl : Array (Option Value)) (x : Int) (u : Tok) (c0 : (decide (x < -(2 ^ 63)) || decide (x ≥ 2 ^ 63)) = false) (c1 : (items.isEmpty || x == 1) = true) :
    Meets (Builtin.«tuple.__mul__» ⟨[.ref l, .int x u], []⟩) (fun _ R s => s.heap.get? l = some { cls := .type "tuple", dict := dd, data := .seq items n, slots := sl } ∧
      R (.ok (.ret (Value.ref l))) s) :=
  .of_wp fun prog w A R s h => by
    obtain ⟨hp, g, d, tk, os⟩ := s
    obtain ⟨hl, h⟩ := h
    have f1 := AutoSeq1.idx_int
    wp_walk using wpAny_loadPart' hl
    repeat (first
      | (refine wpAny_ite_false (decide_eq_false (by rw [c0]; exact Bool.false_ne_true)) ?_; wp_walk using wpAny_loadPart' hl)
      | (refine wpAny_ite_true (decide_eq_true c1) ?_; wp_walk using wpAny_loadPart' hl))
    exact ⟨_, rfl, h⟩
def rRepT1 (K : PySem.W.Frag) : R2 := fun x y H Q => ∃ l xs, x = .ref l ∧ y = .int 1 ∧ SqT K H l xs ∧ Q (.ref l) H
section
variable {X : Cx}
theorem op_repT1 : OpR X (binaryOp .Mult) (rRepT1 X.K) := by
  intro pins s σ H x y v u Q I rx ry h
  obtain ⟨l, xs, rfl, rfl, hT, q⟩ := h
  cases rx
  obtain ⟨t, rfl⟩ := ry
  obtain ⟨its, r, ⟨⟨cls, dd, data, sl⟩, ho, hc, n, hd⟩, hs⟩ := I.tuple hT
  simp only at hc hd
  subst hc hd
  have c0 : (decide ((1 : Int) < -(2 ^ 63)) || decide ((1 : Int) ≥ 2 ^ 63)) = false := by decide
  have c1 : (its.toArray.isEmpty || (1 : Int) == 1) = true := by
    rw [show ((1 : Int) == 1) = true by decide, Bool.or_true]
  exact wpAny_binaryOp_repeat_ref (T := "tuple") (U := "int") (by decide) ⟨_, ho, rfl⟩ (fun s' => typeIs_int s' 1 t) noFill_tuple_mul F.fills_int_mul F.slot_int_rmul repeat_tuple F.slot_int_index.lookup
    (call_meets F.slot_int_rmul (typeIs_int s 1 t) F.entry_int_rmul (F.args_int_rmul_2 _ _) (int_rmul_tuple 1 t l its.toArray n dd sl)
      ⟨ho, rfl, ⟨_, ho, rfl⟩, call_meets F.slot_tuple_mul ⟨_, ho, rfl⟩ F.entry_tuple_mul (F.args_tuple_mul_2 _ _) (tuple_mul1 l its.toArray n dd sl 1 t c0 c1) ⟨ho, .ref l, H, I, rfl, q⟩⟩)
def rRepA (K : PySem.W.Frag) : R2 := fun x y H Q => rRepT K x y H Q ∨ rRepT1 K x y H Q
/-- a tuple times 1 .. 1000 -/
theorem op_repA : OpR X (binaryOp .Mult) (rRepA X.K) := by
  intro pins s σ H x y v u Q I rx ry q
  rcases q with q | q
  · exact op_repT pins s σ H x y v u Q I rx ry q
  · exact op_repT1 pins s σ H x y v u Q I rx ry q
/-- // by a divisor of any sign -/
def CDivA (_ j : Int) : Prop := j ≠ 0 ∧ j.natAbs.log2 < 9000
theorem op_fdivA : OpR X (binaryOp .FloorDiv) (rI CDivA fun i j => .int (i.fdiv j)) := opI fun i j _ _ _ _ _ hc q => floordiv_int hc.1 q (.inl (PyProof.noPylong_of_log2 hc.2))
end
/-- zip of two tuples, walked -/
theorem walk_zipT {K : PySem.W.Frag} {a b : Addr} {xs ys : List V} {n : Nat} (h1 : xs.length = n) (h2 : ys.length = n) : Walk (ItzT K a b) n (fun H => SqT K H a xs ∧ SqT K H b ys) (YPair (fun i => xs[i]?) (fun i => ys[i]?)) :=
  ⟨fun i H hi hG => ⟨xs, ys, xs[i], ys[i], hG.1, hG.2, List.getElem?_eq_getElem (by omega), List.getElem?_eq_getElem (by omega)⟩, fun H hG => ⟨xs, ys, hG.1, hG.2, .inl (by omega)⟩,
    fun i H x H' hi hG y => by
      obtain ⟨T, u, v, e1, e2, e3, e4, e5⟩ := y
      exact ⟨T, u, v, e1, e2, e3, e4 _ hG.1, e5 _ hG.2⟩⟩
end HwG

/-! ### zip of a list or tuple with a list or tuple -/
namespace HwZ
open PySem PySem.Spec PyProof.Rows L2 RZ
/-- at a stands a sequence: a tuple (true) or a list -/
def Sk (K : PySem.W.Frag) (k : Bool) (H : Hp) (a : Addr) (xs : List V) : Prop := match k with
  | true => SqT K H a xs
  | false => SqL K H a xs
def AtK (k : Bool) (h : Heap) (it a : Addr) (i : Nat) : Prop := match k with
  | true => h.IsTupleIter it a i
  | false => h.IsListIter it a i
def SeqK (k : Bool) (h : Heap) (a : Addr) (its : Array Value) : Prop := match k with
  | true => h.IsTuple a its
  | false => h.IsList a its
def begK (k : Bool) (a : Addr) : Obj := match k with
  | true => { cls := .type "tuple_iterator", data := .fields #[.ref a, .int 0 0] }
  | false => { cls := .type "list_iterator", data := .fields #[.ref a, .int 0 0] }
theorem drawsK (k : Bool) {prog : Program} {w : World} {A : Around} (hh : A.handled = none) (it a : Addr) (ne : a ≠ it) (its : Array Value) :
    Draws prog w A it [it, a] its.size (fun i v => its[i]? = some v) (fun i h => AtK k h it a i ∧ SeqK k h a its) := by
  cases k with
  | true => exact Draws.tuple hh it a ne its
  | false => exact Draws.list hh it a ne its
theorem beginsK (k : Bool) (a : Addr) (its : Array Value) : Begins (.ref a) (begK k a) fun h => SeqK k h a its := by
  cases k with
  | true => exact begins_tuple a its
  | false => exact begins_list a its
theorem atK_beg {k : Bool} {h : Heap} {it a : Addr} (e : h.get? it = some (begK k a)) : AtK k h it a 0 := by
  cases k with
  | true => exact ⟨_, e, rfl, rfl⟩
  | false => exact ⟨_, e, rfl, rfl⟩
theorem atK_at {k : Bool} {h h' : Heap} {it a : Addr} {i : Nat} (x : AtK k h it a i) (f : ∀ o, h.get? it = some o → h'.get? it = some o) : AtK k h' it a i := by
  cases k with
  | true => exact Heap.IsTupleIter.at x f
  | false => exact Heap.IsListIter.at x f
theorem atK_obj {k : Bool} {h : Heap} {it a : Addr} {i : Nat} (x : AtK k h it a i) : ∃ o, h.get? it = some o ∧ ∀ v, o.data ≠ .cell v := by
  cases k with
  | true =>
    obtain ⟨o, e, _, d⟩ := x
    exact ⟨o, e, fun v q => by rw [d] at q; cases q⟩
  | false =>
    obtain ⟨o, e, _, d⟩ := x
    exact ⟨o, e, fun v q => by rw [d] at q; cases q⟩
section
variable {X : Cx} {pins : List (Addr × Obj)} {σ : L2.St} {H : Hp} {s : Shared}
theorem sk_read {k : Bool} {a : Addr} {xs : List V} (I : Inv X pins σ H s) (h : Sk X.K k H a xs) : ∃ its : List Value, Vals xs its ∧ SeqK k s.heap a its.toArray := by
  cases k with
  | true =>
    obtain ⟨its, r, p, _⟩ := I.tuple h
    exact ⟨its, r, p⟩
  | false =>
    obtain ⟨its, r, p, _⟩ := I.list h
    exact ⟨its, r, p.isList⟩
theorem sk_inj {k : Bool} {a : Addr} {xs ys : List V} (I : Inv X pins σ H s) (h : Sk X.K k H a xs) (h' : Sk X.K k H a ys) : xs = ys := by
  cases k with
  | true => exact I.tuple_inj h h'
  | false => exact I.list_inj h h'
theorem seqK_lt {k : Bool} {h : Heap} {a : Addr} {its : Array Value} (x : SeqK k h a its) : a < h.objs.size := by
  cases k with
  | true =>
    obtain ⟨o, e, _⟩ := x
    exact Heap.lt_size e
  | false =>
    obtain ⟨o, e, _⟩ := x
    exact Heap.lt_size e
end
/-- what the loop sees: new pairs -/
def ItzK (K : PySem.W.Frag) (k1 k2 : Bool) (a b : Addr) : It :=
  ⟨fun i H => ∃ (xs ys : List V) (x y : V), Sk K k1 H a xs ∧ Sk K k2 H b ys ∧ xs[i]? = some x ∧ ys[i]? = some y,
    fun i H v H' => ∃ T x y, v = .ref T ∧ H T = none ∧ H' = upd H T (.tup [x, y]) ∧ (∀ xs, Sk K k1 H a xs → xs[i]? = some x) ∧ ∀ ys, Sk K k2 H b ys → ys[i]? = some y,
    fun i H => ∃ xs ys : List V, Sk K k1 H a xs ∧ Sk K k2 H b ys ∧ xs.length = i ∧ ys.length = i⟩
/-- the cells of the zip at z -/
structure Cells (z TI TO i1 i2 a b : Addr) : Prop where
  sep : ZipSep2 z TI TO i1 i2 [i1, a] [i2, b]
  ai : a ≠ i1
  bi : b ≠ i2
theorem cells_of (N a b : Nat) (ha : a < N) (hb : b < N) : Cells (N + 4) (N + 2) (N + 3) N (N + 1) a b :=
  ⟨zip_sep2 (fun c h => by rw [List.mem_singleton.mp h]; exact ha) (fun c h => by rw [List.mem_singleton.mp h]; exact hb), show a ≠ N by omega, show b ≠ N + 1 by omega⟩
def Now (k1 k2 : Bool) (z TI TO i1 i2 a b : Addr) (i : Nat) (h : Heap) : Prop := IsZip h z TI TO .none ∧ IsTupOf2 h TI (.ref i1) (.ref i2) ∧ (∃ u v, IsTupOf2 h TO u v) ∧ AtK k1 h i1 a i ∧ AtK k2 h i2 b i
theorem five {z TI TO i1 i2 c : Addr} (h : c ∈ [z, TI, TO, i1, i2]) : c = z ∨ c = TI ∨ c = TO ∨ c = i1 ∨ c = i2 := by simpa using h
theorem turn_zipK {P : Program} {w : World} {K : PySem.W.Frag} {elts : List Expr} {kk : Nat} {tpos : Pos} {k1 k2 : Bool} {a b z TI TO i1 i2 : Addr} (D : Cells z TI TO i1 i2 a b) :
    Turn P w K (.Tuple elts kk tpos) (ItzK K k1 k2 a b) [z, TI, TO, i1, i2] z (Now k1 k2 z TI TO i1 i2 a b) where
  mem := by simp
  obj := fun i h st c hc => by
    obtain ⟨hz, hT, ⟨u, v, hO⟩, h1, h2⟩ := st
    rcases five hc with e | e | e | e | e <;> subst e
    · exact ⟨_, hz, fun v q => nomatch q⟩
    · exact ⟨_, hT, fun v q => nomatch q⟩
    · exact ⟨_, hO, fun v q => nomatch q⟩
    · exact atK_obj h1
    · exact atK_obj h2
  keep := fun i h h' st f => by
    obtain ⟨hz, hT, ⟨u, v, hO⟩, h1, h2⟩ := st
    have g : ∀ c ∈ [z, TI, TO, i1, i2], ∀ o, h.get? c = some o → h'.get? c = some o := f
    exact ⟨g z (by simp) _ hz, g TI (by simp) _ hT, ⟨u, v, g TO (by simp) _ hO⟩, atK_at h1 (g i1 (by simp)), atK_at h2 (g i2 (by simp))⟩
  item := by
    intro X hP hw hK hc i pins s σ H E I hf st go
    subst hP hw hK
    obtain ⟨hz, hT, ⟨u0, v0, hO⟩, h1, h2⟩ := st
    obtain ⟨xs, ys, x, y, qx, qy, ex, ey⟩ := go
    obtain ⟨its, r1, p1⟩ := sk_read I qx
    obtain ⟨jts, r2, p2⟩ := sk_read I qy
    have n1 : i < its.toArray.size := by rw [List.size_toArray, ← r1.length]; exact (List.getElem?_eq_some_iff.mp ex).1
    have n2 : i < jts.toArray.size := by rw [List.size_toArray, ← r2.length]; exact (List.getElem?_eq_some_iff.mp ey).1
    have hd : X.A.in1.handled = none := I.ok.hd hc
    have zlt : z < s.heap.objs.size := Heap.lt_size hz
    refine wpAny_pyNext_zipD2_item D.sep (drawsK k1 hd i1 a D.ai its.toArray) (drawsK k2 hd i2 b D.bi jts.toArray) hz hT hO ⟨h1, p1⟩ ⟨h2, p2⟩ n1 n2 fun u v h' tk eu ev z' O' t1 t2 nT sz kp => ?_
    obtain ⟨u', gu, ru⟩ := r1.get ex
    obtain ⟨v', gv, rv⟩ := r2.get ey
    have euu : u = u' := Option.some.inj (eu.symm.trans (by simpa using gu))
    have evv : v = v' := Option.some.inj (ev.symm.trans (by simpa using gv))
    subst euu evv
    refine ⟨_, rfl, wpAny_letOwnedTupleGo_zip (s := { s with heap := h', toks := tk }) z' fun h2' z2 sb => ?_⟩
    have other : ∀ c, c ≠ z → h2'.get? c = h'.get? c := fun c hc => sb.2 c hc
    have fresh : h2'.get? s.heap.objs.size = some { cls := .type "tuple", data := .seq #[u, v] } := (other _ (Nat.ne_of_gt zlt)).trans nT
    have ob : ObjOk X.prog X.w (upd H s.heap.objs.size (.tup [x, y])) h2' s.heap.objs.size (.tup [x, y]) :=
      ⟨Nat.le_of_lt (small1000 (show 2 ≤ 1000 by decide)), [u, v], .cons ru (.cons rv .nil), ⟨_, fresh, rfl, _, rfl⟩⟩
    have J : Inv X pins σ (upd H s.heap.objs.size (.tup [x, y])) { s with heap := h2', toks := tk } :=
      I.turnedNew (ch := [z, TI, TO, i1, i2]) (fun c o nc q => by
        have m : c ≠ z ∧ c ≠ TO ∧ c ≠ i1 ∧ c ≠ i2 := ⟨fun e => nc (by rw [e]; simp), fun e => nc (by rw [e]; simp), fun e => nc (by rw [e]; simp), fun e => nc (by rw [e]; simp)⟩
        exact (other c m.1).trans (kp c o m.1 m.2.1 m.2.2.1 m.2.2.2 q)) hf (Nat.le_refl _) ob
    have hTI1 : TI ≠ i1 := D.sep.TIi1
    refine ⟨.ref s.heap.objs.size, _, J, rfl, ⟨_, x, y, rfl, I.hok.fresh (Nat.le_refl _), rfl, fun l hl => by rw [sk_inj I hl qx]; exact ex, fun l hl => by rw [sk_inj I hl qy]; exact ey⟩, ⟨z2, ?_, ⟨u, v, ?_⟩, ?_, ?_⟩, fun c hcm => ?_⟩
    · exact (other _ D.sep.TIz).trans (kp _ _ D.sep.TIz D.sep.TITO D.sep.TIi1 D.sep.TIi2 hT)
    · exact (other _ D.sep.TOz).trans O'
    · exact atK_at t1.1 fun o q => (other _ D.sep.zi1.symm).trans q
    · exact atK_at t2.1 fun o q => (other _ D.sep.zi2.symm).trans q
    · have lt : c < s.heap.objs.size := by
        rcases five hcm with e | e | e | e | e <;> subst e
        · exact zlt
        · exact Heap.lt_size hT
        · exact Heap.lt_size hO
        · obtain ⟨o, e, _⟩ := atK_obj h1
          exact Heap.lt_size e
        · obtain ⟨o, e, _⟩ := atK_obj h2
          exact Heap.lt_size e
      rw [upd_ne (Nat.ne_of_lt lt)]
      exact (hf c hcm).1
  done := by
    intro X hP hw hK hc i pins s σ H E I hf st stop
    subst hP hw hK
    obtain ⟨hz, hT, ⟨u0, v0, hO⟩, h1, h2⟩ := st
    obtain ⟨xs, ys, qx, qy, ex, ey⟩ := stop
    obtain ⟨its, r1, p1⟩ := sk_read I qx
    obtain ⟨jts, r2, p2⟩ := sk_read I qy
    have n1 : i = its.toArray.size := by rw [List.size_toArray, ← r1.length]; exact ex.symm
    have n2 : i = jts.toArray.size := by rw [List.size_toArray, ← r2.length]; exact ey.symm
    have hd : X.A.in1.handled = none := I.ok.hd hc
    refine wpAny_pyNext_zipD2_end D.sep (drawsK k1 hd i1 a D.ai its.toArray) (drawsK k2 hd i2 b D.bi jts.toArray) hz hT hO ⟨h1, p1⟩ ⟨h2, p2⟩ (Nat.le_of_eq n1) (Nat.le_of_eq n2) (.inl n1) fun h' tk kp => ⟨rfl, ?_⟩
    exact I.turnedL (ch := [z, TI, TO, i1, i2]) (fun c o nc q => kp c o (fun e => nc (by rw [e]; simp)) (fun e => nc (by rw [e]; simp)) (fun e => nc (by rw [e]; simp)) (fun e => nc (by rw [e]; simp)) q) hf
  self := fun A i s Q E st h => wpAny_pyIter_zip st.1 h
def iZipK (K : PySem.W.Frag) (ta : TA) : TI := fun σ H R => ta σ H fun vs H1 => ∃ k1 k2 a b xs ys, vs = [.ref a, .ref b] ∧ Sk K k1 H1 a xs ∧ Sk K k2 H1 b ys ∧ R (ItzK K k1 k2 a b) H1
set_option maxHeartbeats 600000 in
theorem pi_zipK {X : Cx} {e e2 : Expr} {ta : TA} {p pos tpos : Pos} {elts : List Expr} {kk : Nat} (hg : Gl X "zip") (hm : X.mg "zip" = none) (ha : PA X [e, e2] ta)
    (hs : starEach [e, e2] X.env = (false, eval e X.env) :: starEach [e2] X.env := by rfl) (hpl : (backTo pos (starEach [e2] X.env)).any (·.1) = false := by rfl) :
    PI X (.Tuple elts kk tpos) (.Call (.Name "zip" p) [e, e2] [] pos) (iZipK X.K ta) := by
  constructor
  intro pins s σ H R I h
  refine Call_ (ld_blt I hg hm PyProof.Rows.boot_zip (PyProof.Rows.callWith_type1 (thn (ha.run pos pins s σ H _ I h) fun us s1 ⟨vs, H1, I1, r1, q1⟩ => ?_) hs hpl))
  obtain ⟨k1, k2, a, b, xs, ys, ev, qx, qy, q⟩ := q1
  subst ev
  obtain ⟨u1, u2, rfl, ra, rb⟩ := vals2 r1
  obtain rfl : u1 = Value.ref a := ra
  obtain rfl : u2 = Value.ref b := rb
  obtain ⟨its, _, p1⟩ := sk_read I1 qx
  obtain ⟨jts, _, p2⟩ := sk_read I1 qy
  refine zip_begins2 (beginsK k1 a its.toArray) (beginsK k2 b jts.toArray) p1 p2 fun h' hz hT hO g1 g2 _ kp => wpAny_pyIter_zip hz ?_
  have J : Inv X pins σ H1 { s1 with heap := h' } := I1.kept (t' := s1.toks) kp
  have D := cells_of s1.heap.objs.size a b (seqK_lt p1) (seqK_lt p2)
  have W : Now k1 k2 (s1.heap.objs.size + 4) (s1.heap.objs.size + 2) (s1.heap.objs.size + 3) s1.heap.objs.size (s1.heap.objs.size + 1) a b 0 h' := ⟨hz, hT, ⟨_, _, hO⟩, atK_beg g1, atK_beg g2⟩
  have F : ∀ c ∈ [s1.heap.objs.size + 4, s1.heap.objs.size + 2, s1.heap.objs.size + 3, s1.heap.objs.size, s1.heap.objs.size + 1], FpOk X pins H1 c := fun c hc => by
    have le : s1.heap.objs.size ≤ c := by
      rcases five hc with e | e | e | e | e
      · rw [e]; exact Nat.le_add_right _ _
      · rw [e]; exact Nat.le_add_right _ _
      · rw [e]; exact Nat.le_add_right _ _
      · rw [e]; exact Nat.le_refl _
      · rw [e]; exact Nat.le_add_right _ _
    exact I1.fpOk le (I1.hok.fresh le)
  exact ⟨_, _, _, _, H1, rfl, J, turn_zipK D, W, F, q⟩
theorem walk_zipK {K : PySem.W.Frag} {k1 k2 : Bool} {a b : Addr} {xs ys : List V} {n : Nat} (h1 : xs.length = n) (h2 : ys.length = n) : Walk (ItzK K k1 k2 a b) n (fun H => Sk K k1 H a xs ∧ Sk K k2 H b ys) (YPair (fun i => xs[i]?) (fun i => ys[i]?)) :=
  ⟨fun i H hi g => ⟨xs, ys, xs[i], ys[i], g.1, g.2, List.getElem?_eq_getElem (by omega), List.getElem?_eq_getElem (by omega)⟩, fun H g => ⟨xs, ys, g.1, g.2, h1, h2⟩,
    fun i H x H' _ g y => by
      obtain ⟨T, u, v, e1, e2, e3, e4, e5⟩ := y
      exact ⟨T, u, v, e1, e2, e3, e4 _ g.1, e5 _ g.2⟩⟩
end HwZ

/-! ### any of a tuple of ints; the least common multiple -/
namespace HwA
open PySem PySem.Spec PyProof.Rows L2
section
variable {X : Cx}
theorem any_bools (ns : List Int) : ∀ (bs : List Bool), bs = ns.map (fun n => n != 0) → (List.range ns.length).any (fun i => (ns.map fun n => n != 0).getD i false) = ns.any fun n => n != 0 := fun bs _ => by
  have h := any_range (ns.map fun n => n != 0)
  rw [List.length_map] at h
  rw [h, List.any_map]
  rfl
def rAnyT (K : PySem.W.Frag) : List V → Hp → VK → Prop := fun vs H Q => ∃ (a : Addr) (ns : List Int), vs = [V.ref a] ∧ SqT K H a (ns.map V.int) ∧ Q (.bl (ns.any fun n => n != 0)) H
theorem cr_anyT (hc : X.calm = true) : CallR X (.builtin "any") (rAnyT X.K) := by
  intro pins s σ H vs us Q I r h
  obtain ⟨a, ns, rfl, hs, q⟩ := h
  obtain ⟨its, rv, ht, _⟩ := I.tuple hs
  rw [Vals.ref1 r]
  have it : s.heap.IsTuple a its.toArray := ht
  have lt : a < s.heap.objs.size := by
    obtain ⟨_, e, _⟩ := it
    exact Heap.lt_size e
  refine call_any_walk (wpAny_pyIter_tuple it ⟨s.heap.objs.size, _, _, _, _, _, (fun i => (ns.map fun n => n != 0).getD i false), rfl, Walks.tuple (A := X.A.in1) (I.ok.hd hc) _ a (Nat.ne_of_lt lt) its.toArray, ⟨⟨_, Heap.get?_push_size _ rfl, rfl, rfl⟩, ?_⟩, ?_, fun h' tk hk => ?_⟩)
  · exact it.at fun o e => Heap.get?_push_of_some _ e
  · intro i v s' Q' E' hv hq
    have hv' : its[i]? = some v := by simpa using hv
    have lxs := rv.length
    have hi : i < ns.length := by
      have := (List.getElem?_eq_some_iff.mp hv').1
      rw [List.length_map] at lxs
      omega
    have g : (ns.map V.int)[i]? = some (.int ns[i]) := by
      rw [List.getElem?_map, List.getElem?_eq_getElem hi]
      rfl
    obtain ⟨u, hu, ru⟩ := rv.get g
    obtain ⟨t, eu⟩ := ru
    have ev : v = Value.int ns[i] t := (Option.some.inj (hv'.symm.trans hu)).trans eu
    subst ev
    have e2 : (ns.map fun n => n != 0).getD i false = (ns[i] != 0) := by
      rw [List.getD_eq_getElem?_getD, List.getElem?_map, List.getElem?_eq_getElem hi]
      rfl
    have hq2 : Q' ((ns.map fun n => n != 0).getD i false) s' := hq
    rw [e2] at hq2
    exact truthy_int hq2
  · refine ⟨.bl _, H, I.kept fun b o eo => hk b o (fun m => ?_) (Heap.get?_push_of_some _ eo), ?_, q⟩
    · rcases List.mem_cons.mp m with e1 | m
      · exact absurd (e1 ▸ Heap.lt_size eo) (Nat.lt_irrefl _)
      · cases m
    · show Value.bool _ = Value.bool _
      have l1 := rv.length
      rw [List.length_map] at l1
      rw [List.size_toArray, ← l1, any_bools ns _ rfl]
/-- the least common multiple -/
def rLcm : List V → Hp → VK → Prop := fun vs H Q => ∃ a b : Int, vs = [.int a, .int b] ∧ a.natAbs < 2 ^ 4000 ∧ b.natAbs < 2 ^ 4000 ∧ Q (.int ((Nat.lcm a.natAbs b.natAbs : Nat) : Int)) H
theorem lcm_lim {a b : Nat} (ha : a < 2 ^ 4000) (hb : b < 2 ^ 4000) : Nat.lcm a b < 2 ^ 8000 := by
  have h1 : Nat.lcm a b ≤ a * b := by
    unfold Nat.lcm
    exact Nat.div_le_self _ _
  have h2 : a * b < 2 ^ 4000 * 2 ^ 4000 := Nat.mul_lt_mul'' ha hb
  rw [← Nat.pow_add] at h2
  exact Nat.lt_of_le_of_lt h1 h2
theorem cr_lcm : CallR X (.builtin "math.lcm") rLcm := by
  intro pins s σ H vs us Q I r h
  obtain ⟨a, b, rfl, ha, hb, q⟩ := h
  obtain ⟨t, u, rfl⟩ := Vals.int2 r
  have lg : ∀ n : Nat, n < 2 ^ 4000 → n.log2 < 4000 := fun n hn => PySem.Flt.log2_lt_of (by decide) hn
  have one : (1 : Nat) < 2 ^ 4000 := Nat.one_lt_two_pow (by decide)
  have m1 : (max 1 a.natAbs).log2 < 4000 := lg _ (by rw [Nat.max_lt]; exact ⟨one, ha⟩)
  have m2 : (max a.natAbs b.natAbs).log2 < 4000 := lg _ (by rw [Nat.max_lt]; exact ⟨ha, hb⟩)
  have e : (Nat.lcm 1 a.natAbs).lcm b.natAbs = Nat.lcm a.natAbs b.natAbs := by rw [Nat.lcm_one_left]
  have sz : ((((Nat.lcm 1 a.natAbs).lcm b.natAbs : Nat) : Int)).natAbs.log2 < bitsLine := by
    rw [e, Int.natAbs_natCast]
    have : (Nat.lcm a.natAbs b.natAbs).log2 < 8000 := PySem.Flt.log2_lt_of (by decide) (lcm_lim ha hb)
    have b8 : (8000 : Nat) ≤ bitsLine := by decide
    omega
  refine PySem.call_function_meets PySem.W.MGF.kind_lcm PySem.W.MGF.plain_lcm PySem.W.MGF.entry_lcm (PySem.W.MGF.args_lcm _ _) (PySem.W.mg_run_lcm a t b u (by omega) (by omega) sz).meets ?_
  rw [e]
  exact ⟨.int _, H, I.tok _, ⟨_, rfl⟩, q⟩
end
end HwA

namespace HwP
open PySem PySem.Spec PyProof.Rows L2 Hw
open C8 (pss_cut tCut)
open HwG RZ HwZ HwA HwT GxR RT
def topS (i : Nat) : Stmt := PySem.Challenge.pw_hullwright_k12_whole_values_are_affine.main.body.getD i (.Pass ⟨0, 0, 0, 0⟩)
/-- the built-in names that the text leaves as they are, and gcd -/
structure Glb (mg : Str → Option Value) : Prop where
  m_len : mg "len" = none
  m_range : mg "range" = none
  m_int : mg "int" = none
  m_list : mg "list" = none
  m_tuple : mg "tuple" = none
  m_bool : mg "bool" = none
  m_isinstance : mg "isinstance" = none
  m_abs : mg "abs" = none
  m_sum : mg "sum" = none
  m_zip : mg "zip" = none
  m_str : mg "str" = none
  m_all : mg "all" = none
  m_reversed : mg "reversed" = none
  m_divmod : mg "divmod" = none
  m_gcd : mg "gcd" = some (.builtin "math.gcd")
  m_lcm : mg "lcm" = some (.builtin "math.lcm")
  m_most : ∃ t, mg "MOST_DIGITS" = some (.int 60 t)
/-- what a body that calls a def wants of it -/
structure Call (P : Program) (w : World) (K : PySem.W.Frag) (mg : Str → Option Value) (base : Heap) (k : Nat) (nm : Str) (ps : List Str) (sp : Sp) where
  g : Addr
  gd : FuncData
  G : FnOk P w K mg base CX0 k g gd ps sp
  m : mg nm = some (.ref g)
  kp : PySem.W.keepIn K (.ref g) = true
  b : Binds K gd ps []
section
variable {P : Program} {w : World} {K : PySem.W.Frag} {mg : Str → Option Value} {base : Heap}

/-! ### the law's greatest common divisor -/
abbrev s__law_gcd : Stmt := topS 37
theorem sc__law_gcd : FnScope ["a", "b", "k", "hold"] ["a", "b"] (defScope s__law_gcd) := ⟨rfl, rfl, rfl, by decide +kernel, rfl, by decide +kernel, by decide +kernel⟩
def spGcd : Sp := fun vs H Q _ => ∃ a b : Int, vs = [.int a, .int b] ∧ a.natAbs < 2 ^ 299 ∧ b.natAbs < 2 ^ 299 ∧ Q (.int (g2 a b)) H
theorem abs_of (a : Int) : (if a < 0 then -a else a) = ((a.natAbs : Nat) : Int) := by
  split <;> omega
theorem ok_gcd {f : Addr} {fd : FuncData} {k : Nat} (F : Fun K "_law_gcd" "_law_gcd" s__law_gcd f fd) (Z : Glb mg) : FnOk P w K mg base CX0 (k + 1) f fd ["a", "b"] spGcd := by
  refine F.ok sc__law_gcd (fun vs H Q E h => ?_) (fun cdv A outer s H vs Q E hr h => ?_)
  · obtain ⟨a, b, rfl, _⟩ := h
    rfl
  · obtain ⟨a, b, rfl, ha, hb, q⟩ := h
    refine ⟨_, (pss_cons (ps_set (i := 0) sc__law_gcd.nd rfl (.inl rfl) (pe_callB call_abs (by rfl) Z.m_abs (by decide +kernel) (pa_cons (pv 0) pa_nil)))
      (pss_cons (ps_set (i := 1) sc__law_gcd.nd rfl (.inl rfl) (pe_callB call_abs (by rfl) Z.m_abs (by decide +kernel) (pa_cons (pv 1) pa_nil)))
      (pss_cons (ps_for PassesOwn.never rfl (pi_range1 rfl Z.m_range (pa_cons pe_int pa_nil)) (pg_name (i := 2) sc__law_gcd.nd rfl (.inl rfl)) (pss_cons (ps_if (pt_cmpR op_eq (pv 1) pe_int (nomark _)) (pss_one ps_break) pss_nil)
      (pss_cons (ps_set (i := 3) sc__law_gcd.nd rfl (.inl rfl) (pe_op op_modN (pe_callTy call_int1 (by rfl) Z.m_int (by decide +kernel) (pa_cons (pv 0) pa_nil)) (pv 1)))
      (pss_cons (ps_set (i := 0) sc__law_gcd.nd rfl (.inl rfl) (pv 1))
      (pss_one (ps_set (i := 1) sc__law_gcd.nd rfl (.inl rfl) (pv 3)))))))
      (pss_one (ps_ret (pv 0)))))), ?_⟩
    refine ⟨_, rfl, a, rfl, _, rfl, b, rfl, 600, rfl, by decide, by decide, ?_⟩
    rw [abs_of, abs_of]
    refine for_range (lo := 0) (n := 600) (fun i σ H' => H' = H ∧ ∃ (A B : Nat) (y2 y3 : Option V), σ = [some (.int A), some (.int B), y2, y3] ∧ Nat.gcd A B = Nat.gcd a.natAbs b.natAbs ∧ Fit i A B) ⟨rfl, _, _, _, _, rfl, rfl, fit0 ha hb⟩ (fun i σ H' hi hP => ?_) (fun σ H' hP => ?_)
    · obtain ⟨rfl, A', B', y2, y3, rfl, hg, hf⟩ := hP
      refine ⟨_, rfl, rfl, _, rfl, ite2 (fun e => ?_) (fun e => ?_)⟩
      · have e0 : B' = 0 := by
          have := V.int.inj (of_decide_eq_true e)
          omega
        subst e0
        refine ⟨_, rfl, ?_⟩
        rw [Nat.gcd_zero_right] at hg
        rw [hg]
        exact q
      · have e0 : B' ≠ 0 := fun z => e (by subst z; exact decide_eq_true rfl)
        refine ⟨_, rfl, .inl ⟨_, rfl, _, rfl, _, _, rfl, rfl, by omega, ?_⟩⟩
        have em : ((A' : Int).fmod (B' : Int)) = ((A' % B' : Nat) : Int) := by
          rw [Int.fmod_eq_emod_of_nonneg _ (by omega)]
          rfl
        refine ⟨_, rfl, _, rfl, rfl, B', A' % B', some (.int (0 + (i : Int))), some (.int ((A' % B' : Nat) : Int)), ?_, ?_, fit_step hf e0⟩
        · rw [← em]
          rfl
        · rw [gcd_turn, hg]
    · obtain ⟨rfl, A', B', y2, y3, rfl, hg, hf⟩ := hP
      have e0 := fit_end hf
      subst e0
      rw [Nat.gcd_zero_right] at hg
      refine ⟨_, rfl, ?_⟩
      rw [hg]
      exact q

/-! ### the law's draws: what they leave is told by bounds alone -/
abbrev s__law_spread : Stmt := topS 35
theorem sc__law_spread : FnScope ["cell", "mixed", "total", "k"] ["cell"] (defScope s__law_spread) := ⟨rfl, rfl, rfl, by decide +kernel, rfl, by decide +kernel, by decide +kernel⟩
def spSpread : Sp := fun vs H Q _ => ∃ c : Int, vs = [.int c] ∧ ∀ t : Int, Q (.int t) H
theorem ok_spread {f : Addr} {fd : FuncData} {k : Nat} (F : Fun K "_law_spread" "_law_spread" s__law_spread f fd) (Z : Glb mg) : FnOk P w K mg base CX0 (k + 1) f fd ["cell"] spSpread := by
  refine F.ok sc__law_spread (fun vs H Q E h => ?_) (fun cdv A outer s H vs Q E hr h => ?_)
  · obtain ⟨c, rfl, _⟩ := h
    rfl
  · obtain ⟨c, rfl, q⟩ := h
    refine ⟨_, (pss_cons (ps_set (i := 1) sc__law_spread.nd rfl (.inl rfl) (pe_op op_modN (pe_callTy call_int1 (by rfl) Z.m_int (by decide +kernel) (pa_cons (pv 0) pa_nil)) pe_int))
      (pss_cons (ps_set (i := 2) sc__law_spread.nd rfl (.inl rfl) pe_int)
      (pss_cons (ps_for PassesOwn.never rfl (pi_range1 rfl Z.m_range (pa_cons pe_int pa_nil)) (pg_name (i := 3) sc__law_spread.nd rfl (.inl rfl)) (pss_cons (ps_set (i := 1) sc__law_spread.nd rfl (.inl rfl) (pe_op op_modN (pe_callTy call_int1 (by rfl) Z.m_int (by decide +kernel) (pa_cons (pe_op op_add (pe_op op_add (pe_op op_mul (pv 1) pe_int) pe_int) (pv 3)) pa_nil)) pe_int))
      (pss_one (ps_set (i := 2) sc__law_spread.nd rfl (.inl rfl) (pe_op op_add (pe_op op_mul (pv 2) pe_int) (pv 1))))))
      (pss_one (ps_ret (pv 2)))))), ?_⟩
    refine ⟨_, rfl, .inl ⟨_, rfl, _, _, rfl, rfl, (by show (2147483647 : Int) ≠ 0; decide), 4, rfl, by decide, by decide, ?_⟩⟩
    refine for_range (lo := 0) (n := 4) (fun i σ H' => H' = H ∧ ∃ (m t : Int) (y3 : Option V), σ = [some (.int c), some (.int m), some (.int t), y3]) ⟨rfl, _, _, _, rfl⟩ (fun i σ H' hi hP => ?_) (fun σ H' hP => ?_)
    · obtain ⟨rfl, m, t, y3, rfl⟩ := hP
      refine ⟨_, rfl, _, _, rfl, rfl, .inr ⟨by decide, by decide⟩, _, _, rfl, rfl, _, rfl, _, _, rfl, rfl, .inl ⟨_, rfl, _, _, rfl, rfl, (by show (2147483647 : Int) ≠ 0; decide), ?_⟩⟩
      exact ⟨_, rfl, _, _, rfl, rfl, .inr ⟨by decide, by decide⟩, _, rfl, _, _, rfl, rfl, rfl, _, _, _, rfl⟩
    · obtain ⟨rfl, m, t, y3, rfl⟩ := hP
      exact ⟨_, rfl, q t⟩
/-- a pool: its script's ints, then four ints -/
def Pl (H : Hp) (p : Addr) : Prop := ∃ (q : Addr) (ns : List Int) (a : Nat) (b c d : Int), H p = some (.lst [.ref q, .int a, .int b, .int c, .int d]) ∧ H q = some (.lst (ns.map V.int)) ∧ q ≠ p
/-- the head of the list at p -/
def Hd (H : Hp) (p q : Addr) : Prop := ∃ l, H p = some (.lst (.ref q :: l))
/-- all but p is as it was, and p has its head -/
def But (p : Addr) (H H' : Hp) : Prop := (∀ x, x ≠ p → H' x = H x) ∧ ∀ q, Hd H p q → Hd H' p q
theorem But.refl (p : Addr) (H : Hp) : But p H H := ⟨fun _ _ => rfl, fun _ h => h⟩
theorem But.trans {p : Addr} {H H1 H2 : Hp} (a : But p H H1) (b : But p H1 H2) : But p H H2 := ⟨fun x h => (b.1 x h).trans (a.1 x h), fun q h => b.2 q (a.2 q h)⟩
theorem But.upd {p q : Addr} {H : Hp} {l l' : List V} (hp : H p = some (.lst (.ref q :: l))) : But p H (upd H p (.lst (.ref q :: l'))) :=
  ⟨fun _ h => upd_ne h, fun q' h => by
    obtain ⟨l2, e⟩ := h
    have := hp.symm.trans e
    injection this with this
    injection this with this
    injection this with this
    injection this with this
    subst this
    exact ⟨l', upd_same⟩⟩
theorem pl_upd {H : Hp} {p q : Addr} {ns : List Int} (a : Nat) (b c d : Int) (hq : H q = some (.lst (ns.map V.int))) (ne : q ≠ p) : Pl (upd H p (.lst [.ref q, .int a, .int b, .int c, .int d])) p :=
  ⟨q, ns, a, b, c, d, upd_same, by rw [upd_ne ne]; exact hq, ne⟩
abbrev s__law_draw : Stmt := topS 36
theorem sc__law_draw : FnScope ["pool", "many", "cell", "mixed", "value"] ["pool", "many"] (defScope s__law_draw) := ⟨rfl, rfl, rfl, by decide +kernel, rfl, by decide +kernel, by decide +kernel⟩
def spDraw : Sp := fun vs H Q _ => ∃ (p : Addr) (m : Int), vs = [.ref p, .int m] ∧ 0 < m ∧ m.natAbs < 2 ^ 8000 ∧ Pl H p ∧ ∀ (v : Int) (H' : Hp), 0 ≤ v → v < m → Pl H' p → But p H H' → Q (.int v) H'
theorem ok_draw {f : Addr} {fd : FuncData} {k : Nat} (F : Fun K "_law_draw" "_law_draw" s__law_draw f fd) (Z : Glb mg)
    (C_law_spread : Call P w K mg base k "_law_spread" ["cell"] spSpread) : FnOk P w K mg base CX0 (k + 1) f fd ["pool", "many"] spDraw := by
  refine F.ok sc__law_draw (fun vs H Q E h => ?_) (fun cdv A outer s H vs Q E hr h => ?_)
  · obtain ⟨p, m, rfl, _⟩ := h
    rfl
  · obtain ⟨p, m, rfl, hm, hb, hP, q⟩ := h
    refine ⟨_, (pss_cut (ps_if (PW.pt (pw_and (pt_cmpR op_le (pe_ix (r := rIxL K) ix_list (pv 0) pe_int (fun _ _ => rfl)) pe_int (nomark _)) (pw_and1 (pt_cmpR op_lt (pe_ix (r := rIxL K) ix_list (pv 0) pe_int (fun _ _ => rfl)) (pe_callB call_len_seq (by rfl) Z.m_len PySem.boot_len (pa_cons (pe_ix (r := rIxL K) ix_list (pv 0) pe_int (fun _ _ => rfl)) pa_nil)) (nomark _))))) (pss_cons (ps_set (i := 2) sc__law_draw.nd rfl (.inl rfl) (pe_ix (r := rIxL K) ix_list (pe_ix (r := rIxL K) ix_list (pv 0) pe_int (fun _ _ => rfl)) (pe_ix (r := rIxL K) ix_list (pv 0) pe_int (fun _ _ => rfl)) (fun _ _ => rfl)))
      (pss_cons (ps_asg (pe_op op_add (pe_ix (r := rIxL K) ix_list (pv 0) pe_int (fun _ _ => rfl)) pe_int) (pg_sub (pv 0) pe_int set_list))
      (pss_cons (ps_asg (pv 2) (pg_sub (pv 0) pe_int set_list))
      (pss_one (ps_if (pt_cmpR op_lt (pv 2) pe_int (nomark _)) (pss_one (ps_asg (pe_call C_law_spread.G hr (by rfl) C_law_spread.m C_law_spread.kp C_law_spread.b .nil pass0 (pa_cons (pv 2) pa_nil)) (pg_sub (pv 0) pe_int set_list))) pss_nil))))) pss_nil)
      (pss_cons (ps_asg (pe_op op_add (pe_ix (r := rIxL K) ix_list (pv 0) pe_int (fun _ _ => rfl)) pe_int) (pg_sub (pv 0) pe_int set_list))
      (pss_cons (ps_if (pt_cmpR op_le (pe_ix (r := rIxL K) ix_list (pv 0) pe_int (fun _ _ => rfl)) pe_int (nomark _)) (pss_cons (ps_set (i := 3) sc__law_draw.nd rfl (.inl rfl) (pe_op op_modN (pe_callTy call_int1 (by rfl) Z.m_int (by decide +kernel) (pa_cons (pe_op op_add (pe_op op_add (pe_op op_mul (pe_ix (r := rIxL K) ix_list (pv 0) pe_int (fun _ _ => rfl)) pe_int) (pe_op op_mul (pe_ix (r := rIxL K) ix_list (pv 0) pe_int (fun _ _ => rfl)) pe_int)) pe_int) pa_nil)) pe_int))
      (pss_cons (ps_set (i := 3) sc__law_draw.nd rfl (.inl rfl) (pe_op op_modN (pe_callTy call_int1 (by rfl) Z.m_int (by decide +kernel) (pa_cons (pe_op op_add (pe_op op_mul (pv 3) pe_int) (pe_ix (r := rIxL K) ix_list (pv 0) pe_int (fun _ _ => rfl))) pa_nil)) pe_int))
      (pss_one (ps_ret (pe_op op_modN (pe_op op_fdivN (pv 3) pe_int) (pv 1)))))) pss_nil)
      (pss_cons (ps_set (i := 4) sc__law_draw.nd rfl (.inl rfl) (pe_op op_modN (pe_callTy call_int1 (by rfl) Z.m_int (by decide +kernel) (pa_cons (pe_ix (r := rIxL K) ix_list (pv 0) pe_int (fun _ _ => rfl)) pa_nil)) (pv 1)))
      (pss_cons (ps_asg (pe_op op_fdivW (pe_ix (r := rIxL K) ix_list (pv 0) pe_int (fun _ _ => rfl)) (pv 1)) (pg_sub (pv 0) pe_int set_list))
      (pss_one (ps_ret (pv 4)))))))), ?_⟩
    refine ⟨fun σ H' => ∃ y2 : Option V, σ = [some (.ref p), some (.int m), y2, none, none] ∧ Pl H' p ∧ But p H H', ?_, ?_⟩
    · obtain ⟨q', ns, a, b, c, d, hp, hq, ne⟩ := hP
      refine ⟨_, rfl, _, _, _, _, rfl, rfl, SqL.of hp, atI_nat (j := 2) rfl, _, _, rfl, rfl, _, rfl, ite2 (fun e1 => ?_) (fun e1 => ?_)⟩
      · refine ⟨_, rfl, _, _, _, _, rfl, rfl, SqL.of hp, atI_nat (j := 1) rfl, _, rfl, _, _, _, _, rfl, rfl, SqL.of hp, atI_nat (j := 0) rfl, _, _, rfl, .inl (SqL.of hq), _, _, rfl, rfl, _, rfl, ite2 (fun e2 => ?_) (fun e2 => ?_)⟩
        · have e3 : a < ns.length := by
            have := of_decide_eq_true e2
            rw [List.length_map] at this
            omega
          have g1 : (ns.map V.int)[a]? = some (.int ns[a]) := by
            rw [List.getElem?_map, List.getElem?_eq_getElem e3]
            rfl
          -- cell = pool[0][pool[1]]
          refine ⟨_, rfl, _, _, _, _, rfl, rfl, SqL.of hp, atI_nat (j := 0) rfl, _, rfl, _, _, _, _, rfl, rfl, SqL.of hp, atI_nat (j := 1) rfl, _, _, _, _, rfl, rfl, SqL.of hq, atI_nat g1, ?_⟩
          -- pool[1] = pool[1] + 1
          refine ⟨_, rfl, _, _, _, _, rfl, rfl, SqL.of hp, atI_nat (j := 1) rfl, _, _, rfl, rfl, _, rfl, _, _, _, 1, rfl, rfl, hp, rfl, ?_⟩
          -- pool[2] = cell
          refine ⟨_, rfl, _, rfl, _, _, _, 2, rfl, rfl, upd_same, rfl, ?_⟩
          rw [upd_upd]
          refine ⟨_, rfl, _, _, rfl, rfl, _, rfl, ite2 (fun e4 => ?_) (fun e4 => ?_)⟩
          · refine ⟨_, rfl, _, rfl, fun t => ⟨_, rfl, _, _, _, 2, rfl, rfl, upd_same, rfl, ?_⟩⟩
            rw [upd_upd]
            exact ⟨some (.int ns[a]), rfl, pl_upd (a + 1) t c d hq ne, (But.upd hp)⟩
          · exact ⟨some (.int ns[a]), rfl, pl_upd (a + 1) ns[a] c d hq ne, (But.upd hp)⟩
        · exact ⟨none, rfl, ⟨q', ns, a, b, c, d, hp, hq, ne⟩, But.refl _ _⟩
      · exact iteF ⟨none, rfl, ⟨q', ns, a, b, c, d, hp, hq, ne⟩, But.refl _ _⟩
    · intro σ H1 hW
      obtain ⟨y2, rfl, ⟨q', ns, a, b, c, d, hp, hq, ne⟩, hB⟩ := hW
      -- pool[3] = pool[3] + 1
      refine ⟨_, rfl, _, _, _, _, rfl, rfl, SqL.of hp, atI_nat (j := 3) rfl, _, _, rfl, rfl, _, rfl, _, _, _, 3, rfl, rfl, hp, rfl, ?_⟩
      have h0 : (upd H1 p (.lst [.ref q', .int a, .int b, .int (c + 1), .int d])) p = some (.lst [.ref q', .int a, .int b, .int (c + 1), .int d]) := upd_same
      refine ⟨_, rfl, _, _, _, _, rfl, rfl, SqL.of h0, atI_nat (j := 2) rfl, _, _, rfl, rfl, _, rfl, ite2 (fun e1 => ?_) (fun e1 => ?_)⟩
      · refine ⟨_, rfl, _, _, _, _, rfl, rfl, SqL.of h0, atI_nat (j := 4) rfl, _, _, rfl, rfl, .inr ⟨by decide, by decide⟩, _, rfl, _, _, _, _, rfl, rfl, SqL.of h0, atI_nat (j := 3) rfl, _, _, rfl, rfl, .inr ⟨by decide, by decide⟩, _, _, rfl, rfl, _, _, rfl, rfl, .inl ⟨_, rfl, _, _, rfl, rfl, (by show (2147483647 : Int) ≠ 0; decide), ?_⟩⟩
        refine ⟨_, rfl, _, _, rfl, rfl, .inr ⟨by decide, by decide⟩, _, rfl, _, _, _, _, rfl, rfl, SqL.of h0, atI_nat (j := 3) rfl, _, _, rfl, rfl, .inl ⟨_, rfl, _, _, rfl, rfl, (by show (2147483629 : Int) ≠ 0; decide), ?_⟩⟩
        refine ⟨_, rfl, _, _, rfl, rfl, ⟨by decide, by decide⟩, _, rfl, _, _, rfl, rfl, (by show m ≠ 0; omega), ?_⟩
        exact q _ _ (Int.fmod_nonneg_of_pos _ hm) (Int.fmod_lt_of_pos _ hm) (pl_upd a b (c + 1) d hq ne) (hB.trans (But.upd hp))
      · refine ⟨_, rfl, _, _, _, _, rfl, rfl, SqL.of h0, atI_nat (j := 2) rfl, .inl ⟨_, rfl, _, rfl, _, _, rfl, rfl, (by show m ≠ 0; omega), ?_⟩⟩
        refine ⟨_, rfl, _, _, _, _, rfl, rfl, SqL.of h0, atI_nat (j := 2) rfl, _, rfl, _, _, rfl, rfl, wide_div hm hb (by decide) (by decide), _, rfl, _, _, _, 2, rfl, rfl, h0, rfl, ?_⟩
        rw [upd_upd]
        refine ⟨_, rfl, ?_⟩
        exact q _ _ (Int.fmod_nonneg_of_pos _ hm) (Int.fmod_lt_of_pos _ hm) (pl_upd a _ (c + 1) d hq ne) (hB.trans (But.upd hp))

/-! ### the law's pool -/
abbrev s__law_pool : Stmt := topS 34
theorem sc__law_pool : FnScope ["script", "salt", "cell"] ["script"] (defScope s__law_pool) := ⟨rfl, rfl, rfl, by decide +kernel, rfl, by decide +kernel, by decide +kernel⟩
theorem same_upd {H : Hp} {p : Addr} {o : HO} (h : H p = none) : Same H (upd H p o) := fun b x e => by
  rw [upd_ne (ne_of_none e h)]
  exact e
theorem cut_int {ns : List Int} {lo hi : Option Int} {i : Nat} {x : V} (h : (cutV (ns.map V.int) lo hi)[i]? = some x) : ∃ n : Int, x = .int n := by
  have m := List.mem_of_getElem? h
  unfold cutV at m
  have m2 := List.mem_of_mem_drop (List.mem_of_mem_take m)
  obtain ⟨n, _, e⟩ := List.mem_map.mp m2
  exact ⟨n, e.symm⟩
def spPool (K : PySem.W.Frag) : Sp := fun vs H Q _ => ∃ (a : Addr) (ns : List Int), vs = [.ref a] ∧ SqL K H a (ns.map V.int) ∧ ∀ (H' : Hp) (p : Addr), Same H H' → H p = none → Pl H' p → Q (.ref p) H'
theorem ok_pool {f : Addr} {fd : FuncData} {k : Nat} (F : Fun K "_law_pool" "_law_pool" s__law_pool f fd) (Z : Glb mg) : FnOk P w K mg base CX0 (k + 1) f fd ["script"] (spPool K) := by
  refine F.ok sc__law_pool (fun vs H Q E h => ?_) (fun cdv A outer s H vs Q E hr h => ?_)
  · obtain ⟨a, ns, rfl, _⟩ := h
    rfl
  · obtain ⟨a, ns, rfl, hS, q⟩ := h
    refine ⟨_, (pss_cons (ps_set (i := 1) sc__law_pool.nd rfl (.inl rfl) pe_int)
      (pss_cons (ps_for PassesOwn.never rfl (pi_list (pe_slice (r := rSlL K) sl_list (pv 0) po_none (po_some pe_int))) (pg_name (i := 2) sc__law_pool.nd rfl (.inl rfl)) (pss_one (ps_set (i := 1) sc__law_pool.nd rfl (.inl rfl) (pe_op op_modN (pe_callTy call_int1 (by rfl) Z.m_int (by decide +kernel) (pa_cons (pe_op op_add (pe_op op_mul (pv 1) pe_int) (pv 2)) pa_nil)) pe_int))))
      (pss_one (ps_ret (pe_lst (pa_cons (pe_callTy call_list_of (by rfl) Z.m_list (by decide +kernel) (pa_cons (pv 0) pa_nil)) (pa_cons pe_int (pa_cons pe_int (pa_cons pe_int (pa_cons (pv 1) pa_nil)))))))))), ?_⟩
    refine ⟨_, rfl, _, rfl, a, ns.map V.int, rfl, hS, fun c nc => ?_⟩
    have s1 : Same H (upd H c (.lst (cutV (ns.map V.int) none (some 63)))) := same_upd nc
    refine ⟨c, rfl, ⟨_, SqL.of upd_same⟩, ?_⟩
    refine for_list (xs := cutV (ns.map V.int) none (some 63)) (fun i σ H' => H' = upd H c (.lst (cutV (ns.map V.int) none (some 63))) ∧ ∃ (m : Int) (y2 : Option V), σ = [some (.ref a), some (.int m), y2]) ⟨rfl, _, _, rfl⟩ (fun i σ H' _ hP => by obtain ⟨rfl, _⟩ := hP; exact SqL.of upd_same) (fun i x σ H' hx hP => ?_) (fun σ H' hP => ?_)
    · obtain ⟨rfl, m, y2, rfl⟩ := hP
      obtain ⟨n, rfl⟩ := cut_int hx
      exact ⟨_, rfl, _, _, rfl, rfl, .inr ⟨by decide, by decide⟩, _, rfl, _, _, rfl, rfl, .inl ⟨_, rfl, _, _, rfl, rfl, (by show (1000003 : Int) ≠ 0; decide), rfl, _, _, rfl⟩⟩
    · obtain ⟨rfl, m, y2, rfl⟩ := hP
      refine ⟨_, rfl, a, ns.map V.int, rfl, .inl (s1.seq hS), fun l nl => ⟨_, rfl, ?_, fun p np => ?_⟩⟩
      · exact Nat.le_of_lt (small1000 (show 5 ≤ 1000 by decide))
      · have s2 : Same (upd H c (.lst (cutV (ns.map V.int) none (some 63)))) (upd (upd H c (.lst (cutV (ns.map V.int) none (some 63)))) l (.lst (ns.map V.int))) := same_upd nl
        have lp : l ≠ p := ne_of_none upd_same np
        refine q _ _ ((s1.trans s2).trans (same_upd np)) ((s1.trans s2).free np) ⟨l, ns, 0, 0, 0, m, upd_same, ?_, lp⟩
        rw [upd_ne lp]
        exact upd_same

/-! ### the law's comparison of two answers: alike data is told to be the same -/
inductive Alike (H : Hp) : Nat → V → V → Prop where
  | int (n : Nat) (i : Int) : Alike H n (.int i) (.int i)
  | bl (n : Nat) (b : Bool) : Alike H n (.bl b) (.bl b)
  | non (n : Nat) : Alike H n .non .non
  | tup {n : Nat} {a b : Addr} {xs ys : List V} (ha : H a = some (.tup xs)) (hb : H b = some (.tup ys)) (hl : xs.length = ys.length) (hm : xs.length ≤ 1000000) (h : ∀ (i : Nat) (x y : V), xs[i]? = some x → ys[i]? = some y → Alike H n x y) : Alike H (n + 1) (.ref a) (.ref b)
  | lst {n : Nat} {a b : Addr} {xs ys : List V} (ha : H a = some (.lst xs)) (hb : H b = some (.lst ys)) (hl : xs.length = ys.length) (hm : xs.length ≤ 1000000) (h : ∀ (i : Nat) (x y : V), xs[i]? = some x → ys[i]? = some y → Alike H n x y) : Alike H (n + 1) (.ref a) (.ref b)

/-- all but p is as it was, and there may be more -/
def Keep (p : Addr) (H H' : Hp) : Prop := ∀ x o, x ≠ p → H x = some o → H' x = some o
theorem But.keep {p : Addr} {H H' : Hp} (h : But p H H') : Keep p H H' := fun x o n e => (h.1 x n).trans e
theorem Keep.trans {p : Addr} {H H1 H2 : Hp} (a : Keep p H H1) (b : Keep p H1 H2) : Keep p H H2 := fun x o n e => b x o n (a x o n e)
theorem Keep.refl (p : Addr) (H : Hp) : Keep p H H := fun _ _ _ e => e
theorem Same.keep {p : Addr} {H H' : Hp} (h : Same H H') : Keep p H H' := fun x o _ e => h x o e
theorem Pl.lst {H : Hp} {p : Addr} (h : Pl H p) : ∃ xs, H p = some (.lst xs) := by
  obtain ⟨q, ns, a, b, c, d, e, _⟩ := h
  exact ⟨_, e⟩
theorem Pl.ne {H : Hp} {p x : Addr} {ys : List V} (h : Pl H p) (hx : H x = some (.tup ys)) : x ≠ p := by
  obtain ⟨xs, e⟩ := h.lst
  exact ne_of hx e (fun z => nomatch z)
theorem Pl.same {H H' : Hp} {p : Addr} (h : Pl H p) (s : Same H H') : Pl H' p := by
  obtain ⟨q, ns, a, b, c, d, e, e2, n⟩ := h
  exact ⟨q, ns, a, b, c, d, s _ _ e, s _ _ e2, n⟩
/-- a pool whose list stands at q -/
def Plq (H : Hp) (p q : Addr) : Prop := ∃ (ns : List Int) (a : Nat) (b c d : Int), H p = some (.lst [.ref q, .int a, .int b, .int c, .int d]) ∧ H q = some (.lst (ns.map V.int)) ∧ q ≠ p
theorem Pl.q {H : Hp} {p : Addr} (h : Pl H p) : ∃ q, Plq H p q := h
theorem Plq.pl {H : Hp} {p q : Addr} (h : Plq H p q) : Pl H p := ⟨q, h⟩
theorem Plq.but {H H' : Hp} {p q : Addr} (h : Plq H p q) (hB : But p H H') (h' : Pl H' p) : Plq H' p q := by
  obtain ⟨ns, a, b, c, d, e, e2, n⟩ := h
  obtain ⟨l, hl⟩ := hB.2 q ⟨_, e⟩
  obtain ⟨q2, ns2, a2, b2, c2, d2, f, f2, n2⟩ := h'
  have := hl.symm.trans f
  injection this with this
  injection this with this
  injection this with this
  injection this with this
  subst this
  exact ⟨ns2, a2, b2, c2, d2, f, f2, n2⟩
theorem Plq.upd {H : Hp} {p q D : Addr} {o : HO} (h : Plq H p q) (h1 : p ≠ D) (h2 : q ≠ D) : Plq (upd H D o) p q := by
  obtain ⟨ns, a, b, c, d, e, e2, n⟩ := h
  exact ⟨ns, a, b, c, d, by rw [upd_ne h1]; exact e, by rw [upd_ne h2]; exact e2, n⟩
theorem Plq.same {H H' : Hp} {p q : Addr} (h : Plq H p q) (s : Same H H') : Plq H' p q := by
  obtain ⟨ns, a, b, c, d, e, e2, n⟩ := h
  exact ⟨ns, a, b, c, d, s _ _ e, s _ _ e2, n⟩
theorem Plq.ne_free {H : Hp} {p q D : Addr} (h : Plq H p q) (n : H D = none) : p ≠ D ∧ q ≠ D := by
  obtain ⟨ns, a, b, c, d, e, e2, _⟩ := h
  exact ⟨ne_of_none e n, ne_of_none e2 n⟩

theorem cmul {x y : Int} {a b : Nat} (ha : x.natAbs < 2 ^ a) (hb : y.natAbs < 2 ^ b) (h0 : 0 < a := by decide) (h1 : 0 < b := by decide) (h : a + b ≤ 1000000 := by decide) : CMulW x y := wide_mul ha hb h0 h1 h

/-! ### vectors: tuples of ints -/
/-- the greatest common divisor of a list -/
def gl (ns : List Int) : Int := ns.foldl g2 0
theorem g2_max {c x : Int} {B : Nat} (hc : c.natAbs < B) (hx : x.natAbs < B) : (g2 c x).natAbs < B := by
  by_cases h : x = 0
  · subst h
    unfold g2
    rw [show (0 : Int).natAbs = 0 from rfl, Nat.gcd_zero_right]
    omega
  · exact Nat.lt_of_le_of_lt (g2_le h) hx
theorem g2_nn (a b : Int) : 0 ≤ g2 a b := by
  unfold g2
  omega
theorem gl_step {ns : List Int} {i : Nat} {x : Int} (h : ns[i]? = some x) : gl (ns.take (i + 1)) = g2 (gl (ns.take i)) x := by
  unfold gl
  rw [List.take_add_one, h, List.foldl_append]
  rfl
theorem gl_lim {ns : List Int} {B : Nat} (h0 : 0 < B) (h : ∀ n ∈ ns, n.natAbs < B) : (gl ns).natAbs < B := by
  unfold gl
  have : ∀ (l : List Int) (c : Int), c.natAbs < B → (∀ n ∈ l, n.natAbs < B) → (l.foldl g2 c).natAbs < B := by
    intro l
    induction l with
    | nil => intro c hc _; exact hc
    | cons x r ih =>
      intro c hc hl
      exact ih _ (g2_max hc (hl x List.mem_cons_self)) fun n hn => hl n (List.mem_cons_of_mem _ hn)
  exact this ns 0 (by show 0 < B; exact h0) h
theorem gl_nn (ns : List Int) : 0 ≤ gl ns := by
  unfold gl
  have : ∀ (l : List Int) (c : Int), 0 ≤ c → 0 ≤ l.foldl g2 c := by
    intro l
    induction l with
    | nil => intro c hc; exact hc
    | cons x r ih => intro c _; exact ih _ (g2_nn _ _)
  exact this ns 0 (Int.le_refl 0)
theorem gl_take_lim {ns : List Int} {B i : Nat} (h0 : 0 < B) (h : ∀ n ∈ ns, n.natAbs < B) : (gl (ns.take i)).natAbs < B := gl_lim h0 fun n hn => h n (List.mem_of_mem_take hn)
def prim (ns : List Int) : List Int := if gl ns = 0 then ns else ns.map (· / gl ns)
def dotz (ns ms : List Int) : List Int := (ns.zip ms).map fun p => p.1 * p.2
theorem prim_len (ns : List Int) : (prim ns).length = ns.length := by
  unfold prim
  split
  · rfl
  · rw [List.length_map]
theorem map_get {ns : List Int} {i : Nat} {x : V} (h : (ns.map V.int)[i]? = some x) : ∃ n, ns[i]? = some n ∧ x = .int n := by
  rw [List.getElem?_map] at h
  cases e : ns[i]? with
  | none => rw [e] at h; cases h
  | some n => rw [e] at h; exact ⟨n, rfl, (Option.some.inj h).symm⟩
theorem get_map {ns : List Int} {i : Nat} {n : Int} (h : ns[i]? = some n) : (ns.map V.int)[i]? = some (.int n) := by
  rw [List.getElem?_map, h]
  rfl
theorem lt_of_get {α : Type} {xs : List α} {i : Nat} {x : α} (h : xs[i]? = some x) : i < xs.length := (List.getElem?_eq_some_iff.mp h).1
/-- the vector at a -/
def Vc (H : Hp) (a : Addr) (ns : List Int) : Prop := H a = some (.tup (ns.map V.int))
theorem vc_alike {H : Hp} {a b : Addr} {ns : List Int} (n : Nat) (ha : Vc H a ns) (hb : Vc H b ns) (hl : ns.length ≤ 1000) : Alike H (n + 1) (.ref a) (.ref b) :=
  .tup ha hb rfl (by rw [List.length_map]; omega) fun i x y h1 h2 => by
    have e := Option.some.inj (h1.symm.trans h2)
    subst e
    obtain ⟨m, _, rfl⟩ := map_get h1
    exact .int n m
theorem Vc.ne {H : Hp} {p a : Addr} {ns : List Int} (h : Vc H a ns) (hp : Pl H p) : a ≠ p := hp.ne h
theorem Vc.keep {H H' : Hp} {p a : Addr} {ns : List Int} (h : Vc H a ns) (hp : Pl H p) (k : Keep p H H') : Vc H' a ns := k _ _ (h.ne hp) h
theorem Vc.same {H H' : Hp} {a : Addr} {ns : List Int} (h : Vc H a ns) (k : Same H H') : Vc H' a ns := k _ _ h
theorem dotz_get {ns ms : List Int} {i : Nat} {x y : Int} (h1 : ns[i]? = some x) (h2 : ms[i]? = some y) : (dotz ns ms)[i]? = some (x * y) := by
  unfold dotz
  rw [List.getElem?_map, List.getElem?_zip_eq_some (z := (x, y)) |>.mpr ⟨h1, h2⟩]
  rfl
theorem dotz_len {ns ms : List Int} (h : ns.length = ms.length) : (dotz ns ms).length = ns.length := by
  unfold dotz
  rw [List.length_map, List.length_zip, h, Nat.min_self]
theorem take_get {α : Type} {xs : List α} {i : Nat} {x : α} (h : xs[i]? = some x) : xs.take (i + 1) = xs.take i ++ [x] := by
  rw [List.take_add_one, h]
  rfl

/-! ### walks of a list or a tuple -/
section
variable {X : Cx}
theorem PI.or {tg iter : Expr} {w1 w2 : TI} (h1 : PI X tg iter w1) (h2 : PI X tg iter w2) : PI X tg iter (fun σ H R => w1 σ H R ∨ w2 σ H R) := ⟨fun pins s σ H R I h => by
  rcases h with h | h
  · exact h1.run pins s σ H R I h
  · exact h2.run pins s σ H R I h⟩
theorem OpR.or {f : Value → Value → Sem Value} {r1 r2 : R2} (h1 : OpR X f r1) (h2 : OpR X f r2) : OpR X f (fun x y H Q => r1 x y H Q ∨ r2 x y H Q) := by
  intro pins s σ H x y v u Q I rx ry q
  rcases q with q | q
  · exact h1 pins s σ H x y v u Q I rx ry q
  · exact h2 pins s σ H x y v u Q I rx ry q
end

/-- at a stands a tuple (true) or a list -/
def Tk (k : Bool) (H : Hp) (a : Addr) (xs : List V) : Prop := match k with
  | true => H a = some (.tup xs)
  | false => H a = some (.lst xs)
theorem Tk.same {k : Bool} {H H' : Hp} {a : Addr} {xs : List V} (h : Tk k H a xs) (s : Same H H') : Tk k H' a xs := by
  cases k <;> exact s _ _ h
theorem Tk.sk {K : PySem.W.Frag} {k : Bool} {H : Hp} {a : Addr} {xs : List V} (h : Tk k H a xs) : Sk K k H a xs := by
  cases k with
  | true => exact SqT.of h
  | false => exact SqL.of h
abbrev s__law_prim : Stmt := topS 38
theorem sc__law_prim : FnScope ["v", "common", "a"] ["v"] (defScope s__law_prim) := ⟨rfl, rfl, rfl, by decide +kernel, rfl, by decide +kernel, by decide +kernel⟩
def spPrimK : Sp := fun vs H Q _ => ∃ (k : Bool) (a : Addr) (ns : List Int), vs = [.ref a] ∧ Tk k H a (ns.map V.int) ∧ ns.length ≤ 1000 ∧ (∀ n ∈ ns, n.natAbs < 2 ^ 299) ∧ ∀ (H' : Hp) (r : Addr), Same H H' → Vc H' r (prim ns) → Q (.ref r) H'
theorem ok_lprimK {f : Addr} {fd : FuncData} {k : Nat} (F : Fun K "_law_prim" "_law_prim" s__law_prim f fd) (Z : Glb mg)
    (C_law_gcd : Call P w K mg base k "_law_gcd" ["a", "b"] spGcd) : FnOk P w K mg base CX0 (k + 1) f fd ["v"] spPrimK := by
  refine F.ok sc__law_prim (fun vs H Q E h => ?_) (fun cdv A outer s H vs Q E hr h => ?_)
  · obtain ⟨kd, a, ns, rfl, _⟩ := h
    rfl
  · obtain ⟨kd, a, ns, rfl, hv, hl, hB, q⟩ := h
    refine ⟨_, (pss_cons (ps_set (i := 1) sc__law_prim.nd rfl (.inr rfl) pe_int)
      (pss_cut (ps_for PassesOwn.never rfl (PI.or (pi_list (pv 0)) (pi_tup (pv 0))) (pg_name (i := 2) sc__law_prim.nd rfl (.inl rfl)) (pss_one (ps_set (i := 1) sc__law_prim.nd rfl (.inr rfl) (pe_call C_law_gcd.G hr (by rfl) C_law_gcd.m C_law_gcd.kp C_law_gcd.b .nil pass0 (pa_cons (pv 1) (pa_cons (pv 2) pa_nil))))))
      (pss_cons (ps_if (pt_cmpR op_eq (pv 1) pe_int (nomark _)) (pss_one (ps_ret (pe_callTy call_tuple_of (by rfl) Z.m_tuple (by decide +kernel) (pa_cons (pv 0) pa_nil)))) pss_nil)
      (pss_one (ps_ret (pe_callTy call_tuple_of (by rfl) Z.m_tuple (by decide +kernel) (pa_cons (pe_lc (own := [("a", 2)]) (g := gName 2) (tt := tYes) (by rfl) sc__law_prim.nd (PI.or (pi_list (pv 0)) (pi_tup (pv 0))) (blkOk_by (own := [("a", 2)]) (N := ["v", "common", "a"]) (sc := defScope s__law_prim) (by first | decide +kernel | kernel_rfl)) (fun _ _ _ _ _ => (pg_name (i := 2) sc__law_prim.nd rfl (.inl rfl))) (fun _ _ _ _ _ => pts_nil) (fun _ _ _ _ _ => (pe_op op_fdivW (pv 2) (pv 1)))) pa_nil))))))), ?_⟩
    -- common
    refine ⟨fun σ H' => ∃ y2 : Option V, H = H' ∧ σ = [some (.ref a), some (.int (gl ns)), y2], ?_, ?_⟩
    · cases kd with
      | true =>
        refine .inr ⟨_, rfl, a, rfl, ⟨_, SqT.of hv⟩, ?_⟩
        refine for_tup (xs := ns.map V.int) (fun i σ H' => H = H' ∧ ∃ y2 : Option V, σ = [some (.ref a), some (.int (gl (ns.take i))), y2]) ⟨rfl, _, rfl⟩ (fun i σ H' _ hP => by obtain ⟨rfl, _⟩ := hP; exact SqT.of hv) (fun i x σ H' hx hP => ?_) (fun σ H' hP => ?_)
        · obtain ⟨rfl, y2, rfl⟩ := hP
          obtain ⟨n, hn, rfl⟩ := map_get hx
          refine ⟨_, rfl, _, rfl, _, _, rfl, gl_take_lim (by decide) hB, hB n (List.mem_of_getElem? hn), rfl, some (.int n), ?_⟩
          rw [gl_step hn]
          rfl
        · obtain ⟨rfl, y2, rfl⟩ := hP
          rw [List.length_map, List.take_length]
          exact ⟨_, rfl, rfl⟩
      | false =>
        refine .inl ⟨_, rfl, a, rfl, ⟨_, SqL.of hv⟩, ?_⟩
        refine for_list (xs := ns.map V.int) (fun i σ H' => H = H' ∧ ∃ y2 : Option V, σ = [some (.ref a), some (.int (gl (ns.take i))), y2]) ⟨rfl, _, rfl⟩ (fun i σ H' _ hP => by obtain ⟨rfl, _⟩ := hP; exact SqL.of hv) (fun i x σ H' hx hP => ?_) (fun σ H' hP => ?_)
        · obtain ⟨rfl, y2, rfl⟩ := hP
          obtain ⟨n, hn, rfl⟩ := map_get hx
          refine ⟨_, rfl, _, rfl, _, _, rfl, gl_take_lim (by decide) hB, hB n (List.mem_of_getElem? hn), rfl, some (.int n), ?_⟩
          rw [gl_step hn]
          rfl
        · obtain ⟨rfl, y2, rfl⟩ := hP
          rw [List.length_map, List.take_length]
          exact ⟨_, rfl, rfl⟩
    intro σ H' hW
    obtain ⟨y2, rfl, rfl⟩ := hW
    refine ⟨_, rfl, rfl, _, rfl, ite2 (fun e => ?_) (fun e => ?_)⟩
    · have e0 : gl ns = 0 := V.int.inj (of_decide_eq_true e)
      have ep : prim ns = ns := if_pos e0
      refine ⟨_, rfl, a, ns.map V.int, rfl, ?_⟩
      cases kd with
      | true =>
        refine .inr ⟨SqT.of hv, q _ _ (Same.refl _) ?_⟩
        rw [ep]
        exact hv
      | false =>
        refine .inl ⟨SqL.of hv, fun l nl => q _ _ (same_upd nl) ?_⟩
        rw [ep]
        exact upd_same
    · have e0 : gl ns ≠ 0 := fun z => e (decide_eq_true (by rw [z]))
      have ep : prim ns = ns.map (· / gl ns) := if_neg e0
      have cd : ∀ x : Int, CDivW x (gl ns) := fun x => wide_div (by have := gl_nn ns; omega) (gl_lim (by decide) hB) (by decide) (by decide)
      have room : ∀ i, (((prim ns).take i).map V.int).length < sizeLine := fun i => by
        rw [List.length_map, List.length_take]
        exact Nat.lt_of_le_of_lt (Nat.min_le_right _ _) (small1000 (by rw [prim_len]; exact hl))
      have next : ∀ (i : Nat) (n : Int) (H0 : Hp) (D : Addr), ns[i]? = some n → upd (upd H0 D (.lst (((prim ns).take i).map V.int))) D (.lst (((prim ns).take i).map V.int ++ [.int (n / gl ns)])) = upd H0 D (.lst (((prim ns).take (i + 1)).map V.int)) := fun i n H0 D hn => by
        have hg : (prim ns)[i]? = some (n / gl ns) := by
          rw [ep, List.getElem?_map, hn]
          rfl
        rw [upd_upd, take_get hg, List.map_append]
        rfl
      have last : ∀ (D : Addr) (H' : Hp), (∃ H0, Same H H0 ∧ H0 D = none ∧ H' = upd H0 D (.lst (((prim ns).take (ns.map V.int).length).map V.int))) →
          ∃ p ys, [V.ref D] = [.ref p] ∧ ((SqL K H' p ys ∧ ∀ l, H' l = none → Q (.ref l) (upd H' l (.tup ys))) ∨ (SqT K H' p ys ∧ Q (.ref p) H')) := fun D H' h => by
        obtain ⟨H0, s0, n0, rfl⟩ := h
        rw [List.length_map, show ns.length = (prim ns).length from (prim_len ns).symm, List.take_length]
        exact ⟨D, _, rfl, .inl ⟨SqL.of upd_same, fun l nl => q _ _ ((s0.trans (same_upd n0)).trans (same_upd nl)) upd_same⟩⟩
      cases kd with
      | true =>
        refine .inr ⟨_, rfl, a, rfl, ⟨_, SqT.of hv⟩, fun D nD => ?_⟩
        refine lc_tup (xs := ns.map V.int) (fun i H' => ∃ H0, Same H H0 ∧ H0 D = none ∧ H' = upd H0 D (.lst (((prim ns).take i).map V.int))) ⟨H, Same.refl _, nD, rfl⟩ (fun i H' _ hP => ?_) (fun i x H' hx hP => ?_) (fun H' hP => ?_)
        · obtain ⟨H0, s0, n0, rfl⟩ := hP
          exact SqT.of ((s0.trans (same_upd n0)) _ _ hv)
        · obtain ⟨H0, s0, n0, rfl⟩ := hP
          obtain ⟨n, hn, rfl⟩ := map_get hx
          refine ⟨rfl, ?_⟩
          unfold tYes
          refine iteT ?_
          exact ⟨_, rfl, _, rfl, _, _, rfl, rfl, cd n, _, upd_same, room i, H0, s0, n0, next i n H0 D hn⟩
        · exact last D H' hP
      | false =>
        refine .inl ⟨_, rfl, a, rfl, ⟨_, SqL.of hv⟩, fun D nD => ?_⟩
        refine lc_list (xs := ns.map V.int) (fun i H' => ∃ H0, Same H H0 ∧ H0 D = none ∧ H' = upd H0 D (.lst (((prim ns).take i).map V.int))) ⟨H, Same.refl _, nD, rfl⟩ (fun i H' _ hP => ?_) (fun i x H' hx hP => ?_) (fun H' hP => ?_)
        · obtain ⟨H0, s0, n0, rfl⟩ := hP
          exact SqL.of ((s0.trans (same_upd n0)) _ _ hv)
        · obtain ⟨H0, s0, n0, rfl⟩ := hP
          obtain ⟨n, hn, rfl⟩ := map_get hx
          refine ⟨rfl, ?_⟩
          unfold tYes
          refine iteT ?_
          exact ⟨_, rfl, _, rfl, _, _, rfl, rfl, cd n, _, upd_same, room i, H0, s0, n0, next i n H0 D hn⟩
        · exact last D H' hP

/-! ### fractions with positive divisors -/
/-- r holds the pair n, d, d > 0, both below 2 ^ B -/
def Fr (H : Hp) (r : Addr) (n d : Int) (B : Nat) : Prop := H r = some (.tup [.int n, .int d]) ∧ 0 < d ∧ n.natAbs < 2 ^ B ∧ d.natAbs < 2 ^ B
theorem Fr.up {H : Hp} {r : Addr} {n d : Int} {B C : Nat} (h : Fr H r n d B) (l : B ≤ C) : Fr H r n d C := ⟨h.1, h.2.1, up_pow h.2.2.1 l, up_pow h.2.2.2 l⟩
theorem Fr.mk {H : Hp} {p : Addr} {a b : Int} {B : Nat} (hb : 0 < b) (ha : a.natAbs < 2 ^ B) (hb2 : b.natAbs < 2 ^ B) : Fr (upd H p (.tup [.int (frN a b), .int (frD a b)])) p (frN a b) (frD a b) B :=
  ⟨upd_same, frD_pos hb, Nat.lt_of_le_of_lt (frN_abs (by omega)) ha, Nat.lt_of_le_of_lt (frD_abs (by omega)) hb2⟩
theorem Fr.same {H H' : Hp} {r : Addr} {n d : Int} {B : Nat} (h : Fr H r n d B) (s : Same H H') : Fr H' r n d B := ⟨s _ _ h.1, h.2⟩
theorem ints2 (a b : Int) : [V.int a, V.int b].length ≤ sizeLine := Nat.le_of_lt (small1000 (show 2 ≤ 1000 by decide))
theorem g2_lim {a b : Int} (hb : 0 < b) (hb2 : b.natAbs < 2 ^ 299) : (g2 a b).natAbs < 2 ^ 299 := Nat.lt_of_le_of_lt (g2_le (by omega)) hb2
def spFr : Sp := fun vs H Q _ => ∃ a b : Int, vs = [.int a, .int b] ∧ 0 < b ∧ a.natAbs < 2 ^ 299 ∧ b.natAbs < 2 ^ 299 ∧ ∀ p, H p = none → Q (.ref p) (upd H p (.tup [.int (frN a b), .int (frD a b)]))

/-- two fractions: what the function puts together of their entries -/
def spTwo (g : Int → Int → Int → Int → Int × Int) : Sp := fun vs H Q _ => ∃ (x y : Addr) (a b c d : Int), vs = [.ref x, .ref y] ∧ Fr H x a b 140 ∧ Fr H y c d 140 ∧
  ∀ p, H p = none → Q (.ref p) (upd H p (.tup [.int (frN (g a b c d).1 (g a b c d).2), .int (frD (g a b c d).1 (g a b c d).2)]))

/-- all but p stands, and p has its head -/
structure Kp (p : Addr) (H H' : Hp) : Prop where
  k : Keep p H H'
  h : ∀ q, Hd H p q → Hd H' p q
theorem But.kp {p : Addr} {H H' : Hp} (h : But p H H') : Kp p H H' := ⟨h.keep, h.2⟩
theorem Same.kp {p : Addr} {H H' : Hp} (h : Same H H') : Kp p H H' := ⟨Same.keep h, fun q ⟨l, e⟩ => ⟨l, h _ _ e⟩⟩
theorem Kp.trans {p : Addr} {H H1 H2 : Hp} (a : Kp p H H1) (b : Kp p H1 H2) : Kp p H H2 := ⟨a.k.trans b.k, fun q h => b.h q (a.h q h)⟩
theorem Plq.hd {H : Hp} {p q : Addr} (h : Plq H p q) : Hd H p q := by
  obtain ⟨ns, a, b, c, d, e, _⟩ := h
  exact ⟨_, e⟩
theorem hd_inj {H : Hp} {p q r : Addr} (h : Hd H p q) (h' : Hd H p r) : q = r := by
  obtain ⟨l, e⟩ := h
  obtain ⟨l', e'⟩ := h'
  have := e.symm.trans e'
  injection this with this
  injection this with this
  injection this with this
  injection this
theorem Plq.kp {H H' : Hp} {p q : Addr} (h : Plq H p q) (k : Kp p H H') (h' : Pl H' p) : Plq H' p q := by
  obtain ⟨q2, e⟩ := h'.q
  rw [hd_inj (k.h _ h.hd) e.hd]
  exact e
/-- a comprehension over range whose turn draws: what it leaves -/
def Dr (p : Addr) (H : Hp) (D : Addr) (B : Nat) (i : Nat) (H' : Hp) : Prop := (∃ q, Plq H p q ∧ Plq H' p q ∧ q ≠ D) ∧ Keep p H H' ∧ ∃ ns : List Int, H' D = some (.lst (ns.map V.int)) ∧ ns.length = i ∧ ∀ n ∈ ns, n.natAbs < 2 ^ B
theorem dr0 {p D : Addr} {H : Hp} {B : Nat} (hp : Pl H p) (nD : H D = none) : Dr p H D B 0 (upd H D (.lst [])) := by
  obtain ⟨q, hq⟩ := hp.q
  exact ⟨⟨q, hq, hq.same (same_upd nD), (hq.ne_free nD).2⟩, Same.keep (same_upd nD), [], upd_same, rfl, fun n h => nomatch h⟩
theorem dr_step {p D : Addr} {H H' H2 : Hp} {B i : Nat} {n : Int} (nD : H D = none) (hP : Pl H p) (h : Dr p H D B i H') (hB : But p H' H2) (P2 : Pl H2 p) (hn : n.natAbs < 2 ^ B) :
    ∃ acc, H2 D = some (.lst acc) ∧ acc.length = i ∧ Dr p H D B (i + 1) (upd H2 D (.lst (acc ++ [.int n]))) := by
  obtain ⟨⟨q, hq0, hq, qD⟩, K1, ns, e, hl, hb⟩ := h
  have ne : D ≠ p := by
    obtain ⟨q0, h0⟩ := hP.q
    exact (h0.ne_free nD).1.symm
  refine ⟨ns.map V.int, (hB.1 D ne).trans e, by rw [List.length_map]; exact hl, ⟨q, hq0, (hq.but hB P2).upd ne.symm qD, qD⟩, ?_, ns ++ [n], ?_, ?_, ?_⟩
  · intro x o hx ho
    have hxD : x ≠ D := ne_of_none ho nD
    rw [upd_ne hxD]
    exact hB.keep _ _ hx (K1 _ _ hx ho)
  · rw [upd_same, List.map_append]
    rfl
  · rw [List.length_append, hl]
    rfl
  · intro m hm
    rcases List.mem_append.mp hm with h | h
    · exact hb m h
    · rw [List.mem_singleton.mp h]
      exact hn
theorem Dr.kp {p D : Addr} {H H' : Hp} {B i : Nat} (h : Dr p H D B i H') : Kp p H H' := by
  obtain ⟨⟨q, h1, h2, _⟩, k, _⟩ := h
  exact ⟨k, fun q' hq => by rw [hd_inj hq h1.hd]; exact h2.hd⟩

abbrev s__law_point : Stmt := topS 39
theorem sc__law_point : FnScope ["pool", "d", "most", "below", "k"] ["pool", "d", "most"] (defScope s__law_point) := ⟨rfl, rfl, rfl, by decide +kernel, rfl, by decide +kernel, by decide +kernel⟩
theorem gl_dvd {ns : List Int} {n : Int} (h : n ∈ ns) : gl ns ∣ n := by
  unfold gl
  have : ∀ (l : List Int) (c : Int), (l.foldl g2 c) ∣ c ∧ ∀ n ∈ l, (l.foldl g2 c) ∣ n := by
    intro l
    induction l with
    | nil => intro c; exact ⟨Int.dvd_refl _, fun n h => nomatch h⟩
    | cons x r ih =>
      intro c
      obtain ⟨h1, h2⟩ := ih (g2 c x)
      refine ⟨Int.dvd_trans h1 (g2_dvd_l c x), fun n hn => ?_⟩
      rcases List.mem_cons.mp hn with rfl | hn
      · exact Int.dvd_trans h1 (g2_dvd_r c n)
      · exact h2 n hn
  exact (this ns 0).2 n h
theorem gl_pos {ns : List Int} {n : Int} (h : n ∈ ns) (hn : n ≠ 0) : 0 < gl ns := by
  have h1 := gl_nn ns
  have h2 : gl ns ≠ 0 := fun z => by
    have := gl_dvd h
    rw [z] at this
    exact hn (Int.zero_dvd.mp this)
  omega
theorem prim_get {ns : List Int} {i : Nat} {n : Int} (h : ns[i]? = some n) (g : 0 < gl ns) : (prim ns)[i]? = some (n / gl ns) := by
  unfold prim
  rw [if_neg (by omega), List.getElem?_map, h]
  rfl
theorem prim_small {ns : List Int} {B : Nat} (h : ∀ n ∈ ns, n.natAbs ≤ B) : ∀ n ∈ prim ns, n.natAbs ≤ B := by
  unfold prim
  split
  · exact h
  · rename_i g
    intro n hn
    obtain ⟨m, hm, rfl⟩ := List.mem_map.mp hn
    exact Nat.le_trans (ediv_abs (by have := gl_nn ns; omega)) (h m hm)
theorem gl_cons (x : Int) (ns : List Int) : gl (x :: ns) = ((Nat.gcd x.natAbs (gl ns).natAbs : Nat) : Int) := by
  have key : ∀ (l : List Int) (c : Int), 0 ≤ c → l.foldl g2 c = ((Nat.gcd c.natAbs (l.foldl g2 0).natAbs : Nat) : Int) := by
    intro l
    induction l with
    | nil =>
      intro c hc
      show c = ((Nat.gcd c.natAbs 0 : Nat) : Int)
      rw [Nat.gcd_zero_right]
      omega
    | cons y r ih =>
      intro c hc
      show r.foldl g2 (g2 c y) = ((Nat.gcd c.natAbs (r.foldl g2 (g2 0 y)).natAbs : Nat) : Int)
      rw [ih _ (g2_nn c y), ih _ (g2_nn 0 y)]
      congr 1
      unfold g2
      simp only [Int.natAbs_natCast, Int.natAbs_zero, Nat.gcd_zero_left, Nat.gcd_assoc]
  unfold gl
  show ns.foldl g2 (g2 0 x) = _
  rw [key _ _ (g2_nn 0 x)]
  congr 1
  unfold g2
  simp only [Int.natAbs_natCast, Int.natAbs_zero, Nat.gcd_zero_left]
theorem gl_scale (a : Int) (ha : 0 ≤ a) : ∀ ns : List Int, gl (ns.map (a * ·)) = a * gl ns
  | [] => by
    show (0 : Int) = a * 0
    rw [Int.mul_zero]
  | n :: ns => by
    rw [List.map_cons, gl_cons, gl_cons, gl_scale a ha ns]
    have h := gl_nn ns
    rw [Int.natAbs_mul, Int.natAbs_mul, Nat.gcd_mul_left, Int.natCast_mul]
    rw [show ((a.natAbs : Nat) : Int) = a by omega]
theorem gl_prim {v : List Int} (g : gl v ≠ 0) : gl (prim v) = 1 := by
  have e : (prim v).map (gl v * ·) = v := by
    apply List.ext_getElem?
    intro i
    rw [List.getElem?_map]
    by_cases hi : i < v.length
    · have e1 : v[i]? = some v[i] := List.getElem?_eq_getElem hi
      have e2 : (prim v)[i]? = some (v[i] / gl v) := by
        rw [show prim v = v.map (· / gl v) from if_neg g, List.getElem?_map, e1]
        rfl
      rw [e2, e1]
      exact congrArg some (Int.mul_ediv_cancel' (gl_dvd (List.getElem_mem hi)))
    · rw [List.getElem?_eq_none (by rw [prim_len]; omega), List.getElem?_eq_none (by omega)]
      rfl
  have s := gl_scale (gl v) (gl_nn v) (prim v)
  rw [e] at s
  have n := gl_nn v
  have : gl v * (gl (prim v) - 1) = 0 := by rw [Int.mul_sub, ← s]; omega
  rcases Int.mul_eq_zero.mp this with h | h
  · exact absurd h g
  · omega
def spPoint : Sp := fun vs H Q _ => ∃ (p : Addr) (d : Nat) (m : Int), vs = [.ref p, .int d, .int m] ∧ d ≤ 10 ∧ 1 ≤ m ∧ m ≤ 5 ∧ Pl H p ∧ ∀ (H' : Hp) (r : Addr) (ns : List Int), Pl H' p → Kp p H H' → Vc H' r ns → ns.length = d + 1 → (∀ n ∈ ns, n.natAbs ≤ 3) → (∃ w, ns[0]? = some w ∧ 0 < w) → gl ns = 1 → Q (.ref r) H'
theorem ok_point {f : Addr} {fd : FuncData} {k : Nat} (F : Fun K "_law_point" "_law_point" s__law_point f fd) (Z : Glb mg)
    (C_law_draw : Call P w K mg base k "_law_draw" ["pool", "many"] spDraw)
    (C_law_prim : Call P w K mg base k "_law_prim" ["v"] spPrimK) : FnOk P w K mg base CX0 (k + 1) f fd ["pool", "d", "most"] spPoint := by
  refine F.ok sc__law_point (fun vs H Q E h => ?_) (fun cdv A outer s H vs Q E hr h => ?_)
  · obtain ⟨p, d, m, rfl, _⟩ := h
    rfl
  · obtain ⟨p, d, m, rfl, hd, m1, m5, hP, q⟩ := h
    refine ⟨_, (pss_cons (ps_set (i := 3) sc__law_point.nd rfl (.inl rfl) (pe_ix (r := rIxL K) ix_list (pe_lst (pa_cons pe_int (pa_cons pe_int (pa_cons pe_int (pa_cons pe_int (pa_cons pe_int pa_nil)))))) (pe_call C_law_draw.G hr (by rfl) C_law_draw.m C_law_draw.kp C_law_draw.b .nil pass0 (pa_cons (pv 0) (pa_cons (pv 2) pa_nil))) (fun _ _ => rfl)))
      (pss_one (ps_ret (pe_call C_law_prim.G hr (by rfl) C_law_prim.m C_law_prim.kp C_law_prim.b .nil pass0 (pa_cons (pe_op op_cat (pe_lst (pa_cons (pv 3) pa_nil)) (pe_lc (own := [("k", 4)]) (g := gName 4) (tt := tYes) (by rfl) sc__law_point.nd (pi_range1 rfl Z.m_range (pa_cons (pv 1) pa_nil)) (blkOk_by (own := [("k", 4)]) (N := ["pool", "d", "most", "below", "k"]) (sc := defScope s__law_point) (by first | decide +kernel | kernel_rfl)) (fun _ _ _ _ _ => (pg_name (i := 4) sc__law_point.nd rfl (.inl rfl))) (fun _ _ _ _ _ => pts_nil) (fun _ _ _ _ _ => (pe_op op_sub (pe_call C_law_draw.G hr (by rfl) C_law_draw.m C_law_draw.kp C_law_draw.b .nil pass0 (pa_cons (pv 0) (pa_cons pe_int pa_nil))) pe_int)))) pa_nil))))), ?_⟩
    refine ⟨Nat.le_of_lt (small1000 (show 5 ≤ 1000 by decide)), fun l nl => ?_⟩
    refine ⟨_, rfl, _, rfl, p, m, rfl, by omega, Nat.lt_of_le_of_lt (show m.natAbs ≤ 5 by omega) (by decide), hP.same (same_upd nl), fun v H1 l1 u1 P1 B1 => ?_⟩
    have lp : l ≠ p := by
      obtain ⟨q0, h0⟩ := hP.q
      exact (h0.ne_free nl).1.symm
    have hl := (B1.1 l lp).trans upd_same
    obtain ⟨b, hat, hb1, hb3⟩ : ∃ b : Int, atI [V.int 1, V.int 1, V.int 1, V.int 2, V.int 3] v = some (.int b) ∧ 0 < b ∧ b ≤ 3 := by
      have hv : v = 0 ∨ v = 1 ∨ v = 2 ∨ v = 3 ∨ v = 4 := by omega
      rcases hv with rfl | rfl | rfl | rfl | rfl
      · exact ⟨1, atI_nat (j := 0) rfl, by decide, by decide⟩
      · exact ⟨1, atI_nat (j := 1) rfl, by decide, by decide⟩
      · exact ⟨1, atI_nat (j := 2) rfl, by decide, by decide⟩
      · exact ⟨2, atI_nat (j := 3) rfl, by decide, by decide⟩
      · exact ⟨3, atI_nat (j := 4) rfl, by decide, by decide⟩
    refine ⟨_, _, _, _, rfl, rfl, SqL.of hl, hat, ?_⟩
    have K1 : Kp p H H1 := (Same.kp (same_upd nl)).trans B1.kp
    -- [below] + ..
    refine ⟨_, rfl, Nat.le_of_lt (small1000 (show 1 ≤ 1000 by decide)), fun l2 nl2 => ?_⟩
    have s2 := same_upd (o := .lst [.int b]) nl2
    have P2 := P1.same s2
    have l2p : l2 ≠ p := by
      obtain ⟨q0, h0⟩ := P1.q
      exact (h0.ne_free nl2).1.symm
    have hl2 : (upd H1 l2 (.lst [.int b])) l2 = some (.lst [.int b]) := upd_same
    generalize upd H1 l2 (.lst [.int b]) = H2 at *
    refine ⟨_, rfl, _, rfl, by omega, by omega, fun D nD => ?_⟩
    refine lc_range (lo := 0) (n := d) (Dr p H2 D 2) (dr0 P2 nD) (fun i H3 hi hW => ?_) (fun H3 hW => ?_)
    · refine ⟨rfl, ?_⟩
      unfold tYes
      refine iteT ?_
      obtain ⟨q0, _, hq0, _⟩ := hW.1
      refine ⟨_, rfl, p, _, rfl, by decide, by decide, hq0.pl, fun n H4 l4 u4 P4 B4 => ⟨_, _, rfl, rfl, ?_⟩⟩
      obtain ⟨acc, h1, h2, h3⟩ := dr_step (n := n - 3) nD P2 hW B4 P4 (by omega)
      exact ⟨acc, h1, small1000 (by omega), h3⟩
    have K3 := hW.kp
    obtain ⟨⟨q3, _, hq3, _⟩, _, xs, eD, hlen, hB⟩ := hW
    have hl3 := K3.k _ _ l2p hl2
    refine ⟨l2, D, _, _, rfl, rfl, hl3, eD, ?_, fun c nc => ?_⟩
    · rw [List.length_map]
      exact Nat.le_of_lt (small1000 (by show 1 + xs.length ≤ 1000; omega))
    have s4 := same_upd (o := .lst ([.int b] ++ xs.map V.int)) nc
    have hb2 : ∀ n ∈ b :: xs, n.natAbs ≤ 3 := fun n hn => by
      rcases List.mem_cons.mp hn with rfl | hn
      · omega
      · have := hB n hn
        omega
    refine ⟨false, c, b :: xs, rfl, upd_same, by rw [List.length_cons]; omega, fun n hn => Nat.lt_of_le_of_lt (hb2 n hn) (by decide), fun H5 r s5 R5 => ?_⟩
    have g := gl_pos (ns := b :: xs) List.mem_cons_self (show b ≠ 0 by omega)
    exact q H5 r _ ((hq3.pl.same s4).same s5) (((K1.trans (Same.kp s2)).trans K3).trans ((Same.kp s4).trans (Same.kp s5))) R5 (by rw [prim_len, List.length_cons, hlen]) (prim_small hb2)
      ⟨_, prim_get (i := 0) rfl g, Int.ediv_pos_of_pos_of_dvd hb1 (Int.le_of_lt g) (gl_dvd List.mem_cons_self)⟩ (gl_prim (by omega))

/-! ### the mathematics of points -/
theorem prim_zero {ns : List Int} (h : gl ns = 0) : ∀ n ∈ ns, n = 0 := fun n hn => by
  have := gl_dvd hn
  rw [h] at this
  exact Int.zero_dvd.mp this
/-- vectors in proportion have the same primitive one -/
theorem prim_prop {u v : List Int} {a b : Int} (ha : 0 < a) (hb : 0 < b) (h : u.map (a * ·) = v.map (b * ·)) : prim u = prim v := by
  have hg : a * gl u = b * gl v := by rw [← gl_scale a (by omega), ← gl_scale b (by omega), h]
  have hl : u.length = v.length := by
    have := congrArg List.length h
    rwa [List.length_map, List.length_map] at this
  have gu := gl_nn u
  have gv := gl_nn v
  apply List.ext_getElem?
  intro i
  by_cases hi : i < u.length
  · have e1 : u[i]? = some u[i] := List.getElem?_eq_getElem hi
    have e2 : v[i]? = some (v[i]'(by omega)) := List.getElem?_eq_getElem (by omega)
    have e3 : a * u[i] = b * v[i]'(by omega) := by
      have := congrArg (fun l => l[i]?) h
      simp only [List.getElem?_map, e1, e2, Option.map_some] at this
      exact Option.some.inj this
    by_cases h0 : gl u = 0
    · have h1 : gl v = 0 := by
        rw [h0, Int.mul_zero] at hg
        rcases Int.mul_eq_zero.mp hg.symm with z | z
        · omega
        · exact z
      rw [show prim u = u from if_pos h0, show prim v = v from if_pos h1, e1, e2, prim_zero h0 _ (List.mem_of_getElem? e1), prim_zero h1 _ (List.mem_of_getElem? e2)]
    · have h1 : gl v ≠ 0 := fun z => by
        rw [z, Int.mul_zero] at hg
        rcases Int.mul_eq_zero.mp hg with z | z
        · omega
        · exact h0 z
      rw [prim_get e1 (by omega), prim_get e2 (by omega)]
      congr 1
      have p1 : u[i] / gl u = (a * u[i]) / (a * gl u) := (Int.mul_ediv_mul_of_pos _ _ ha).symm
      have p2 : (v[i]'(by omega)) / gl v = (b * v[i]'(by omega)) / (b * gl v) := (Int.mul_ediv_mul_of_pos _ _ hb).symm
      rw [p1, p2, e3, hg]
  · rw [List.getElem?_eq_none (by rw [prim_len]; omega), List.getElem?_eq_none (by rw [prim_len]; omega)]
/-- lowest terms, a positive divisor -/
def Low (f : Int × Int) : Prop := 0 < f.2 ∧ Nat.gcd f.1.natAbs f.2.natAbs = 1
theorem low_fr {a b : Int} (hb : 0 < b) : Low (frN a b, frD a b) := by
  refine ⟨frD_pos hb, ?_⟩
  have g := g2_pos (a := a) (b := b) (by omega)
  have e : (g2 a b).natAbs = Nat.gcd a.natAbs b.natAbs := by
    unfold g2
    exact Int.natAbs_natCast _
  show Nat.gcd (a / g2 a b).natAbs (b / g2 a b).natAbs = 1
  rw [Int.natAbs_ediv_of_dvd (g2_dvd_l a b), Int.natAbs_ediv_of_dvd (g2_dvd_r a b), e]
  rw [Nat.gcd_div (Nat.gcd_dvd_left _ _) (Nat.gcd_dvd_right _ _)]
  exact Nat.div_self (Nat.gcd_pos_of_pos_right _ (by omega))
/-- the cross product of a fraction and what it comes from -/
theorem fr_cross {a b : Int} (hb : 0 < b) : frN a b * b = frD a b * a := by
  have g := g2_pos (a := a) (b := b) (by omega)
  obtain ⟨x, hx⟩ := g2_dvd_l a b
  obtain ⟨y, hy⟩ := g2_dvd_r a b
  unfold frN frD
  generalize hg : g2 a b = k at *
  have h1 : a / k = x := by rw [hx, Int.mul_ediv_cancel_left _ (by omega)]
  have h2 : b / k = y := by rw [hy, Int.mul_ediv_cancel_left _ (by omega)]
  rw [h1, h2, hx, hy]
  simp only [Int.mul_assoc, Int.mul_left_comm, Int.mul_comm]
/-- equal fractions in lowest terms -/
theorem low_eq {f g : Int × Int} (hf : Low f) (hg : Low g) (h : f.1 * g.2 = f.2 * g.1) : f = g := by
  obtain ⟨a, b⟩ := f
  obtain ⟨c, d⟩ := g
  obtain ⟨b0, h1⟩ := hf
  obtain ⟨d0, h2⟩ := hg
  simp only at *
  have hN : a.natAbs * d.natAbs = b.natAbs * c.natAbs := by rw [← Int.natAbs_mul, ← Int.natAbs_mul, h]
  have k1 : b.natAbs ∣ d.natAbs := by
    have : b.natAbs ∣ a.natAbs * d.natAbs := ⟨c.natAbs, hN⟩
    exact Nat.Coprime.dvd_of_dvd_mul_left (by rw [Nat.Coprime, Nat.gcd_comm]; exact h1) this
  have k2 : d.natAbs ∣ b.natAbs := by
    have : d.natAbs ∣ c.natAbs * b.natAbs := ⟨a.natAbs, by rw [Nat.mul_comm c.natAbs, ← hN, Nat.mul_comm]⟩
    exact Nat.Coprime.dvd_of_dvd_mul_left (by rw [Nat.Coprime, Nat.gcd_comm]; exact h2) this
  have e : b = d := by
    have := Nat.dvd_antisymm k1 k2
    omega
  subst e
  have : a * b = c * b := by rw [h, Int.mul_comm]
  rw [Int.eq_of_mul_eq_mul_right (by omega) this]
/-- the least common multiple of divisors, their product -/
def lcmD (fs : List (Int × Int)) : Int := fs.foldl (fun c f => ((Nat.lcm c.natAbs f.2.natAbs : Nat) : Int)) 1
def prodD (fs : List (Int × Int)) : Int := fs.foldl (fun c f => c * f.2) 1
/-- the coordinates over one divisor -/
def over1 (L : Int) (fs : List (Int × Int)) : List Int := L :: fs.map fun f => f.1 * (L / f.2)
theorem lcmD_facts : ∀ (fs : List (Int × Int)) (c : Int), 0 < c → (∀ f ∈ fs, 0 < f.2) →
    0 < fs.foldl (fun c f => ((Nat.lcm c.natAbs f.2.natAbs : Nat) : Int)) c ∧ c ∣ fs.foldl (fun c f => ((Nat.lcm c.natAbs f.2.natAbs : Nat) : Int)) c ∧ (∀ f ∈ fs, f.2 ∣ fs.foldl (fun c f => ((Nat.lcm c.natAbs f.2.natAbs : Nat) : Int)) c) ∧
    ∀ m : Int, c ∣ m → (∀ f ∈ fs, f.2 ∣ m) → fs.foldl (fun c f => ((Nat.lcm c.natAbs f.2.natAbs : Nat) : Int)) c ∣ m
  | [], c, hc, _ => ⟨hc, Int.dvd_refl _, fun f h => (nomatch h), fun m h _ => h⟩
  | f :: fs, c, hc, hf => by
    have f0 := hf f List.mem_cons_self
    have l0 : 0 < ((Nat.lcm c.natAbs f.2.natAbs : Nat) : Int) := by
      have : 0 < Nat.lcm c.natAbs f.2.natAbs := Nat.lcm_pos (by omega) (by omega)
      omega
    obtain ⟨h1, h2, h3, h4⟩ := lcmD_facts fs ((Nat.lcm c.natAbs f.2.natAbs : Nat) : Int) l0 fun g hg => hf g (List.mem_cons_of_mem _ hg)
    have d1 : c ∣ ((Nat.lcm c.natAbs f.2.natAbs : Nat) : Int) := Int.natAbs_dvd_natAbs.mp (by rw [Int.natAbs_natCast]; exact Nat.dvd_lcm_left _ _)
    have d2 : f.2 ∣ ((Nat.lcm c.natAbs f.2.natAbs : Nat) : Int) := Int.natAbs_dvd_natAbs.mp (by rw [Int.natAbs_natCast]; exact Nat.dvd_lcm_right _ _)
    refine ⟨h1, Int.dvd_trans d1 h2, fun g hg => ?_, fun m hm hg => h4 m ?_ fun g h => hg g (List.mem_cons_of_mem _ h)⟩
    · rcases List.mem_cons.mp hg with rfl | hg
      · exact Int.dvd_trans d2 h2
      · exact h3 g hg
    · exact Int.natAbs_dvd_natAbs.mp (by rw [Int.natAbs_natCast]; exact Nat.lcm_dvd (Int.natAbs_dvd_natAbs.mpr hm) (Int.natAbs_dvd_natAbs.mpr (hg f List.mem_cons_self)))
theorem prodD_facts : ∀ (fs : List (Int × Int)) (c : Int), 0 < c → (∀ f ∈ fs, 0 < f.2) → 0 < fs.foldl (fun c f => c * f.2) c ∧ c ∣ fs.foldl (fun c f => c * f.2) c ∧ ∀ f ∈ fs, f.2 ∣ fs.foldl (fun c f => c * f.2) c
  | [], c, hc, _ => ⟨hc, Int.dvd_refl _, fun f h => nomatch h⟩
  | f :: fs, c, hc, hf => by
    obtain ⟨h1, h2, h3⟩ := prodD_facts fs (c * f.2) (Int.mul_pos hc (hf f List.mem_cons_self)) fun g hg => hf g (List.mem_cons_of_mem _ hg)
    refine ⟨h1, Int.dvd_trans ⟨f.2, rfl⟩ h2, fun g hg => ?_⟩
    rcases List.mem_cons.mp hg with rfl | hg
    · exact Int.dvd_trans ⟨c, Int.mul_comm _ _⟩ h2
    · exact h3 g hg
theorem div_mul {L d : Int} (h : d ∣ L) : d * (L / d) = L := Int.mul_ediv_cancel' h
/-- two common divisors give vectors in proportion -/
theorem over1_prop {L M : Int} {fs : List (Int × Int)} (h0 : ∀ f ∈ fs, 0 < f.2) (hL : ∀ f ∈ fs, f.2 ∣ L) (hM : ∀ f ∈ fs, f.2 ∣ M) : (over1 L fs).map (M * ·) = (over1 M fs).map (L * ·) := by
  unfold over1
  rw [List.map_cons, List.map_cons, List.map_map, List.map_map]
  congr 1
  · exact Int.mul_comm _ _
  · apply List.map_congr_left
    intro f hf
    show M * (f.1 * (L / f.2)) = L * (f.1 * (M / f.2))
    have e1 := div_mul (hL f hf)
    have e2 := div_mul (hM f hf)
    have f0 := h0 f hf
    generalize L / f.2 = x at *
    generalize M / f.2 = y at *
    rw [← e1, ← e2]
    simp only [Int.mul_assoc, Int.mul_left_comm, Int.mul_comm]
/-- over the least common multiple the vector is primitive -/
theorem over1_prim {fs : List (Int × Int)} (h : ∀ f ∈ fs, Low f) : prim (over1 (lcmD fs) fs) = over1 (lcmD fs) fs := by
  obtain ⟨L0, _, hd, hm⟩ := lcmD_facts fs 1 (by decide) fun f hf => (h f hf).1
  have hg : gl (over1 (lcmD fs) fs) = 1 := by
    have gp := gl_pos (ns := over1 (lcmD fs) fs) (n := lcmD fs) List.mem_cons_self (by unfold lcmD; omega)
    have g1 : gl (over1 (lcmD fs) fs) ∣ lcmD fs := gl_dvd List.mem_cons_self
    have g2' : ∀ f ∈ fs, gl (over1 (lcmD fs) fs) ∣ f.1 * (lcmD fs / f.2) := fun f hf => gl_dvd (List.mem_cons_of_mem _ (List.mem_map.mpr ⟨f, hf, rfl⟩))
    generalize gl (over1 (lcmD fs) fs) = g at *
    have hL : lcmD fs = fs.foldl (fun c f => ((Nat.lcm c.natAbs f.2.natAbs : Nat) : Int)) 1 := rfl
    rw [← hL] at L0 hd hm
    generalize lcmD fs = L at *
    obtain ⟨t, ht⟩ := g1
    have t0 : 0 < t := by
      by_cases q : 0 < t
      · exact q
      · have : g * t ≤ 0 := Int.mul_nonpos_of_nonneg_of_nonpos (by omega) (by omega)
        omega
    have each : ∀ f ∈ fs, f.2 ∣ t := fun f hf => by
      obtain ⟨d0, cop⟩ := h f hf
      have e1 := div_mul (hd f hf)
      have k1 := g2' f hf
      generalize L / f.2 = q at *
      -- g divides d q and n q, so q
      have kq : g ∣ q := by
        have a1 : g.natAbs ∣ f.1.natAbs * q.natAbs := by rw [← Int.natAbs_mul]; exact Int.natAbs_dvd_natAbs.mpr k1
        have a2 : g.natAbs ∣ f.2.natAbs * q.natAbs := by rw [← Int.natAbs_mul, e1]; exact Int.natAbs_dvd_natAbs.mpr ⟨t, ht⟩
        have a3 := Nat.dvd_gcd a1 a2
        rw [Nat.gcd_mul_right, cop, Nat.one_mul] at a3
        exact Int.natAbs_dvd_natAbs.mp a3
      obtain ⟨s, rfl⟩ := kq
      refine ⟨s, ?_⟩
      have : g * t = g * (f.2 * s) := by
        rw [← ht, ← e1]
        simp only [Int.mul_assoc, Int.mul_left_comm, Int.mul_comm]
      exact Int.eq_of_mul_eq_mul_left (by omega) this
    obtain ⟨r, hr⟩ := hm t (Int.one_dvd t) each
    have : 1 * t = (g * r) * t := by
      rw [Int.one_mul]
      conv => lhs; rw [hr, ht]
      simp only [Int.mul_assoc, Int.mul_left_comm, Int.mul_comm]
    have e1 := Int.eq_of_mul_eq_mul_right (by omega) this
    have r0 : 0 < r := by
      by_cases q : 0 < r
      · exact q
      · have : g * r ≤ 0 := Int.mul_nonpos_of_nonneg_of_nonpos (by omega) (by omega)
        omega
    have : g * 1 ≤ g * r := Int.mul_le_mul_of_nonneg_left (by omega) (by omega)
    omega
  unfold prim
  rw [hg, if_neg (by decide)]
  have : (fun n : Int => n / 1) = id := by funext n; exact Int.ediv_one n
  rw [this, List.map_id]
/-- what the law makes of coordinates is what the program makes -/
theorem made_same {fs : List (Int × Int)} (h : ∀ f ∈ fs, Low f) : prim (over1 (prodD fs) fs) = over1 (lcmD fs) fs := by
  obtain ⟨L0, _, hd, _⟩ := lcmD_facts fs 1 (by decide) fun f hf => (h f hf).1
  obtain ⟨M0, _, hd2⟩ := prodD_facts fs 1 (by decide) fun f hf => (h f hf).1
  rw [← over1_prim h]
  exact prim_prop L0 M0 (over1_prop (fun f hf => (h f hf).1) hd2 hd)

abbrev s_common_divisor : Stmt := topS 21
theorem sc_common_divisor : FnScope ["v", "common", "entry"] ["v"] (defScope s_common_divisor) := ⟨rfl, rfl, rfl, by decide +kernel, rfl, by decide +kernel, by decide +kernel⟩
def spCd : Sp := fun vs H Q _ => ∃ (a : Addr) (ns : List Int), vs = [.ref a] ∧ Vc H a ns ∧ Q (.int (gl ns)) H
theorem ok_cd {f : Addr} {fd : FuncData} {k : Nat} (F : Fun K "common_divisor" "common_divisor" s_common_divisor f fd) (Z : Glb mg) : FnOk P w K mg base CX0 (k + 1) f fd ["v"] spCd := by
  refine F.ok sc_common_divisor (fun vs H Q E h => ?_) (fun cdv A outer s H vs Q E hr h => ?_)
  · obtain ⟨a, ns, rfl, _⟩ := h
    rfl
  · obtain ⟨a, ns, rfl, hv, q⟩ := h
    refine ⟨_, (pss_cons (ps_set (i := 1) sc_common_divisor.nd rfl (.inl rfl) pe_int)
      (pss_cons (ps_for PassesOwn.never rfl (pi_tup (pv 0)) (pg_name (i := 2) sc_common_divisor.nd rfl (.inl rfl)) (pss_one (ps_set (i := 1) sc_common_divisor.nd rfl (.inl rfl) (pe_callBfun cr_gcd (by rfl) Z.m_gcd (pa_cons (pv 1) (pa_cons (pv 2) pa_nil))))))
      (pss_one (ps_ret (pv 1))))), ?_⟩
    refine ⟨_, rfl, a, rfl, ⟨_, SqT.of hv⟩, ?_⟩
    refine for_tup (xs := ns.map V.int) (fun i σ H' => H' = H ∧ ∃ y2 : Option V, σ = [some (.ref a), some (.int (gl (ns.take i))), y2]) ⟨rfl, _, rfl⟩ (fun i σ H' _ hP => by obtain ⟨rfl, _⟩ := hP; exact SqT.of hv) (fun i x σ H' hx hP => ?_) (fun σ H' hP => ?_)
    · obtain ⟨rfl, y2, rfl⟩ := hP
      obtain ⟨n, hn, rfl⟩ := map_get hx
      refine ⟨_, rfl, _, rfl, _, _, rfl, rfl, some (.int n), ?_⟩
      rw [gl_step hn]
      rfl
    · obtain ⟨rfl, y2, rfl⟩ := hP
      rw [List.length_map, List.take_length]
      exact ⟨_, rfl, q⟩

def spPrim : Sp := fun vs H Q _ => ∃ (a : Addr) (ns : List Int), vs = [.ref a] ∧ Vc H a ns ∧ ns.length ≤ 1000 ∧ (∀ n ∈ ns, n.natAbs < 2 ^ 299) ∧ ∀ (H' : Hp) (r : Addr), Same H H' → Vc H' r (prim ns) → Q (.ref r) H'
abbrev s_primitive : Stmt := topS 22
theorem sc_primitive : FnScope ["v", "common", "entry"] ["v"] (defScope s_primitive) := ⟨rfl, rfl, rfl, by decide +kernel, rfl, by decide +kernel, by decide +kernel⟩
theorem ok_prim {f : Addr} {fd : FuncData} {k : Nat} (F : Fun K "primitive" "primitive" s_primitive f fd) (Z : Glb mg)
    (Ccommon_divisor : Call P w K mg base k "common_divisor" ["v"] spCd) : FnOk P w K mg base CX0 (k + 1) f fd ["v"] spPrim := by
  refine F.ok sc_primitive (fun vs H Q E h => ?_) (fun cdv A outer s H vs Q E hr h => ?_)
  · obtain ⟨a, ns, rfl, _⟩ := h
    rfl
  · obtain ⟨a, ns, rfl, hv, hl, hB, q⟩ := h
    refine ⟨_, (pss_cons (ps_set (i := 1) sc_primitive.nd rfl (.inr rfl) (pe_call Ccommon_divisor.G hr (by rfl) Ccommon_divisor.m Ccommon_divisor.kp Ccommon_divisor.b .nil pass0 (pa_cons (pv 0) pa_nil)))
      (pss_cons (ps_if (pt_cmpR op_eq (pv 1) pe_int (nomark _)) (pss_one (ps_ret (pe_callTy call_tupleT (by rfl) Z.m_tuple (by decide +kernel) (pa_cons (pv 0) pa_nil)))) pss_nil)
      (pss_one (ps_ret (pe_callTy call_tuple_of (by rfl) Z.m_tuple (by decide +kernel) (pa_cons (pe_lc (own := [("entry", 2)]) (g := gName 2) (tt := tYes) (by rfl) sc_primitive.nd (pi_tup (pv 0)) (blkOk_by (own := [("entry", 2)]) (N := ["v", "common", "entry"]) (sc := defScope s_primitive) (by first | decide +kernel | kernel_rfl)) (fun _ _ _ _ _ => (pg_name (i := 2) sc_primitive.nd rfl (.inl rfl))) (fun _ _ _ _ _ => pts_nil) (fun _ _ _ _ _ => (pe_op op_fdivW (pv 2) (pv 1)))) pa_nil)))))), ?_⟩
    refine ⟨_, rfl, a, ns, rfl, hv, ?_⟩
    refine ⟨_, rfl, rfl, _, rfl, ite2 (fun e => ?_) (fun e => ?_)⟩
    · have e0 : gl ns = 0 := V.int.inj (of_decide_eq_true e)
      refine ⟨_, rfl, a, _, rfl, SqT.of hv, ?_⟩
      refine q _ _ (Same.refl _) ?_
      rw [show prim ns = ns from if_pos e0]
      exact hv
    · have e0 : gl ns ≠ 0 := fun z => e (decide_eq_true (by rw [z]))
      have ep : prim ns = ns.map (· / gl ns) := if_neg e0
      have cd : ∀ x : Int, CDivW x (gl ns) := fun x => wide_div (by have := gl_nn ns; omega) (gl_lim (by decide) hB) (by decide) (by decide)
      refine ⟨_, rfl, a, rfl, ⟨_, SqT.of hv⟩, fun D nD => ?_⟩
      refine lc_tup (xs := ns.map V.int) (fun i H' => ∃ H0, Same H H0 ∧ H0 D = none ∧ H' = upd H0 D (.lst (((prim ns).take i).map V.int))) ⟨H, Same.refl _, nD, rfl⟩ (fun i H' _ hP => ?_) (fun i x H' hx hP => ?_) (fun H' hP => ?_)
      · obtain ⟨H0, s0, n0, rfl⟩ := hP
        exact SqT.of ((s0.trans (same_upd n0)) _ _ hv)
      · obtain ⟨H0, s0, n0, rfl⟩ := hP
        obtain ⟨n, hn, rfl⟩ := map_get hx
        refine ⟨rfl, ?_⟩
        unfold tYes
        refine iteT ?_
        refine ⟨_, rfl, _, rfl, _, _, rfl, rfl, cd n, _, upd_same, ?_, H0, s0, n0, ?_⟩
        · rw [List.length_map, List.length_take]
          exact Nat.lt_of_le_of_lt (Nat.min_le_right _ _) (small1000 (by rw [prim_len]; exact hl))
        · rw [upd_upd]
          have hg : (prim ns)[i]? = some (n / gl ns) := by
            rw [ep, List.getElem?_map, hn]
            rfl
          rw [take_get hg, List.map_append]
          rfl
      · obtain ⟨H0, s0, n0, rfl⟩ := hP
        rw [List.length_map, show ns.length = (prim ns).length from (prim_len ns).symm, List.take_length]
        refine ⟨D, _, rfl, .inl ⟨SqL.of upd_same, fun l nl => ?_⟩⟩
        exact q _ _ ((s0.trans (same_upd n0)).trans (same_upd nl)) upd_same

abbrev s_dot : Stmt := topS 20
theorem sc_dot : FnScope ["v", "w", "a", "b"] ["v", "w"] (defScope s_dot) := ⟨rfl, rfl, rfl, by decide +kernel, rfl, by decide +kernel, by decide +kernel⟩
def spDot : Sp := fun vs H Q _ => ∃ (a b : Addr) (ns ms : List Int), vs = [.ref a, .ref b] ∧ Vc H a ns ∧ Vc H b ms ∧ ns.length = ms.length ∧ ns.length ≤ 1000 ∧ (∀ n ∈ ns, n.natAbs < 2 ^ 299) ∧ (∀ n ∈ ms, n.natAbs < 2 ^ 299) ∧ ∀ H' : Hp, Same H H' → Q (.int (dotz ns ms).sum) H'
theorem ok_dot {f : Addr} {fd : FuncData} {k : Nat} (F : Fun K "dot" "dot" s_dot f fd) (Z : Glb mg) : FnOk P w K mg base CX0 (k + 1) f fd ["v", "w"] spDot := by
  refine F.ok sc_dot (fun vs H Q E h => ?_) (fun cdv A outer s H vs Q E hr h => ?_)
  · obtain ⟨a, b, ns, ms, rfl, _⟩ := h
    rfl
  · obtain ⟨a, b, ns, ms, rfl, ha, hb, hl, hm, B1, B2, q⟩ := h
    refine ⟨_, (pss_one (ps_ret (pe_callB (cr_sum rfl) (by rfl) Z.m_sum (by decide +kernel) (pa_cons (pe_lc (own := [("a", 2), ("b", 3)]) (g := gTup K 2 (gCons (gName 2) (gCons (gName 3) gNil))) (tt := tYes) (by rfl) sc_dot.nd (pi_zipA (by rfl) Z.m_zip (pa_cons (pv 0) (pa_cons (pv 1) pa_nil))) (blkOk_by (own := [("a", 2), ("b", 3)]) (N := ["v", "w", "a", "b"]) (sc := defScope s_dot) (by first | decide +kernel | kernel_rfl)) (fun _ _ _ _ _ => (pg_tup rfl (pgs_cons (pg_name (i := 2) sc_dot.nd rfl (.inl rfl)) (pgs_cons (pg_name (i := 3) sc_dot.nd rfl (.inl rfl)) pgs_nil)))) (fun _ _ _ _ _ => pts_nil) (fun _ _ _ _ _ => (pe_op op_mulW (pv 2) (pv 3)))) pa_nil)))), ?_⟩
    refine ⟨_, rfl, _, rfl, a, b, ns.map V.int, ms.map V.int, rfl, .inr ⟨SqT.of ha, SqT.of hb, fun D nD => ?_⟩⟩
    refine lc_it (walk_zipT (xs := ns.map V.int) (ys := ms.map V.int) (n := ns.length) (by rw [List.length_map]) (by rw [List.length_map]; exact hl.symm)) (fun i H' => ∃ H0, Same H H0 ∧ H0 D = none ∧ H' = upd H0 D (.lst (((dotz ns ms).take i).map V.int))) ⟨H, Same.refl _, nD, rfl⟩ (fun i H' _ hP => ?_) (fun i x H' H'' hi hP hY => ?_) (fun H' hP => ?_)
    · obtain ⟨H0, s0, n0, rfl⟩ := hP
      have s1 := s0.trans (same_upd (o := .lst (((dotz ns ms).take i).map V.int)) n0)
      exact ⟨SqT.of (s1 _ _ ha), SqT.of (s1 _ _ hb)⟩
    · obtain ⟨H0, s0, n0, rfl⟩ := hP
      obtain ⟨T, x1, y1, rfl, nT, rfl, hx, hy⟩ := hY
      obtain ⟨n, hn, rfl⟩ := map_get hx
      obtain ⟨m, hm', rfl⟩ := map_get hy
      refine ⟨T, [.int n, .int m], rfl, SqT.of upd_same, rfl, _, _, rfl, _, _, rfl, rfl, rfl, ?_⟩
      unfold tYes
      refine iteT ?_
      have hT : D ≠ T := ne_of_none upd_same nT
      have nT0 : H0 T = none := by rw [upd_ne hT.symm] at nT; exact nT
      refine ⟨_, rfl, _, rfl, _, _, rfl, rfl, cmul (B1 n (List.mem_of_getElem? hn)) (B2 m (List.mem_of_getElem? hm')), ((dotz ns ms).take i).map V.int, by rw [upd_ne hT]; exact upd_same, ?_, upd H0 T (.tup [.int n, .int m]), s0.trans (same_upd nT0), by rw [upd_ne hT]; exact n0, ?_⟩
      · rw [List.length_map, List.length_take]
        exact Nat.lt_of_le_of_lt (Nat.min_le_right _ _) (small1000 (by rw [dotz_len hl]; exact hm))
      · rw [take_get (dotz_get hn hm'), List.map_append]
        funext x
        unfold upd
        by_cases h1 : x = D
        · subst h1
          rw [if_pos rfl, if_pos rfl]
          rfl
        · rw [if_neg h1, if_neg h1]
          by_cases h2 : x = T
          · simp [h2, hT.symm]
          · simp [h1, h2]
    · obtain ⟨H0, s0, n0, rfl⟩ := hP
      rw [show ns.length = (dotz ns ms).length from (dotz_len hl).symm, List.take_length]
      refine ⟨D, _, rfl, SqL.of upd_same, ?_⟩
      exact q _ (s0.trans (same_upd n0))

theorem cat_h {H : Hp} {a b : Addr} {xs ys : List V} {Q : VK} (ha : H a = some (.tup xs)) (hb : H b = some (.tup ys)) (hz : xs.length + ys.length ≤ 1000) (q : ∀ (H' : Hp) (r : Addr), Same H H' → H' r = some (.tup (xs ++ ys)) → Q (.ref r) H') : rCatA K (.ref a) (.ref b) H Q :=
  ⟨a, b, xs, ys, rfl, rfl, SqT.of ha, SqT.of hb, Nat.le_of_lt (small1000 hz), fun e => q _ _ (Same.refl _) (by rw [e]; exact hb), fun _ e => q _ _ (Same.refl _) (by rw [e, List.append_nil]; exact ha), fun _ _ p np => q _ _ (same_upd np) upd_same⟩
theorem cut_whole {xs : List V} {lo hi : Option Int} (h : HT.sIx xs.length 0 lo = 0 ∧ HT.sIx xs.length xs.length hi = xs.length) : cutV xs lo hi = xs := by
  unfold cutV
  rw [h.1, h.2]
  exact List.take_length
theorem sl_h {H : Hp} {a : Addr} {xs : List V} {lo hi : Option Int} {Q : VK} (ha : H a = some (.tup xs)) (q : ∀ (H' : Hp) (r : Addr), Same H H' → H' r = some (.tup (cutV xs lo hi)) → Q (.ref r) H') : rSlA K (.ref a) lo hi H Q :=
  ⟨a, xs, rfl, SqT.of ha, fun e => q _ _ (Same.refl _) (by rw [cut_whole e]; exact ha), fun _ p np => q _ _ (same_upd np) upd_same⟩
theorem cut_mem {xs : List V} {lo hi : Option Int} {x : V} (h : x ∈ cutV xs lo hi) : x ∈ xs := List.mem_of_mem_drop (List.mem_of_mem_take h)
theorem cut_take (xs : List V) (j : Nat) : cutV xs none (some (j : Int)) = xs.take j := by
  unfold cutV
  rw [HT.sIx_none, HT.sIx_nat, List.drop_zero, Nat.sub_zero]
  by_cases h : j ≤ xs.length
  · rw [Nat.min_eq_left h]
  · rw [Nat.min_eq_right (by omega), List.take_length, List.take_of_length_le (by omega)]
theorem cut_drop (xs : List V) (j : Nat) : cutV xs (some (j : Int)) none = xs.drop j := by
  unfold cutV
  rw [HT.sIx_none, HT.sIx_nat]
  by_cases h : j ≤ xs.length
  · rw [Nat.min_eq_left h]
    exact List.take_of_length_le (by rw [List.length_drop]; exact Nat.le_refl _)
  · rw [Nat.min_eq_right (by omega), Nat.sub_self, List.take_zero, List.drop_eq_nil_of_le (by omega)]

/-! ### == of tuples of ints -/
theorem eqv_ints : ∀ ns ms : List Int, PyData.eqvAll (ns.map PyData.int) (ms.map PyData.int) = decide (ns = ms)
  | [], [] => by rw [List.map_nil, PyData.eqvAll]; rfl
  | [], m :: ms => by rw [List.map_nil, List.map_cons, PyData.eqvAll]; rfl
  | n :: ns, [] => by rw [List.map_nil, List.map_cons, PyData.eqvAll]; rfl
  | n :: ns, m :: ms => by
    rw [List.map_cons, List.map_cons, PyData.eqvAll, PyData.eqv, eqv_ints ns ms]
    by_cases h : n = m
    · subst h
      by_cases h2 : ns = ms <;> simp [h2]
    · simp [h]
theorem lay_ints : ∀ ns : List Int, PyData.canLayAll0 (ns.map PyData.int) = true
  | [] => by rw [List.map_nil, PyData.canLayAll0]
  | n :: ns => by
    rw [List.map_cons, PyData.canLayAll0, lay_ints ns]
    rfl
theorem depth_ints : ∀ ns : List Int, PyData.depthAll (ns.map PyData.int) ≤ 1
  | [] => by rw [List.map_nil, PyData.depthAll]; omega
  | n :: ns => by
    have := depth_ints ns
    rw [List.map_cons, PyData.depthAll, PyData.depth]
    omega
theorem shaped_ints (ns : List Int) (h : ns.length ≤ 1000) : SeqAt.shaped (.tuple (ns.map PyData.int)) = true := by
  unfold SeqAt.shaped
  rw [Bool.and_eq_true]
  refine ⟨?_, ?_⟩
  · rw [PyData.canLay0, lay_ints]
  · rw [decide_eq_true_iff, PyData.depth]
    have := depth_ints ns
    omega
theorem dp_ints {H : Hp} : ∀ ns : List Int, DpAll K H (ns.map V.int) (ns.map PyData.int)
  | [] => .nil
  | n :: ns => .cons (.int n) (dp_ints ns)

/-! ### lists of fractions, lists of vectors -/
/-- a list of tuples that are told by R -/
def RL (H : Hp) (a : Addr) (n : Nat) (R : Nat → Addr → Prop) : Prop := ∃ rs : List Addr, H a = some (.lst (rs.map V.ref)) ∧ rs.length = n ∧ ∀ i r, rs[i]? = some r → R i r
def FL (H : Hp) (a : Addr) (fs : List (Int × Int)) (B : Nat) : Prop := RL H a fs.length fun i r => ∃ f, fs[i]? = some f ∧ Fr H r f.1 f.2 B
def VL (H : Hp) (a : Addr) (vs : List (List Int)) : Prop := RL H a vs.length fun i r => ∃ v, vs[i]? = some v ∧ Vc H r v
theorem FL.same {H H' : Hp} {a : Addr} {fs : List (Int × Int)} {B : Nat} (h : FL H a fs B) (s : Same H H') : FL H' a fs B := by
  obtain ⟨rs, e, l, g⟩ := h
  exact ⟨rs, s _ _ e, l, fun i r hr => by obtain ⟨f, h1, h2⟩ := g i r hr; exact ⟨f, h1, h2.same s⟩⟩
theorem VL.same {H H' : Hp} {a : Addr} {vs : List (List Int)} (h : VL H a vs) (s : Same H H') : VL H' a vs := by
  obtain ⟨rs, e, l, g⟩ := h
  exact ⟨rs, s _ _ e, l, fun i r hr => by obtain ⟨f, h1, h2⟩ := g i r hr; exact ⟨f, h1, h2.same s⟩⟩
theorem FL.kp {H H' : Hp} {a p : Addr} {fs : List (Int × Int)} {B : Nat} (h : FL H a fs B) (hP : Pl H p) (ne : a ≠ p) (s : Keep p H H') : FL H' a fs B := by
  obtain ⟨rs, e, l, g⟩ := h
  exact ⟨rs, s _ _ ne e, l, fun i r hr => by obtain ⟨f, h1, h2⟩ := g i r hr; exact ⟨f, h1, s _ _ (hP.ne h2.1) h2.1, h2.2⟩⟩
theorem VL.kp {H H' : Hp} {a p : Addr} {vs : List (List Int)} (h : VL H a vs) (hP : Pl H p) (ne : a ≠ p) (s : Keep p H H') : VL H' a vs := by
  obtain ⟨rs, e, l, g⟩ := h
  exact ⟨rs, s _ _ ne e, l, fun i r hr => by obtain ⟨f, h1, h2⟩ := g i r hr; exact ⟨f, h1, h2.keep hP s⟩⟩
theorem ref_get {rs : List Addr} {i : Nat} {x : V} (h : (rs.map V.ref)[i]? = some x) : ∃ r, rs[i]? = some r ∧ x = .ref r := by
  rw [List.getElem?_map] at h
  cases e : rs[i]? with
  | none => rw [e] at h; cases h
  | some r => rw [e] at h; exact ⟨r, rfl, (Option.some.inj h).symm⟩
theorem get_ref {rs : List Addr} {i : Nat} {r : Addr} (h : rs[i]? = some r) : (rs.map V.ref)[i]? = some (.ref r) := by
  rw [List.getElem?_map, h]
  rfl
theorem RL.at {H : Hp} {a : Addr} {n i : Nat} {R : Nat → Addr → Prop} (h : RL H a n R) (hi : i < n) : ∃ (rs : List Addr) (r : Addr), H a = some (.lst (rs.map V.ref)) ∧ rs[i]? = some r ∧ R i r := by
  obtain ⟨rs, e, l, g⟩ := h
  have : rs[i]? = some (rs[i]'(by omega)) := List.getElem?_eq_getElem (by omega)
  exact ⟨rs, _, e, this, g _ _ this⟩
/-- lists of alike tuples are alike -/
theorem fl_alike {H : Hp} {a b : Addr} {fs : List (Int × Int)} {B C : Nat} (ha : FL H a fs B) (hb : FL H b fs C) (hl : fs.length ≤ 1000) : Alike H 2 (.ref a) (.ref b) := by
  obtain ⟨rs, e, l, g⟩ := ha
  obtain ⟨ts, e', l', g'⟩ := hb
  refine .lst e e' (by rw [List.length_map, List.length_map]; omega) (by rw [List.length_map]; omega) fun i x y h1 h2 => ?_
  obtain ⟨r, h3, rfl⟩ := ref_get h1
  obtain ⟨t, h4, rfl⟩ := ref_get h2
  obtain ⟨f, k1, k2⟩ := g i r h3
  obtain ⟨f', k3, k4⟩ := g' i t h4
  have := Option.some.inj (k1.symm.trans k3)
  subst this
  refine .tup k2.1 k4.1 rfl (by show 2 ≤ 1000000; decide) fun j u v h5 h6 => ?_
  have := Option.some.inj (h5.symm.trans h6)
  subst this
  match j with
  | 0 => cases h5; exact .int 0 _
  | 1 => cases h5; exact .int 0 _
  | j + 2 => cases h5
/-! ### made_point, coordinates .. -/
theorem lcm_take {fs : List (Int × Int)} {i : Nat} {f : Int × Int} (h : fs[i]? = some f) : lcmD (fs.take (i + 1)) = ((Nat.lcm (lcmD (fs.take i)).natAbs f.2.natAbs : Nat) : Int) := by
  unfold lcmD
  rw [take_get h, List.foldl_append]
  rfl
theorem lcm_lim2 {fs : List (Int × Int)} {B : Nat} (hB : ∀ f ∈ fs, f.2.natAbs < 2 ^ B) : ∀ i, (lcmD (fs.take i)).natAbs < 2 ^ (B * i + 1)
  | 0 => by
    show 1 < 2 ^ (B * 0 + 1)
    rw [Nat.mul_zero]
    decide
  | i + 1 => by
    have ih := lcm_lim2 hB i
    cases e : fs[i]? with
    | none =>
      have : fs.take (i + 1) = fs.take i := by
        have := List.getElem?_eq_none_iff.mp e
        rw [List.take_of_length_le (by omega), List.take_of_length_le this]
      rw [this]
      exact up_pow ih (by rw [Nat.mul_succ]; omega)
    | some f =>
      rw [lcm_take e, Int.natAbs_natCast]
      have h1 : Nat.lcm (lcmD (fs.take i)).natAbs f.2.natAbs ≤ (lcmD (fs.take i)).natAbs * f.2.natAbs := by
        unfold Nat.lcm
        exact Nat.div_le_self _ _
      have h2 := Nat.mul_lt_mul'' ih (hB f (List.mem_of_getElem? e))
      rw [← Nat.pow_add] at h2
      exact up_pow (Nat.lt_of_le_of_lt h1 h2) (by rw [Nat.mul_succ]; omega)
theorem lcm_lim3 {fs : List (Int × Int)} {B : Nat} (hB : ∀ f ∈ fs, f.2.natAbs < 2 ^ B) : (lcmD fs).natAbs < 2 ^ (B * fs.length + 1) := by
  have := lcm_lim2 hB fs.length
  rwa [List.take_length] at this
abbrev s_made_point : Stmt := topS 24
theorem sc_made_point : FnScope ["coordinates", "common", "_", "b", "a"] ["coordinates"] (defScope s_made_point) := ⟨rfl, rfl, rfl, by decide +kernel, rfl, by decide +kernel, by decide +kernel⟩
def spMadePt : Sp := fun vs H Q _ => ∃ (a : Addr) (fs : List (Int × Int)), vs = [.ref a] ∧ FL H a fs 300 ∧ (∀ f ∈ fs, Low f) ∧ (∀ f ∈ fs, f.2.natAbs < 2 ^ 300) ∧ (∀ f ∈ fs, f.1.natAbs < 2 ^ 300) ∧ 1 ≤ fs.length ∧ fs.length ≤ 10 ∧ ∀ (H' : Hp) (r : Addr), Same H H' → Vc H' r (over1 (lcmD fs) fs) → Q (.ref r) H'
theorem ok_madept {f : Addr} {fd : FuncData} {k : Nat} (F : Fun K "made_point" "made_point" s_made_point f fd) (Z : Glb mg) : FnOk P w K mg base CX0 (k + 1) f fd ["coordinates"] spMadePt := by
  refine F.ok sc_made_point (fun vs H Q E h => ?_) (fun cdv A outer s H vs Q E hr h => ?_)
  · obtain ⟨a, fs, rfl, _⟩ := h
    rfl
  · obtain ⟨a, fs, rfl, hF, hlow, hB, hA, l1, l10, q⟩ := h
    obtain ⟨rs, ea, el, eg⟩ := hF
    refine ⟨_, (pss_cons (ps_set (i := 1) sc_made_point.nd rfl (.inr rfl) pe_int)
      (pss_cons (ps_for PassesOwn.never rfl (pi_list (pv 0)) (pg_tup rfl (pgs_cons (pg_name (i := 2) sc_made_point.nd rfl (.inl rfl)) (pgs_cons (pg_name (i := 3) sc_made_point.nd rfl (.inl rfl)) pgs_nil))) (pss_one (ps_set (i := 1) sc_made_point.nd rfl (.inr rfl) (pe_callBfun cr_lcm (by rfl) Z.m_lcm (pa_cons (pv 1) (pa_cons (pv 3) pa_nil))))))
      (pss_one (ps_ret (pe_op (r := rCatA K) op_catA (pe_tup (pa_cons (pv 1) pa_nil)) (pe_callTy call_tuple_of (by rfl) Z.m_tuple (by decide +kernel) (pa_cons (pe_lc (own := [("a", 4), ("b", 3)]) (g := gTup K 2 (gCons (gName 4) (gCons (gName 3) gNil))) (tt := tYes) (by rfl) sc_made_point.nd (pi_list (pv 0)) (blkOk_by (own := [("a", 4), ("b", 3)]) (N := ["coordinates", "common", "_", "b", "a"]) (sc := defScope s_made_point) (by first | decide +kernel | kernel_rfl)) (fun _ _ _ _ _ => (pg_tup rfl (pgs_cons (pg_name (i := 4) sc_made_point.nd rfl (.inl rfl)) (pgs_cons (pg_name (i := 3) sc_made_point.nd rfl (.inl rfl)) pgs_nil)))) (fun _ _ _ _ _ => pts_nil) (fun _ _ _ _ _ => (pe_op op_mulW (pv 4) (pe_op op_fdivW (pv 1) (pv 3))))) pa_nil))))))), ?_⟩
    refine ⟨_, rfl, a, rfl, ⟨_, SqL.of ea⟩, ?_⟩
    refine for_list (xs := rs.map V.ref) (fun i σ H' => H = H' ∧ ∃ y2 y3 : Option V, σ = [some (.ref a), some (.int (lcmD (fs.take i))), y2, y3, none]) ⟨rfl, _, _, rfl⟩ (fun i σ H' _ hP => by obtain ⟨rfl, _⟩ := hP; exact SqL.of ea) (fun i x σ H' hx hP => ?_) (fun σ H' hP => ?_)
    · obtain ⟨rfl, y2, y3, rfl⟩ := hP
      obtain ⟨r, hr, rfl⟩ := ref_get hx
      obtain ⟨f, hf, ff⟩ := eg i r hr
      have lim := lcm_lim2 hB i
      have hi : i < 10 := by
        have := lt_of_get hf
        omega
      refine ⟨r, [.int f.1, .int f.2], rfl, SqT.of ff.1, rfl, _, _, rfl, _, _, rfl, rfl, ?_⟩
      refine ⟨_, rfl, _, rfl, _, _, rfl, up_pow lim (by omega), up_pow ff.2.2.2 (by decide), rfl, some (.int f.1), some (.int f.2), ?_⟩
      rw [lcm_take hf]
      rfl
    · obtain ⟨rfl, y2, y3, rfl⟩ := hP
      rw [List.length_map, el, List.take_length]
      have lim := lcm_lim3 hB
      have lim2 : (lcmD fs).natAbs < 2 ^ 4000 := up_pow lim (by omega)
      refine ⟨_, rfl, Nat.le_of_lt (small1000 (show 1 ≤ 1000 by decide)), fun c nc => ?_⟩
      have s1 := same_upd (o := .tup [.int (lcmD fs)]) nc
      have hc : (upd H c (.tup [.int (lcmD fs)])) c = some (.tup [.int (lcmD fs)]) := upd_same
      generalize upd H c (.tup [.int (lcmD fs)]) = H1 at *
      refine ⟨_, rfl, a, rfl, ⟨_, SqL.of (s1 _ _ ea)⟩, fun D nD => ?_⟩
      refine lc_list (xs := rs.map V.ref) (fun i H' => Same H1 H' ∧ H' D = some (.lst (((fs.map fun f => f.1 * (lcmD fs / f.2)).take i).map V.int))) ⟨same_upd nD, upd_same⟩ (fun i H' _ hP => SqL.of (hP.1 _ _ (s1 _ _ ea))) (fun i x H' hx hP => ?_) (fun H' hP => ?_)
      · obtain ⟨r, hr, rfl⟩ := ref_get hx
        obtain ⟨f, hf, ff⟩ := eg i r hr
        have fr := hP.1 _ _ (s1 _ _ ff.1)
        refine ⟨r, [.int f.1, .int f.2], rfl, SqT.of fr, rfl, _, _, rfl, _, _, rfl, rfl, rfl, ?_⟩
        unfold tYes
        refine iteT ?_
        have dv := ediv_abs (a := lcmD fs) ff.2.1
        have hg : (fs.map fun f => f.1 * (lcmD fs / f.2))[i]? = some (f.1 * (lcmD fs / f.2)) := by
          rw [List.getElem?_map, hf]
          rfl
        refine ⟨_, rfl, _, rfl, _, rfl, _, _, rfl, rfl, wide_div ff.2.1 ff.2.2.2 (by decide) (by decide), _, _, rfl, rfl, cmul ff.2.2.1 (Nat.lt_of_le_of_lt dv lim2), _, hP.2, ?_, ?_, ?_⟩
        · rw [List.length_map, List.length_take]
          exact Nat.lt_of_le_of_lt (Nat.min_le_right _ _) (small1000 (by rw [List.length_map]; omega))
        · intro x o hxo
          have : x ≠ D := ne_of_none hxo nD
          rw [upd_ne this]
          exact hP.1 _ _ hxo
        · rw [upd_same, take_get hg, List.map_append]
          rfl
      · obtain ⟨sH, eD⟩ := hP
        rw [List.length_map, show rs.length = (fs.map fun f => f.1 * (lcmD fs / f.2)).length by rw [List.length_map, el], List.take_length] at eD
        refine ⟨D, _, rfl, .inl ⟨SqL.of eD, fun t nt => ?_⟩⟩
        refine cat_h ((same_upd nt) _ _ (sH _ _ hc)) upd_same (by rw [List.length_map, List.length_map]; show 1 + fs.length ≤ 1000; omega) fun H5 r5 s5 hr5 => ?_
        exact q _ _ (((s1.trans sH).trans (same_upd nt)).trans s5) hr5

theorem no_get {α : Type} {j : Nat} {r : α} {P : Prop} (h : ([] : List α)[j]? = some r) : P := by
  simp at h
def spCoord : Sp := fun vs H Q _ => ∃ (a : Addr) (w : Int) (xs : List Int), vs = [.ref a] ∧ Vc H a (w :: xs) ∧ 0 < w ∧ w.natAbs < 2 ^ 290 ∧ (∀ x ∈ xs, x.natAbs < 2 ^ 290) ∧ xs.length ≤ 100 ∧ ∀ (H' : Hp) (l : Addr), Same H H' → FL H' l (xs.map fun x => (frN x w, frD x w)) 290 → Q (.ref l) H'
abbrev s_coordinates : Stmt := topS 25
theorem sc_coordinates : FnScope ["point", "entry"] ["point"] (defScope s_coordinates) := ⟨rfl, rfl, rfl, by decide +kernel, rfl, by decide +kernel, by decide +kernel⟩
theorem ok_coord {f : Addr} {fd : FuncData} {k : Nat} (F : Fun K "coordinates" "coordinates" s_coordinates f fd) (Z : Glb mg)
    (Cfraction : Call P w K mg base k "fraction" ["a", "b"] spFr) : FnOk P w K mg base CX0 (k + 1) f fd ["point"] spCoord := by
  refine F.ok sc_coordinates (fun vs H Q E h => ?_) (fun cdv A outer s H vs Q E hr h => ?_)
  · obtain ⟨a, w, xs, rfl, _⟩ := h
    rfl
  · obtain ⟨a, w0, xs, rfl, hv, w1, hw, hB, hl, q⟩ := h
    refine ⟨_, (pss_one (ps_ret (pe_lc (own := [("entry", 1)]) (g := gName 1) (tt := tYes) (by rfl) sc_coordinates.nd (pi_tup (pe_slice sl_tupA (pv 0) (po_some pe_int) po_none)) (blkOk_by (own := [("entry", 1)]) (N := ["point", "entry"]) (sc := defScope s_coordinates) (by first | decide +kernel | kernel_rfl)) (fun _ _ _ _ _ => (pg_name (i := 1) sc_coordinates.nd rfl (.inl rfl))) (fun _ _ _ _ _ => pts_nil) (fun _ _ _ _ _ => (pe_call Cfraction.G hr (by rfl) Cfraction.m Cfraction.kp Cfraction.b .nil pass0 (pa_cons (pv 1) (pa_cons (pe_ix (r := rIxT K) ix_tup (pv 0) pe_int (fun _ _ => rfl)) pa_nil))))))), ?_⟩
    refine ⟨_, rfl, 1, rfl, ?_⟩
    unfold tNoPart
    refine sl_h hv fun H1 r1 s1 hr1 => ?_
    have e1 : cutV ((w0 :: xs).map V.int) (some 1) none = xs.map V.int := by rw [show (1 : Int) = ((1 : Nat) : Int) from rfl, cut_drop]; rfl
    rw [e1] at hr1
    refine ⟨r1, rfl, ⟨_, SqT.of hr1⟩, fun D nD => ?_⟩
    refine lc_tup (xs := xs.map V.int) (fun i H' => Same H1 H' ∧ ∃ rs : List Addr, H' D = some (.lst (rs.map V.ref)) ∧ rs.length = i ∧ ∀ j r, rs[j]? = some r → ∃ x, xs[j]? = some x ∧ Fr H' r (frN x w0) (frD x w0) 290) ⟨same_upd nD, [], upd_same, rfl, fun j r h => no_get h⟩ (fun i H' _ hP => SqT.of (hP.1 _ _ hr1)) (fun i x H' hx hP => ?_) (fun H' hP => ?_)
    · obtain ⟨sH, rs, eD, lr, gr⟩ := hP
      obtain ⟨n, hn, rfl⟩ := map_get hx
      have hi := lt_of_get hn
      refine ⟨rfl, ?_⟩
      unfold tYes
      refine iteT ?_
      have hn2 := hB n (List.mem_of_getElem? hn)
      refine ⟨_, rfl, _, rfl, _, _, _, _, rfl, rfl, SqT.of (sH _ _ (s1 _ _ hv)), atI_nat (j := 0) rfl, n, w0, rfl, w1, up_pow hn2 (by decide), up_pow hw (by decide), fun t nt => ?_⟩
      have st := same_upd (o := .tup [.int (frN n w0), .int (frD n w0)]) nt
      have Dt : D ≠ t := ne_of_none eD nt
      refine ⟨_, st _ _ eD, by rw [List.length_map]; exact small1000 (by omega), ?_, rs ++ [t], by rw [upd_same, List.map_append]; rfl, by rw [List.length_append, lr]; rfl, fun j r hr => ?_⟩
      · intro y o hy
        have : y ≠ D := ne_of_none hy nD
        rw [upd_ne this]
        exact st _ _ (sH _ _ hy)
      · rw [List.getElem?_append] at hr
        split at hr
        · obtain ⟨y, h1, h2⟩ := gr j r hr
          exact ⟨y, h1, by rw [upd_ne (ne_of h2.1 eD (fun z => nomatch z))]; exact st _ _ h2.1, h2.2⟩
        · rename_i h0
          have hj : j = i := by
            have := lt_of_get hr
            rw [List.length_singleton] at this
            omega
          subst hj
          rw [lr, Nat.sub_self] at hr
          cases hr
          exact ⟨n, hn, by rw [upd_ne Dt.symm]; exact upd_same, frD_pos w1, Nat.lt_of_le_of_lt (frN_abs (by omega)) hn2, Nat.lt_of_le_of_lt (frD_abs (by omega)) hw⟩
    · obtain ⟨sH, rs, eD, lr, gr⟩ := hP
      refine q _ _ (s1.trans sH) ⟨rs, eD, by rw [List.length_map]; rw [List.length_map] at lr; exact lr, fun i r hr => ?_⟩
      obtain ⟨x, h1, h2⟩ := gr i r hr
      exact ⟨(frN x w0, frD x w0), by rw [List.getElem?_map, h1]; rfl, h2⟩

abbrev s_reversed_inequality : Stmt := topS 30
theorem sc_reversed_inequality : FnScope ["inequality", "entry"] ["inequality"] (defScope s_reversed_inequality) := ⟨rfl, rfl, rfl, by decide +kernel, rfl, by decide +kernel, by decide +kernel⟩
def spRev : Sp := fun vs H Q _ => ∃ (a : Addr) (ns : List Int), vs = [.ref a] ∧ Vc H a ns ∧ ns.length ≤ 900 ∧ ∀ (H' : Hp) (r : Addr), Same H H' → Vc H' r (ns.map fun n => -n) → Q (.ref r) H'
theorem ok_rev {f : Addr} {fd : FuncData} {k : Nat} (F : Fun K "reversed_inequality" "reversed_inequality" s_reversed_inequality f fd) (Z : Glb mg) : FnOk P w K mg base CX0 (k + 1) f fd ["inequality"] spRev := by
  refine F.ok sc_reversed_inequality (fun vs H Q E h => ?_) (fun cdv A outer s H vs Q E hr h => ?_)
  · obtain ⟨a, ns, rfl, _⟩ := h
    rfl
  · obtain ⟨a, ns, rfl, hv, hl, q⟩ := h
    refine ⟨_, (pss_one (ps_ret (pe_callTy call_tuple_of (by rfl) Z.m_tuple (by decide +kernel) (pa_cons (pe_lc (own := [("entry", 1)]) (g := gName 1) (tt := tYes) (by rfl) sc_reversed_inequality.nd (pi_tup (pv 0)) (blkOk_by (own := [("entry", 1)]) (N := ["inequality", "entry"]) (sc := defScope s_reversed_inequality) (by first | decide +kernel | kernel_rfl)) (fun _ _ _ _ _ => (pg_name (i := 1) sc_reversed_inequality.nd rfl (.inl rfl))) (fun _ _ _ _ _ => pts_nil) (fun _ _ _ _ _ => (pe_un un_neg (pv 1)))) pa_nil)))), ?_⟩
    refine ⟨_, rfl, a, rfl, ⟨_, SqT.of hv⟩, fun D nD => ?_⟩
    refine lc_tup (xs := ns.map V.int) (fun i H' => Same H H' ∧ H' D = some (.lst (((ns.map fun n => -n).take i).map V.int))) ⟨same_upd nD, upd_same⟩ (fun i H' _ hP => SqT.of (hP.1 _ _ hv)) (fun i x H' hx hP => ?_) (fun H' hP => ?_)
    · obtain ⟨n, hn, rfl⟩ := map_get hx
      refine ⟨rfl, ?_⟩
      unfold tYes
      refine iteT ?_
      have hg : (ns.map fun n => -n)[i]? = some (-n) := by
        rw [List.getElem?_map, hn]
        rfl
      refine ⟨_, rfl, _, rfl, _, hP.2, ?_, ?_, ?_⟩
      · rw [List.length_map, List.length_take]
        exact Nat.lt_of_le_of_lt (Nat.min_le_right _ _) (small1000 (by rw [List.length_map]; omega))
      · intro x o hxo
        have : x ≠ D := ne_of_none hxo nD
        rw [upd_ne this]
        exact hP.1 _ _ hxo
      · rw [upd_same, take_get hg, List.map_append]
        rfl
    · obtain ⟨sH, eD⟩ := hP
      rw [List.length_map, show ns.length = (ns.map fun n => -n).length by rw [List.length_map], List.take_length] at eD
      exact ⟨D, _, rfl, .inl ⟨SqL.of eD, fun t nt => q _ _ (sH.trans (same_upd nt)) upd_same⟩⟩
abbrev s_value_at : Stmt := topS 26
theorem sc_value_at : FnScope ["inequality", "point"] ["inequality", "point"] (defScope s_value_at) := ⟨rfl, rfl, rfl, by decide +kernel, rfl, by decide +kernel, by decide +kernel⟩
theorem dotz_lim : ∀ (ns ms : List Int), (∀ n ∈ ns, n.natAbs < 2 ^ 100) → (∀ n ∈ ms, n.natAbs < 2 ^ 100) → (dotz ns ms).sum.natAbs ≤ ns.length * 2 ^ 200
  | [], ms, _, _ => Nat.zero_le _
  | n :: ns, [], _, _ => Nat.zero_le _
  | n :: ns, m :: ms, h1, h2 => by
    have ih := dotz_lim ns ms (fun x hx => h1 x (List.mem_cons_of_mem _ hx)) (fun x hx => h2 x (List.mem_cons_of_mem _ hx))
    have hm := mul_pow (h1 n List.mem_cons_self) (h2 m List.mem_cons_self)
    show ((n * m :: dotz ns ms).sum).natAbs ≤ (ns.length + 1) * 2 ^ 200
    rw [List.sum_cons]
    have : (100 + 100 : Nat) = 200 := rfl
    rw [this] at hm
    omega
def spVal : Sp := fun vs H Q _ => ∃ (a b : Addr) (ns : List Int) (w : Int) (xs : List Int), vs = [.ref a, .ref b] ∧ Vc H a ns ∧ Vc H b (w :: xs) ∧ 0 < w ∧ ns.length = xs.length + 1 ∧ ns.length ≤ 100 ∧ (∀ n ∈ ns, n.natAbs < 2 ^ 100) ∧ (∀ n ∈ w :: xs, n.natAbs < 2 ^ 100) ∧
  ∀ (H' : Hp) (r : Addr), Same H H' → H' r = some (.tup [.int (frN (dotz ns (w :: xs)).sum w), .int (frD (dotz ns (w :: xs)).sum w)]) → Q (.ref r) H'
theorem ok_val {f : Addr} {fd : FuncData} {k : Nat} (F : Fun K "value_at" "value_at" s_value_at f fd) (Z : Glb mg)
    (Cfraction : Call P w K mg base k "fraction" ["a", "b"] spFr) (Cdot : Call P w K mg base k "dot" ["v", "w"] spDot) : FnOk P w K mg base CX0 (k + 1) f fd ["inequality", "point"] spVal := by
  refine F.ok sc_value_at (fun vs H Q E h => ?_) (fun cdv A outer s H vs Q E hr h => ?_)
  · obtain ⟨a, b, ns, w0, xs, rfl, _⟩ := h
    rfl
  · obtain ⟨a, b, ns, w0, xs, rfl, ha, hb, w1, hl, hl2, B1, B2, q⟩ := h
    refine ⟨_, (pss_one (ps_ret (pe_call Cfraction.G hr (by rfl) Cfraction.m Cfraction.kp Cfraction.b .nil pass0 (pa_cons (pe_call Cdot.G hr (by rfl) Cdot.m Cdot.kp Cdot.b .nil pass0 (pa_cons (pv 0) (pa_cons (pv 1) pa_nil))) (pa_cons (pe_ix (r := rIxT K) ix_tup (pv 1) pe_int (fun _ _ => rfl)) pa_nil))))), ?_⟩
    refine ⟨_, rfl, _, rfl, a, b, ns, w0 :: xs, rfl, ha, hb, by rw [List.length_cons]; exact hl, by omega, fun n hn => up_pow (B1 n hn) (by decide), fun n hn => up_pow (B2 n hn) (by decide), fun H1 s1 => ?_⟩
    have lim := dotz_lim ns (w0 :: xs) B1 B2
    have lim2 : (dotz ns (w0 :: xs)).sum.natAbs < 2 ^ 299 := by
      have h1 : ns.length * 2 ^ 200 ≤ 100 * 2 ^ 200 := Nat.mul_le_mul_right _ hl2
      have h2 : 100 * 2 ^ 200 < 2 ^ 299 := by decide
      omega
    exact ⟨_, rfl, _, _, _, _, rfl, rfl, SqT.of (hb.same s1), atI_nat (j := 0) rfl, _, _, rfl, w1, lim2, up_pow (B2 w0 List.mem_cons_self) (by decide), fun p np => q _ _ (s1.trans (same_upd np)) upd_same⟩

/-! ### combined, middle -/
def stepC (t : List Int) (q : Int × List Int) : List Int := List.zipWith (fun a b => a + q.1 * b) t q.2
def comb (n : Nat) (ws : List Int) (vss : List (List Int)) : List Int := (ws.zip vss).foldl stepC (List.replicate n 0)
def combT (n : Nat) (ws : List Int) (vss : List (List Int)) (i : Nat) : List Int := ((ws.zip vss).take i).foldl stepC (List.replicate n 0)
theorem combT_step {n i : Nat} {ws : List Int} {vss : List (List Int)} {x : Int} {v : List Int} (h1 : ws[i]? = some x) (h2 : vss[i]? = some v) : combT n ws vss (i + 1) = stepC (combT n ws vss i) (x, v) := by
  unfold combT
  rw [take_get (List.getElem?_zip_eq_some (z := (x, v)) |>.mpr ⟨h1, h2⟩), List.foldl_append]
  rfl
theorem combT_len {n : Nat} {ws : List Int} {vss : List (List Int)} (hl : ws.length = vss.length) (hn : ∀ v ∈ vss, v.length = n) : ∀ i, (combT n ws vss i).length = n
  | 0 => by
    show (List.replicate n (0 : Int)).length = n
    exact List.length_replicate
  | i + 1 => by
    by_cases hi : i < ws.length
    · rw [combT_step (List.getElem?_eq_getElem hi) (List.getElem?_eq_getElem (by omega))]
      unfold stepC
      rw [List.length_zipWith, combT_len hl hn i, hn _ (List.getElem_mem _), Nat.min_self]
    · have : combT n ws vss (i + 1) = combT n ws vss i := by
        unfold combT
        have hz : (ws.zip vss).length ≤ i := by rw [List.length_zip]; omega
        rw [List.take_of_length_le (by omega), List.take_of_length_le hz]
      rw [this, combT_len hl hn i]
theorem combT_all {n : Nat} {ws : List Int} {vss : List (List Int)} (hl : ws.length = vss.length) : combT n ws vss ws.length = comb n ws vss := by
  unfold combT comb
  rw [List.take_of_length_le (by rw [List.length_zip]; omega)]
abbrev s_combined : Stmt := topS 27
theorem sc_combined : FnScope ["weights", "vectors", "total", "weight", "vector", "a", "b"] ["weights", "vectors"] (defScope s_combined) := ⟨rfl, rfl, rfl, by decide +kernel, rfl, by decide +kernel, by decide +kernel⟩
theorem rep_zero : ∀ n : Nat, (List.replicate n [V.int 0]).flatten = (List.replicate n (0 : Int)).map V.int
  | 0 => rfl
  | n + 1 => by
    rw [List.replicate_succ, List.replicate_succ, List.flatten_cons, rep_zero n]
    rfl
def spComb : Sp := fun vs H Q _ => ∃ (k : Bool) (a b : Addr) (ws : List Int) (vss : List (List Int)) (n : Nat), vs = [.ref a, .ref b] ∧ Tk k H a (ws.map V.int) ∧ VL H b vss ∧ ws.length = vss.length ∧ 1 ≤ vss.length ∧ vss.length ≤ 100 ∧ (∀ v ∈ vss, v.length = n) ∧ n ≤ 100 ∧ (∀ x ∈ ws, x.natAbs < 2 ^ 100) ∧ (∀ v ∈ vss, ∀ x ∈ v, x.natAbs < 2 ^ 100) ∧
  ∀ (H' : Hp) (r : Addr), Same H H' → Vc H' r (comb n ws vss) → Q (.ref r) H'
theorem ok_comb {f : Addr} {fd : FuncData} {k : Nat} (F : Fun K "combined" "combined" s_combined f fd) (Z : Glb mg) : FnOk P w K mg base CX0 (k + 1) f fd ["weights", "vectors"] spComb := by
  refine F.ok sc_combined (fun vs H Q E h => ?_) (fun cdv A outer s H vs Q E hr h => ?_)
  · obtain ⟨kd, a, b, ws, vss, n, rfl, _⟩ := h
    rfl
  · obtain ⟨kd, a, b, ws, vss, n, rfl, ha, hb, hl, l1, l2, hn, n2, B1, B2, q⟩ := h
    refine ⟨_, (pss_cons (ps_set (i := 2) sc_combined.nd rfl (.inl rfl) (pe_op op_rep (pe_lst (pa_cons pe_int pa_nil)) (pe_callB call_len_seq (by rfl) Z.m_len PySem.boot_len (pa_cons (pe_ix (r := rIxL K) ix_list (pv 1) pe_int (fun _ _ => rfl)) pa_nil))))
      (pss_cons (ps_for PassesOwn.never rfl (pi_zipK (by rfl) Z.m_zip (pa_cons (pv 0) (pa_cons (pv 1) pa_nil))) (pg_tup rfl (pgs_cons (pg_name (i := 3) sc_combined.nd rfl (.inr rfl)) (pgs_cons (pg_name (i := 4) sc_combined.nd rfl (.inl rfl)) pgs_nil))) (pss_one (ps_setLc (i := 2) (own := [("a", 5), ("b", 6)]) (g := gTup K 2 (gCons (gName 5) (gCons (gName 6) gNil))) (tt := tYes) (by rfl) sc_combined.nd rfl rfl (sw_true rfl rfl rfl (by decide +kernel)) (pi_zipK (by rfl) Z.m_zip (pa_cons (pv 2) (pa_cons (pv 4) pa_nil))) (blkOk_by (own := [("a", 5), ("b", 6)]) (N := ["weights", "vectors", "total", "weight", "vector", "a", "b"]) (sc := defScope s_combined) (by first | decide +kernel | kernel_rfl)) (fun _ _ _ _ _ => (pg_tup rfl (pgs_cons (pg_name (i := 5) sc_combined.nd rfl (.inl rfl)) (pgs_cons (pg_name (i := 6) sc_combined.nd rfl (.inl rfl)) pgs_nil)))) (fun _ _ _ _ _ => pts_nil) (fun _ _ _ _ _ => (pe_op op_add (pv 5) (pe_op op_mulW (pv 3) (pv 6)))))))
      (pss_one (ps_ret (pe_callTy call_tuple_of (by rfl) Z.m_tuple (by decide +kernel) (pa_cons (pv 2) pa_nil)))))), ?_⟩
    obtain ⟨rs, eb, lb, gb⟩ := hb
    have g0 : rs[0]? = some (rs[0]'(by omega)) := List.getElem?_eq_getElem (by omega)
    obtain ⟨v0, hv0, V0⟩ := gb 0 _ g0
    have ln0 : v0.length = n := hn v0 (List.mem_of_getElem? hv0)
    -- total = [0] * ..
    refine ⟨Nat.le_of_lt (small1000 (show 1 ≤ 1000 by decide)), fun z nz => ?_⟩
    have sz := same_upd (o := .lst [.int 0]) nz
    refine ⟨_, rfl, _, _, _, _, rfl, rfl, SqL.of (sz _ _ eb), atI_nat (get_ref g0), _, _, rfl, .inr (SqT.of (sz _ _ V0)), z, _, _, rfl, rfl, upd_same, by omega, by rw [List.length_map]; omega, ?_, fun t nt => ?_⟩
    · rw [List.length_map]
      exact Nat.le_of_lt (small1000 (by show 1 * v0.length ≤ 1000; omega))
    have st := sz.trans (same_upd (o := .lst (List.replicate (((v0.map V.int).length : Nat) : Int).toNat [V.int 0]).flatten) nt)
    have ht : (upd (upd H z (.lst [.int 0])) t (.lst (List.replicate (((v0.map V.int).length : Nat) : Int).toNat [V.int 0]).flatten)) t = some (.lst ((List.replicate n (0 : Int)).map V.int)) := by
      rw [upd_same, rep_zero, List.length_map, ln0]
      rfl
    generalize upd (upd H z (.lst [.int 0])) t (.lst (List.replicate (((v0.map V.int).length : Nat) : Int).toNat [V.int 0]).flatten) = H1 at *
    -- the loop
    refine ⟨_, rfl, _, rfl, kd, false, a, b, ws.map V.int, rs.map V.ref, rfl, (ha.same st).sk, SqL.of (st _ _ eb), ?_⟩
    refine for_it (walk_zipK (xs := ws.map V.int) (ys := rs.map V.ref) (n := ws.length) (by rw [List.length_map]) (by rw [List.length_map]; omega)) (fun i σ H' => Same H1 H' ∧ ∃ (t : Addr) (y3 y4 : Option V), σ = [some (.ref a), some (.ref b), some (.ref t), y3, y4, none, none] ∧ H' t = some (.lst ((combT n ws vss i).map V.int))) ⟨Same.refl _, t, _, _, rfl, ht⟩ (fun i σ H' _ hP => ⟨(ha.same (st.trans hP.1)).sk, SqL.of ((st.trans hP.1) _ _ eb)⟩) (fun i x σ H' H'' hi hP hY => ?_) (fun σ H' hP => ?_)
    · obtain ⟨sH, t1, y3, y4, rfl, ht1⟩ := hP
      obtain ⟨T, x1, y1, rfl, nT, rfl, hx, hy⟩ := hY
      obtain ⟨wi, hwi, rfl⟩ := map_get hx
      obtain ⟨r, hri, rfl⟩ := ref_get hy
      obtain ⟨v, hvi, V1⟩ := gb i r hri
      have lnv : v.length = n := hn v (List.mem_of_getElem? hvi)
      have sT := same_upd (o := .tup [.int wi, .ref r]) nT
      have sA := (st.trans sH).trans sT
      have V2 : Vc (upd H' T (.tup [.int wi, .ref r])) r v := sA _ _ V1
      have ht2 := sT _ _ ht1
      have sB := sH.trans sT
      have hTt : (upd H' T (.tup [.int wi, .ref r])) T = some (.tup [.int wi, .ref r]) := upd_same
      generalize upd H' T (.tup [.int wi, .ref r]) = H2 at *
      refine ⟨T, [.int wi, .ref r], rfl, SqT.of hTt, rfl, _, _, rfl, _, _, rfl, rfl, ?_⟩
      have lenT := combT_len (n := n) hl hn i
      refine ⟨_, rfl, _, rfl, false, true, t1, r, (combT n ws vss i).map V.int, v.map V.int, rfl, SqL.of ht2, SqT.of V2, fun D nD => ?_⟩
      refine lc_it (walk_zipK (xs := (combT n ws vss i).map V.int) (ys := v.map V.int) (n := n) (by rw [List.length_map]; exact lenT) (by rw [List.length_map]; exact lnv)) (fun j H' => Same H2 H' ∧ H' D = some (.lst (((combT n ws vss (i + 1)).take j).map V.int))) ⟨same_upd nD, upd_same⟩ (fun j H' _ hP => ⟨SqL.of (hP.1 _ _ ht2), SqT.of (hP.1 _ _ V2)⟩) (fun j x H' H'' hj hP hY => ?_) (fun H' hP => ?_)
      · obtain ⟨s2, eD⟩ := hP
        obtain ⟨T2, x2, y2, rfl, nT2, rfl, hx2, hy2⟩ := hY
        obtain ⟨aj, haj, rfl⟩ := map_get hx2
        obtain ⟨bj, hbj, rfl⟩ := map_get hy2
        have DT : D ≠ T2 := ne_of_none eD nT2
        have s3 := same_upd (o := .tup [.int aj, .int bj]) nT2
        refine ⟨T2, [.int aj, .int bj], rfl, SqT.of upd_same, rfl, _, _, rfl, _, _, rfl, rfl, rfl, ?_⟩
        unfold tYes
        refine iteT ?_
        have hg : (combT n ws vss (i + 1))[j]? = some (aj + wi * bj) := by
          rw [combT_step hwi hvi]
          unfold stepC
          rw [List.getElem?_zipWith, haj, hbj]
        refine ⟨_, rfl, _, rfl, _, rfl, _, _, rfl, rfl, cmul (B1 wi (List.mem_of_getElem? hwi)) (B2 v (List.mem_of_getElem? hvi) bj (List.mem_of_getElem? hbj)), _, _, rfl, rfl, _, s3 _ _ eD, ?_, ?_, ?_⟩
        · rw [List.length_map, List.length_take]
          exact Nat.lt_of_le_of_lt (Nat.min_le_left _ _) (small1000 (by omega))
        · intro x o hxo
          have : x ≠ D := ne_of_none hxo nD
          rw [upd_ne this]
          exact s3 _ _ (s2 _ _ hxo)
        · rw [upd_same, take_get hg, List.map_append]
          rfl
      · obtain ⟨s2, eD⟩ := hP
        have e2 := combT_len (n := n) hl hn (i + 1)
        have e3 : (combT n ws vss (i + 1)).take n = combT n ws vss (i + 1) := List.take_of_length_le (by omega)
        rw [e3] at eD
        exact ⟨sB.trans s2, D, _, _, rfl, eD⟩
    · obtain ⟨sH, t1, y3, y4, rfl, ht1⟩ := hP
      rw [combT_all hl] at ht1
      exact ⟨_, rfl, t1, _, rfl, .inl ⟨SqL.of ht1, fun r nr => q _ _ ((st.trans sH).trans (same_upd nr)) upd_same⟩⟩
/-- the divisors of points -/
def wsOf (vss : List (List Int)) : List (Int × Int) := vss.map fun v => (0, v.headD 1)
def lcmW (vss : List (List Int)) : Int := lcmD (wsOf vss)
/-- the weights of a middle -/
def midW (vss : List (List Int)) : List Int := vss.map fun v => lcmW vss / v.headD 1
theorem wsOf_get {vss : List (List Int)} {i : Nat} {v : List Int} (h : vss[i]? = some v) : (wsOf vss)[i]? = some (0, v.headD 1) := by
  unfold wsOf
  rw [List.getElem?_map, h]
  rfl
theorem combT_lim {n : Nat} {ws : List Int} {vss : List (List Int)} (hl : ws.length = vss.length) (B1 : ∀ x ∈ ws, x.natAbs < 2 ^ 100) (B2 : ∀ v ∈ vss, ∀ x ∈ v, x.natAbs < 2 ^ 100) : ∀ i, ∀ x ∈ combT n ws vss i, x.natAbs ≤ i * 2 ^ 200
  | 0, x, hx => by
    have : x ∈ List.replicate n (0 : Int) := hx
    rw [List.eq_of_mem_replicate this]
    exact Nat.zero_le _
  | i + 1, x, hx => by
    by_cases hi : i < ws.length
    · have g1 : ws[i]? = some ws[i] := List.getElem?_eq_getElem hi
      have g2 : vss[i]? = some (vss[i]'(by omega)) := List.getElem?_eq_getElem (by omega)
      rw [combT_step g1 g2] at hx
      unfold stepC at hx
      obtain ⟨j, hj⟩ := List.getElem?_of_mem hx
      rw [List.getElem?_zipWith] at hj
      cases e1 : (combT n ws vss i)[j]? with
      | none => rw [e1] at hj; cases hj
      | some y =>
        cases e2 : (vss[i]'(by omega))[j]? with
        | none => rw [e1, e2] at hj; cases hj
        | some z =>
          rw [e1, e2] at hj
          have e : y + ws[i] * z = x := Option.some.inj hj
          have ih := combT_lim hl B1 B2 i y (List.mem_of_getElem? e1)
          have hm := mul_pow (B1 ws[i] (List.getElem_mem _)) (B2 _ (List.mem_of_getElem? g2) z (List.mem_of_getElem? e2))
          rw [show (100 + 100 : Nat) = 200 from rfl] at hm
          have h3 := Int.natAbs_add_le y (ws[i] * z)
          rw [e] at h3
          rw [Nat.succ_mul]
          exact Nat.le_trans h3 (Nat.add_le_add ih (Nat.le_of_lt hm))
    · have : combT n ws vss (i + 1) = combT n ws vss i := by
        unfold combT
        have hz : (ws.zip vss).length ≤ i := by rw [List.length_zip]; omega
        rw [List.take_of_length_le (by omega), List.take_of_length_le hz]
      rw [this] at hx
      exact Nat.le_trans (combT_lim hl B1 B2 i x hx) (Nat.mul_le_mul_right _ (Nat.le_succ i))
/-- multiples of points with one first entry -/
def scl (L : Int) (v : List Int) : List Int := v.map fun x => x * (L / v.headD 1)
theorem stepC_scl (t v : List Int) (m : Int) : stepC t (1, v.map fun x => x * m) = stepC t (m, v) := by
  unfold stepC
  induction t generalizing v with
  | nil => rfl
  | cons a t ih =>
    cases v with
    | nil => rfl
    | cons b v =>
      show (a + 1 * (b * m)) :: List.zipWith _ t (v.map fun x => x * m) = (a + m * b) :: List.zipWith _ t v
      rw [ih v, Int.one_mul, Int.mul_comm]
theorem comb_scl (n : Nat) (L : Int) (vss : List (List Int)) : comb n (List.replicate vss.length 1) (vss.map (scl L)) = comb n (vss.map fun v => L / v.headD 1) vss := by
  unfold comb
  generalize List.replicate n (0 : Int) = t
  induction vss generalizing t with
  | nil => rfl
  | cons v vss ih =>
    rw [List.length_cons, List.replicate_succ, List.map_cons, List.map_cons, List.zip_cons_cons, List.zip_cons_cons, List.foldl_cons, List.foldl_cons, ih]
    congr 1
    exact stepC_scl t v _
theorem app_getC {α : Type} {xs : List α} {x y : α} {j : Nat} (h : (xs ++ [x])[j]? = some y) : xs[j]? = some y ∨ (j = xs.length ∧ y = x) := by
  rw [List.getElem?_append] at h
  split at h
  · exact .inl h
  · have := lt_of_get h
    rw [List.length_singleton] at this
    have hj : j = xs.length := by omega
    subst hj
    rw [Nat.sub_self] at h
    cases h
    exact .inr ⟨rfl, rfl⟩
/-- a vector more at the end -/
theorem VL.pushC {H : Hp} {a r : Addr} {vs : List (List Int)} {v : List Int} {acc : List V} (h : VL H a vs) (hr : Vc H r v) (e : H a = some (.lst acc)) : VL (upd H a (.lst (acc ++ [.ref r]))) a (vs ++ [v]) := by
  obtain ⟨rs, e', l, g⟩ := h
  rw [e'] at e
  have e := HO.lst.inj (Option.some.inj e)
  subst e
  have tups : ∀ t (u : List Int), Vc H t u → Vc (upd H a (.lst (rs.map V.ref ++ [.ref r]))) t u := fun t u ht => by
    unfold Vc at ht ⊢
    rw [upd_ne (ne_of ht e' (fun z => nomatch z))]
    exact ht
  refine ⟨rs ++ [r], by rw [upd_same, List.map_append]; rfl, by rw [List.length_append, List.length_append, l]; rfl, fun i t ht => ?_⟩
  rcases app_getC ht with h1 | ⟨h1, rfl⟩
  · obtain ⟨u, h2, h3⟩ := g i t h1
    exact ⟨u, by rw [List.getElem?_append_left (lt_of_get h2)]; exact h2, tups _ _ h3⟩
  · refine ⟨v, ?_, tups _ _ hr⟩
    rw [h1, l, List.getElem?_append_right (Nat.le_refl _), Nat.sub_self]
    rfl
theorem vl0C {H : Hp} {a : Addr} : VL (upd H a (.lst [])) a [] := ⟨[], upd_same, rfl, fun i r h => by rw [List.getElem?_nil] at h; cases h⟩
def PvC (H : Hp) (D : Addr) (vs : List (List Int)) (H' : Hp) : Prop := Same H H' ∧ VL H' D vs
theorem pvc0 {H : Hp} {D : Addr} (nD : H D = none) : PvC H D [] (upd H D (.lst [])) := ⟨same_upd nD, vl0C⟩
theorem pvc_step {H H' H'' : Hp} {D r : Addr} {vs : List (List Int)} {v : List Int} (nD : H D = none) (hP : PvC H D vs H') (s : Same H' H'') (hr : Vc H'' r v) (hl : vs.length < 1000) :
    ∃ acc, H'' D = some (.lst acc) ∧ acc.length < sizeLine ∧ PvC H D (vs ++ [v]) (upd H'' D (.lst (acc ++ [.ref r]))) := by
  have V2 := hP.2.same s
  obtain ⟨rs, e, l, g⟩ := id V2
  refine ⟨_, e, by rw [List.length_map, l]; exact small1000 (by omega), fun y o hy => ?_, V2.pushC hr e⟩
  rw [upd_ne (ne_of_none hy nD)]
  exact s _ _ (hP.1 _ _ hy)
def rTupOf (K : PySem.W.Frag) : List V → Hp → VK → Prop := fun xs H Q => ∃ p ys, xs = [V.ref p] ∧ ((SqL K H p ys ∧ ∀ l, H l = none → Q (V.ref l) (upd H l (HO.tup ys))) ∨ (SqT K H p ys ∧ Q (V.ref p) H))
abbrev s_with_common_first : Stmt := topS 29
theorem sc_with_common_first : FnScope ["points", "common", "point", "entry"] ["points"] (defScope s_with_common_first) := ⟨rfl, rfl, rfl, by decide +kernel, rfl, by decide +kernel, by decide +kernel⟩
def spWcf : Sp := fun vs H Q _ => ∃ (a : Addr) (vss : List (List Int)) (n : Nat), vs = [.ref a] ∧ VL H a vss ∧ 1 ≤ vss.length ∧ vss.length ≤ 10 ∧ (∀ v ∈ vss, v.length = n) ∧ 1 ≤ n ∧ n ≤ 100 ∧ (∀ v ∈ vss, 0 < v.headD 1) ∧ (∀ v ∈ vss, ∀ x ∈ v, x.natAbs < 2 ^ 5) ∧
  ∀ (H' : Hp) (r : Addr), Same H H' → VL H' r (vss.map (scl (lcmW vss))) → (lcmW vss).natAbs < 2 ^ 60 → Q (.ref r) H'
theorem ok_wcf {f : Addr} {fd : FuncData} {k : Nat} (F : Fun K "with_common_first" "with_common_first" s_with_common_first f fd) (Z : Glb mg) : FnOk P w K mg base CX0 (k + 1) f fd ["points"] spWcf := by
  refine F.ok sc_with_common_first (fun vs H Q E h => ?_) (fun cdv A outer s H vs Q E hr h => ?_)
  · obtain ⟨a, vss, n, rfl, _⟩ := h
    rfl
  · obtain ⟨a, vss, n, rfl, hv, l1, l10, hn, n1, n2, hw, hB, q⟩ := h
    refine ⟨_, (pss_cons (ps_set (i := 1) sc_with_common_first.nd rfl (.inr rfl) pe_int)
      (pss_cons (ps_for PassesOwn.never rfl (pi_list (pv 0)) (pg_name (i := 2) sc_with_common_first.nd rfl (.inl rfl)) (pss_one (ps_set (i := 1) sc_with_common_first.nd rfl (.inr rfl) (pe_callBfun cr_lcm (by rfl) Z.m_lcm (pa_cons (pv 1) (pa_cons (pe_ix (r := rIxT K) ix_tup (pv 2) pe_int (fun _ _ => rfl)) pa_nil))))))
      (pss_one (ps_ret (pe_lc (own := [("point", 2)]) (g := gName 2) (tt := tYes) (by rfl) sc_with_common_first.nd (pi_list (pv 0)) (blkOk_by (own := [("point", 2)]) (N := ["points", "common", "point", "entry"]) (sc := defScope s_with_common_first) (by first | decide +kernel | kernel_rfl)) (fun _ _ _ _ _ => (pg_name (i := 2) sc_with_common_first.nd rfl (.inr rfl))) (fun _ _ _ _ _ => pts_nil) (fun _ _ _ _ _ => (pe_callTy (T := "tuple") (r := rTupOf K) call_tuple_of (by rfl) Z.m_tuple (by decide +kernel) (pa_cons (pe_lc (own := [("entry", 3)]) (wi := iTup K (tVar 2)) (g := gName 3) (tt := tYes) (by rfl) sc_with_common_first.nd (pi_tup (pv 2)) (blkOk_by (own := [("entry", 3)]) (N := ["points", "common", "point", "entry"]) (by first | decide +kernel | kernel_rfl)) (fun _ _ _ _ _ => (pg_name (i := 3) sc_with_common_first.nd rfl (.inl rfl))) (fun _ _ _ _ _ => pts_nil) (fun _ _ _ _ _ => (pe_op op_mulW (pv 3) (pe_op op_fdivW (pv 1) (pe_ix (r := rIxT K) ix_tup (pv 2) pe_int (fun _ _ => rfl)))))) pa_nil)))))))), ?_⟩
    have hv' := hv
    obtain ⟨rs, ea, el, eg⟩ := hv
    have head : ∀ v ∈ vss, v[0]? = some (v.headD 1) := fun v hvm => by
      have := hn v hvm
      cases v with
      | nil => simp at this; omega
      | cons x r => rfl
    have hdB : ∀ v ∈ vss, (v.headD 1).natAbs < 2 ^ 5 := fun v hvm => hB v hvm _ (List.mem_of_getElem? (head v hvm))
    have wB : ∀ f ∈ wsOf vss, f.2.natAbs < 2 ^ 5 := fun f hf => by
      obtain ⟨v, hvm, rfl⟩ := List.mem_map.mp hf
      exact hdB v hvm
    have wl : (wsOf vss).length = vss.length := by unfold wsOf; rw [List.length_map]
    have wp : ∀ f ∈ wsOf vss, 0 < f.2 := fun f hf => by
      obtain ⟨v, hvm, rfl⟩ := List.mem_map.mp hf
      exact hw v hvm
    refine ⟨_, rfl, a, rfl, ⟨_, SqL.of ea⟩, ?_⟩
    refine for_list (xs := rs.map V.ref) (fun i σ H' => H = H' ∧ ∃ y2 : Option V, σ = [some (.ref a), some (.int (lcmD ((wsOf vss).take i))), y2, none]) ⟨rfl, _, rfl⟩ (fun i σ H' _ hP => by obtain ⟨rfl, _⟩ := hP; exact SqL.of ea) (fun i x σ H' hx hP => ?_) (fun σ H' hP => ?_)
    · obtain ⟨rfl, y2, rfl⟩ := hP
      obtain ⟨r, hri, rfl⟩ := ref_get hx
      obtain ⟨v, hvi, V1⟩ := eg i r hri
      have hvm := List.mem_of_getElem? hvi
      have lim := lcm_lim2 wB i
      have hi := lt_of_get hvi
      refine ⟨_, rfl, _, rfl, _, _, _, _, rfl, rfl, SqT.of V1, atI_nat (get_map (head v hvm)), _, _, rfl, up_pow lim (by omega), up_pow (hdB v hvm) (by decide), rfl, some (.ref r), ?_⟩
      rw [lcm_take (wsOf_get hvi)]
      rfl
    · obtain ⟨rfl, y2, rfl⟩ := hP
      rw [List.length_map, el, show vss.length = (wsOf vss).length from wl.symm, List.take_length]
      have lim : (lcmW vss).natAbs < 2 ^ 60 := up_pow (lcm_lim3 wB) (by omega)
      refine ⟨_, rfl, ?_⟩
      obtain ⟨C0, _, Cd, _⟩ := lcmD_facts (wsOf vss) 1 (by decide) wp
      refine ⟨a, rfl, ⟨_, SqL.of ea⟩, fun D nD => ?_⟩
      refine lc_list (xs := rs.map V.ref) (fun i H' => PvC H D ((vss.map (scl (lcmW vss))).take i) H') (pvc0 nD) (fun i H' _ hP => SqL.of (hP.1 _ _ ea)) (fun i x H' hx hP => ?_) (fun H' hP => ?_)
      · obtain ⟨r, hri, rfl⟩ := ref_get hx
        obtain ⟨v, hvi, V1⟩ := eg i r hri
        have hvm := List.mem_of_getElem? hvi
        have lv := hn v hvm
        refine ⟨rfl, ?_⟩
        unfold tYes
        refine iteT ?_
        have V2 : H' r = some (.tup (v.map V.int)) := hP.1 _ _ V1
        refine ⟨_, rfl, r, rfl, ⟨_, SqT.of V2⟩, fun D2 nD2 => ?_⟩
        refine lc_tup (xs := v.map V.int) (g := gName 3) (tt := fun _ H Q => Q true H) (te := tOp (rI CMulW fun i j => V.int (i * j)) (tVar 3) (tOp (rI CDivW fun i j => V.int (i / j)) (tVar 1) (tOp (rIxT K) (tVar 2) (tC (V.int 0))))) (vs := [3]) (fun j H2 => Same H' H2 ∧ H2 D2 = some (.lst (((scl (lcmW vss) v).take j).map V.int))) ⟨same_upd nD2, upd_same⟩ (fun j H2 _ hP2 => SqT.of (hP2.1 _ _ V2)) (fun j x H2 hx hP2 => ?_) (fun H2 hP2 => ?_)
        · obtain ⟨n0, hn0, rfl⟩ := map_get hx
          refine ⟨rfl, iteT ?_⟩
          have hg : (scl (lcmW vss) v)[j]? = some (n0 * (lcmW vss / v.headD 1)) := by
            unfold scl
            rw [List.getElem?_map, hn0]
            rfl
          have b1 : n0.natAbs < 2 ^ 100 := up_pow (hB v hvm n0 (List.mem_of_getElem? hn0)) (by decide)
          have b2 : (lcmW vss / v.headD 1).natAbs < 2 ^ 100 := up_pow (Nat.lt_of_le_of_lt (ediv_abs (hw v hvm)) lim) (by decide)
          refine ⟨_, rfl, _, rfl, _, rfl, _, _, _, _, rfl, rfl, SqT.of (hP2.1 _ _ V2), atI_nat (get_map (head v hvm)), _, _, rfl, rfl, wide_div (hw v hvm) (hdB v hvm) (by decide) (by decide), _, _, rfl, rfl, cmul b1 b2, _, hP2.2, ?_, ?_, ?_⟩
          · rw [List.length_map, List.length_take]
            exact Nat.lt_of_le_of_lt (Nat.min_le_right _ _) (small1000 (by unfold scl; rw [List.length_map]; omega))
          · intro y o hy
            rw [upd_ne (ne_of_none hy nD2)]
            exact hP2.1 _ _ hy
          · rw [upd_same, take_get hg, List.map_append]
            rfl
        · rw [List.length_map, show v.length = (scl (lcmW vss) v).length by unfold scl; rw [List.length_map], List.take_length] at hP2
          refine ⟨D2, _, rfl, .inl ⟨SqL.of hP2.2, fun T nT => ?_⟩⟩
          rw [take_get (x := scl (lcmW vss) v) (by rw [List.getElem?_map, hvi]; rfl)]
          exact pvc_step nD hP (hP2.1.trans (same_upd nT)) upd_same (by rw [List.length_take, List.length_map]; omega)
      · rw [List.length_map, el, show vss.length = (vss.map (scl (lcmW vss))).length by rw [List.length_map], List.take_length] at hP
        exact q _ _ hP.1 hP.2 lim
abbrev s_middle : Stmt := topS 28
theorem sc_middle : FnScope ["points"] ["points"] (defScope s_middle) := ⟨rfl, rfl, rfl, by decide +kernel, rfl, by decide +kernel, by decide +kernel⟩
def spMid : Sp := fun vs H Q _ => ∃ (a : Addr) (vss : List (List Int)) (n : Nat), vs = [.ref a] ∧ VL H a vss ∧ 1 ≤ vss.length ∧ vss.length ≤ 10 ∧ (∀ v ∈ vss, v.length = n) ∧ 1 ≤ n ∧ n ≤ 100 ∧ (∀ v ∈ vss, 0 < v.headD 1) ∧ (∀ v ∈ vss, ∀ x ∈ v, x.natAbs < 2 ^ 5) ∧
  ∀ (H' : Hp) (r : Addr), Same H H' → Vc H' r (prim (comb n (midW vss) vss)) → Q (.ref r) H'
theorem rep_one : ∀ n : Nat, (List.replicate n [V.int 1]).flatten = (List.replicate n (1 : Int)).map V.int
  | 0 => rfl
  | n + 1 => by
    rw [List.replicate_succ, List.replicate_succ, List.flatten_cons, rep_one n]
    rfl
theorem ok_mid {f : Addr} {fd : FuncData} {k : Nat} (F : Fun K "middle" "middle" s_middle f fd) (Z : Glb mg)
    (Ccombined : Call P w K mg base k "combined" ["weights", "vectors"] spComb) (Cprimitive : Call P w K mg base k "primitive" ["v"] spPrim) (Cwith_common_first : Call P w K mg base k "with_common_first" ["points"] spWcf) : FnOk P w K mg base CX0 (k + 1) f fd ["points"] spMid := by
  refine F.ok sc_middle (fun vs H Q E h => ?_) (fun cdv A outer s H vs Q E hr h => ?_)
  · obtain ⟨a, vss, n, rfl, _⟩ := h
    rfl
  · obtain ⟨a, vss, n, rfl, hv, l1, l10, hn, n1, n2, hw, hB, q⟩ := h
    refine ⟨_, (pss_one (ps_ret (pe_call Cprimitive.G hr (by rfl) Cprimitive.m Cprimitive.kp Cprimitive.b .nil pass0 (pa_cons (pe_call Ccombined.G hr (by rfl) Ccombined.m Ccombined.kp Ccombined.b .nil pass0 (pa_cons (pe_op op_rep (pe_lst (pa_cons pe_int pa_nil)) (pe_callB call_len_seq (by rfl) Z.m_len PySem.boot_len (pa_cons (pv 0) pa_nil))) (pa_cons (pe_call Cwith_common_first.G hr (by rfl) Cwith_common_first.m Cwith_common_first.kp Cwith_common_first.b .nil pass0 (pa_cons (pv 0) pa_nil)) pa_nil))) pa_nil)))), ?_⟩
    obtain ⟨rs, ea, el, eg⟩ := id hv
    refine ⟨(show 1 ≤ sizeLine by decide), fun z nz => ?_⟩
    have sz := same_upd (o := .lst [V.int 1]) nz
    have ez : (upd H z (.lst [V.int 1])) z = some (.lst [V.int 1]) := upd_same
    generalize upd H z (.lst [V.int 1]) = H1 at *
    refine ⟨_, rfl, _, _, rfl, .inl (SqL.of (sz _ _ ea)), z, _, _, rfl, rfl, ez, by omega, by rw [List.length_map]; omega, ?_, fun t nt => ?_⟩
    · rw [List.length_map]
      exact Nat.le_of_lt (small1000 (by show 1 * rs.length ≤ 1000; omega))
    have st := same_upd (o := .lst (List.replicate (((rs.map V.ref).length : Nat) : Int).toNat [V.int 1]).flatten) nt
    have et : (upd H1 t (.lst (List.replicate (((rs.map V.ref).length : Nat) : Int).toNat [V.int 1]).flatten)) t = some (.lst ((List.replicate vss.length (1 : Int)).map V.int)) := by
      rw [upd_same, Int.toNat_natCast, rep_one, List.length_map, el]
    generalize upd H1 t (.lst (List.replicate (((rs.map V.ref).length : Nat) : Int).toNat [V.int 1]).flatten) = H2 at *
    refine ⟨_, rfl, a, vss, n, rfl, hv.same (sz.trans st), l1, l10, hn, n1, n2, hw, hB, fun H3 r3 s3 v3 lim => ?_⟩
    have sB : ∀ v ∈ vss.map (scl (lcmW vss)), v.length = n ∧ ∀ x ∈ v, x.natAbs < 2 ^ 100 := fun v hv => by
      obtain ⟨u, hu, rfl⟩ := List.mem_map.mp hv
      refine ⟨by unfold scl; rw [List.length_map, hn u hu], fun x hx => ?_⟩
      unfold scl at hx
      obtain ⟨y, hy, rfl⟩ := List.mem_map.mp hx
      exact up_pow (mul_pow (hB u hu y hy) (Nat.lt_of_le_of_lt (ediv_abs (hw u hu)) lim)) (by decide)
    have ml : (List.replicate vss.length (1 : Int)).length = (vss.map (scl (lcmW vss))).length := by rw [List.length_replicate, List.length_map]
    have bw : ∀ x ∈ List.replicate vss.length (1 : Int), x.natAbs < 2 ^ 100 := fun x hx => by
      rw [(List.mem_replicate.mp hx).2]
      decide
    refine ⟨false, t, r3, List.replicate vss.length 1, vss.map (scl (lcmW vss)), n, rfl, s3 _ _ et, v3, ml, by rw [List.length_map]; omega, by rw [List.length_map]; omega, fun v hv => (sB v hv).1, n2, bw, fun v hv => (sB v hv).2, fun H4 r4 s4 v4 => ?_⟩
    have key := comb_scl n (lcmW vss) vss
    have bv : ∀ v ∈ vss.map (scl (lcmW vss)), ∀ x ∈ v, x.natAbs < 2 ^ 100 := fun v hv => (sB v hv).2
    refine ⟨r4, comb n (List.replicate vss.length 1) (vss.map (scl (lcmW vss))), rfl, v4, ?_, fun x hx => ?_, fun H5 r5 s5 v5 => ?_⟩
    · rw [← combT_all ml, combT_len ml fun v hv => (sB v hv).1]
      omega
    · rw [← combT_all ml] at hx
      have h1 := combT_lim ml bw bv _ x hx
      rw [List.length_replicate] at h1
      have h2 : vss.length * 2 ^ 200 ≤ 10 * 2 ^ 200 := Nat.mul_le_mul_right _ (by omega)
      exact Nat.lt_of_le_of_lt (Nat.le_trans h1 h2) (by decide)
    · rw [key] at v5
      exact q _ _ ((((sz.trans st).trans s3).trans s4).trans s5) v5

/-! ### the middle of points and the average of their coordinates -/
/-- a sum over points of one entry -/
def colS (ws : List Int) (vss : List (List Int)) (j : Nat) : Nat → Int
  | 0 => 0
  | i + 1 => colS ws vss j i + (ws.getD i 0) * ((vss.getD i []).getD j 0)
theorem combT_get {n : Nat} {ws : List Int} {vss : List (List Int)} (hl : ws.length = vss.length) (hn : ∀ v ∈ vss, v.length = n) {j : Nat} (hj : j < n) : ∀ i, i ≤ ws.length → (combT n ws vss i)[j]? = some (colS ws vss j i)
  | 0, _ => by
    show (List.replicate n (0 : Int))[j]? = some 0
    rw [List.getElem?_replicate, if_pos hj]
  | i + 1, hi => by
    have g1 : ws[i]? = some (ws[i]'(by omega)) := List.getElem?_eq_getElem (by omega)
    have g2 : vss[i]? = some (vss[i]'(by omega)) := List.getElem?_eq_getElem (by omega)
    have ln : (vss[i]'(by omega)).length = n := hn _ (List.getElem_mem _)
    have g3 : (vss[i]'(by omega))[j]? = some ((vss[i]'(by omega))[j]'(by omega)) := List.getElem?_eq_getElem (by omega)
    rw [combT_step g1 g2]
    unfold stepC
    rw [List.getElem?_zipWith, combT_get hl hn hj i (by omega), g3]
    show some _ = some (colS ws vss j i + ws.getD i 0 * (vss.getD i []).getD j 0)
    rw [List.getD_eq_getElem?_getD, g1, List.getD_eq_getElem?_getD, List.getD_eq_getElem?_getD, g2]
    simp only [Option.getD_some]
    rw [g3]
    rfl
/-- the first entries add up to the common divisor as often as there are points -/
theorem col0 {vss : List (List Int)} (hw : ∀ v ∈ vss, 0 < v.headD 1 ∧ v[0]? = some (v.headD 1)) : ∀ i, i ≤ vss.length → colS (midW vss) vss 0 i = (i : Int) * lcmW vss
  | 0, _ => by
    show (0 : Int) = 0 * _
    rw [Int.zero_mul]
  | i + 1, hi => by
    have g2 : vss[i]? = some (vss[i]'(by omega)) := List.getElem?_eq_getElem (by omega)
    have hm := List.mem_of_getElem? g2
    obtain ⟨h1, h2⟩ := hw _ hm
    obtain ⟨_, _, Cd, _⟩ := lcmD_facts (wsOf vss) 1 (by decide) (fun f hf => by obtain ⟨v, hv, rfl⟩ := List.mem_map.mp hf; exact (hw v hv).1)
    have hd : (vss[i]'(by omega)).headD 1 ∣ lcmW vss := Cd (0, (vss[i]'(by omega)).headD 1) (List.mem_map.mpr ⟨_, hm, rfl⟩)
    show colS (midW vss) vss 0 i + (midW vss).getD i 0 * (vss.getD i []).getD 0 0 = ((i + 1 : Nat) : Int) * lcmW vss
    rw [col0 hw i (by omega), List.getD_eq_getElem?_getD, List.getD_eq_getElem?_getD, List.getD_eq_getElem?_getD, g2]
    have g1 : (midW vss)[i]? = some (lcmW vss / (vss[i]'(by omega)).headD 1) := by
      unfold midW
      rw [List.getElem?_map, g2]
      rfl
    rw [g1]
    simp only [Option.getD_some]
    rw [h2]
    simp only [Option.getD_some]
    rw [Int.mul_comm (lcmW vss / _), div_mul hd]
    have : ((i + 1 : Nat) : Int) = (i : Int) + 1 := rfl
    rw [this, Int.add_mul, Int.one_mul]
/-- one more point: the sum as a fraction -/
theorem sum_step {N D n d C S w x c N2 D2 : Int} (hD : 0 < D) (hd : 0 < d) (h1 : N * C = D * S) (h2 : n * w = d * x) (h3 : w * c = C) (h4 : N2 * (D * d) = D2 * (N * d + n * D)) : N2 * C = D2 * (S + c * x) := by
  have e : (N2 * C) * (D * d) = (D2 * (S + c * x)) * (D * d) := by
    have a1 : (N2 * C) * (D * d) = (N2 * (D * d)) * C := by
      simp only [Int.mul_assoc, Int.mul_left_comm, Int.mul_comm]
    have a2 : (N * d + n * D) * C = (N * C) * d + (n * w) * c * D := by
      rw [Int.add_mul, ← h3]
      simp only [Int.mul_assoc, Int.mul_left_comm, Int.mul_comm]
    have a3 : D2 * ((N * C) * d + (n * w) * c * D) = (D2 * (S + c * x)) * (D * d) := by
      rw [h1, h2, Int.mul_add D2 S, Int.add_mul (D2 * S), Int.mul_add D2]
      simp only [Int.mul_assoc, Int.mul_left_comm, Int.mul_comm]
    rw [a1, h4, Int.mul_assoc, a2, a3]
  have pos := Int.mul_pos hD hd
  exact Int.eq_of_mul_eq_mul_right (by omega) e
/-- the average as a fraction -/
theorem avg_step {N D C S m a b : Int} (hD : 0 < D) (h1 : N * C = D * S) (h2 : a * (D * m) = b * (N * 1)) : a * (m * C) = b * S := by
  have e : (a * (m * C)) * D = (b * S) * D := by
    have a1 : (a * (m * C)) * D = (a * (D * m)) * C := by
      simp only [Int.mul_assoc, Int.mul_left_comm, Int.mul_comm]
    have a2 : (b * (N * 1)) * C = b * (N * C) := by
      rw [Int.mul_one, Int.mul_assoc]
    rw [a1, h2, a2, h1]
    simp only [Int.mul_assoc, Int.mul_left_comm, Int.mul_comm]
  exact Int.eq_of_mul_eq_mul_right (by omega) e
/-- the middle is made of the averages -/
theorem mid_same {vss : List (List Int)} {n : Nat} {fs : List (Int × Int)} (h1 : 1 ≤ vss.length) (hn : ∀ v ∈ vss, v.length = n) (hw : ∀ v ∈ vss, 0 < v.headD 1 ∧ v[0]? = some (v.headD 1)) (hf : fs.length + 1 = n) (hlow : ∀ f ∈ fs, Low f)
    (hs : ∀ j f, fs[j]? = some f → f.1 * ((vss.length : Int) * lcmW vss) = f.2 * colS (midW vss) vss (j + 1) vss.length) : prim (comb n (midW vss) vss) = over1 (lcmD fs) fs := by
  have ml : (midW vss).length = vss.length := by unfold midW; rw [List.length_map]
  obtain ⟨C0, _, _, _⟩ := lcmD_facts (wsOf vss) 1 (by decide) (fun f hf => by obtain ⟨v, hv, rfl⟩ := List.mem_map.mp hf; exact (hw v hv).1)
  obtain ⟨L0, _, hd, _⟩ := lcmD_facts fs 1 (by decide) fun f hf => (hlow f hf).1
  have C1 : 0 < lcmW vss := C0
  have m0 : 0 < (vss.length : Int) * lcmW vss := Int.mul_pos (by omega) C1
  rw [← over1_prim hlow]
  refine prim_prop (a := lcmD fs) (b := (vss.length : Int) * lcmW vss) L0 m0 ?_
  have len1 : (comb n (midW vss) vss).length = n := by rw [← combT_all ml]; exact combT_len ml hn _
  apply List.ext_getElem?
  intro i
  rw [List.getElem?_map, List.getElem?_map]
  by_cases hi : i < n
  · rw [← combT_all ml, combT_get ml hn hi _ (Nat.le_refl _), ml]
    cases i with
    | zero =>
      rw [col0 hw _ (Nat.le_refl _)]
      show some (lcmD fs * ((vss.length : Int) * lcmW vss)) = some (((vss.length : Int) * lcmW vss) * lcmD fs)
      rw [Int.mul_comm]
    | succ j =>
      have g : fs[j]? = some (fs[j]'(by omega)) := List.getElem?_eq_getElem (by omega)
      have e := hs j _ g
      have g2 : (over1 (lcmD fs) fs)[j + 1]? = some ((fs[j]'(by omega)).1 * (lcmD fs / (fs[j]'(by omega)).2)) := by
        unfold over1
        rw [List.getElem?_cons_succ, List.getElem?_map, g]
        rfl
      rw [g2]
      simp only [Option.map_some]
      congr 1
      have dm := div_mul (hd _ (List.mem_of_getElem? g))
      have dm' : (fs[j]'(by omega)).2 * (lcmD fs / (fs[j]'(by omega)).2) = lcmD fs := dm
      generalize (fs[j]'(by omega)).1 = a at *
      generalize hb : (fs[j]'(by omega)).2 = b at *
      generalize lcmD fs / b = q at *
      generalize colS (midW vss) vss (j + 1) vss.length = S at *
      generalize (vss.length : Int) * lcmW vss = M at *
      rw [← dm']
      have : b * q * S = q * (b * S) := by simp only [Int.mul_assoc, Int.mul_left_comm, Int.mul_comm]
      rw [this, ← e]
      simp only [Int.mul_assoc, Int.mul_left_comm, Int.mul_comm]
  · have : (over1 (lcmD fs) fs).length = n := by
      unfold over1
      rw [List.length_cons, List.length_map]
      exact hf
    rw [List.getElem?_eq_none (by omega), List.getElem?_eq_none (by omega)]
    rfl

abbrev s_fraction : Stmt := topS 11
theorem sc_fraction : FnScope ["a", "b", "common"] ["a", "b"] (defScope s_fraction) := ⟨rfl, rfl, rfl, by decide +kernel, rfl, by decide +kernel, by decide +kernel⟩
theorem ok_frac {f : Addr} {fd : FuncData} {k : Nat} (F : Fun K "fraction" "fraction" s_fraction f fd) (Z : Glb mg) : FnOk P w K mg base CX0 (k + 1) f fd ["a", "b"] spFr := by
  refine F.ok sc_fraction (fun vs H Q E h => ?_) (fun cdv A outer s H vs Q E hr h => ?_)
  · obtain ⟨a, b, rfl, _⟩ := h
    rfl
  · obtain ⟨a, b, rfl, hp, ha, hb, q⟩ := h
    refine ⟨_, (pss_cons (ps_if (pt_cmpR op_eq (pv 1) pe_int (nomark _)) (pss_one ps_never) pss_nil)
      (pss_cons (ps_set (i := 2) sc_fraction.nd rfl (.inl rfl) (pe_callBfun cr_gcd (by rfl) Z.m_gcd (pa_cons (pv 0) (pa_cons (pv 1) pa_nil))))
      (pss_cons (ps_if (pt_cmpR op_lt (pv 1) pe_int (nomark _)) (pss_one ps_never) pss_nil)
      (pss_one (ps_ret (pe_tup (pa_cons (pe_op op_fdivW (pv 0) (pv 2)) (pa_cons (pe_op op_fdivW (pv 1) (pv 2)) pa_nil)))))))), ?_⟩
    have cd : CDivW b (g2 a b) := wide_div (g2_pos (by omega)) (g2_lim hp hb) (by decide) (by decide)
    refine ⟨_, rfl, rfl, _, rfl, ?_⟩
    rw [decide_eq_false (fun z => by have := V.int.inj z; omega)]
    refine iteF ⟨_, rfl, _, rfl, a, b, rfl, _, rfl, _, _, rfl, rfl, _, rfl, ?_⟩
    rw [decide_eq_false (by omega)]
    exact iteF ⟨_, rfl, _, rfl, _, _, rfl, rfl, cd, _, rfl, _, rfl, _, _, rfl, rfl, cd, ints2 _ _, q⟩

abbrev s_plus : Stmt := topS 12
theorem sc_plus : FnScope ["x", "y"] ["x", "y"] (defScope s_plus) := ⟨rfl, rfl, rfl, by decide +kernel, rfl, by decide +kernel, by decide +kernel⟩
theorem ok_plus {f : Addr} {fd : FuncData} {k : Nat} (F : Fun K "plus" "plus" s_plus f fd) (Z : Glb mg)
    (Cfraction : Call P w K mg base k "fraction" ["a", "b"] spFr) : FnOk P w K mg base CX0 (k + 1) f fd ["x", "y"] (spTwo fun a b c d => (a * d + c * b, b * d)) := by
  refine F.ok sc_plus (fun vs H Q E h => ?_) (fun cdv A outer s H vs Q E hr h => ?_)
  · obtain ⟨x, y, a, b, c, d, rfl, _⟩ := h
    rfl
  · obtain ⟨x, y, a, b, c, d, rfl, ⟨hx, b0, ha, hb⟩, ⟨hy, d0, hc, hd⟩, q⟩ := h
    refine ⟨_, (pss_one (ps_ret (pe_call Cfraction.G hr (by rfl) Cfraction.m Cfraction.kp Cfraction.b .nil pass0 (pa_cons (pe_op op_add (pe_op op_mulW (pe_ix (r := rIxT K) ix_tup (pv 0) pe_int (fun _ _ => rfl)) (pe_ix (r := rIxT K) ix_tup (pv 1) pe_int (fun _ _ => rfl))) (pe_op op_mulW (pe_ix (r := rIxT K) ix_tup (pv 1) pe_int (fun _ _ => rfl)) (pe_ix (r := rIxT K) ix_tup (pv 0) pe_int (fun _ _ => rfl)))) (pa_cons (pe_op op_mulW (pe_ix (r := rIxT K) ix_tup (pv 0) pe_int (fun _ _ => rfl)) (pe_ix (r := rIxT K) ix_tup (pv 1) pe_int (fun _ _ => rfl))) pa_nil))))), ?_⟩
    refine ⟨_, rfl, _, _, _, _, rfl, rfl, SqT.of hx, atI_nat (j := 0) rfl, _, rfl, _, _, _, _, rfl, rfl, SqT.of hy, atI_nat (j := 1) rfl, _, _, rfl, rfl, cmul ha hd, _, rfl, _, _, _, _, rfl, rfl, SqT.of hy, atI_nat (j := 0) rfl, _, rfl, _, _, _, _, rfl, rfl, SqT.of hx, atI_nat (j := 1) rfl, _, _, rfl, rfl, cmul hc hb,
      _, _, rfl, rfl, _, rfl, _, _, _, _, rfl, rfl, SqT.of hx, atI_nat (j := 1) rfl, _, rfl, _, _, _, _, rfl, rfl, SqT.of hy, atI_nat (j := 1) rfl, _, _, rfl, rfl, cmul hb hd, ?_⟩
    exact ⟨_, _, rfl, Int.mul_pos b0 d0, up_pow (add_pow (mul_pow ha hd) (mul_pow hc hb)) (by decide), up_pow (mul_pow hb hd) (by decide), q⟩

abbrev s_minus : Stmt := topS 13
theorem sc_minus : FnScope ["x", "y"] ["x", "y"] (defScope s_minus) := ⟨rfl, rfl, rfl, by decide +kernel, rfl, by decide +kernel, by decide +kernel⟩
theorem ok_minus {f : Addr} {fd : FuncData} {k : Nat} (F : Fun K "minus" "minus" s_minus f fd) (Z : Glb mg)
    (Cfraction : Call P w K mg base k "fraction" ["a", "b"] spFr) : FnOk P w K mg base CX0 (k + 1) f fd ["x", "y"] (spTwo fun a b c d => (a * d - c * b, b * d)) := by
  refine F.ok sc_minus (fun vs H Q E h => ?_) (fun cdv A outer s H vs Q E hr h => ?_)
  · obtain ⟨x, y, a, b, c, d, rfl, _⟩ := h
    rfl
  · obtain ⟨x, y, a, b, c, d, rfl, ⟨hx, b0, ha, hb⟩, ⟨hy, d0, hc, hd⟩, q⟩ := h
    refine ⟨_, (pss_one (ps_ret (pe_call Cfraction.G hr (by rfl) Cfraction.m Cfraction.kp Cfraction.b .nil pass0 (pa_cons (pe_op op_sub (pe_op op_mulW (pe_ix (r := rIxT K) ix_tup (pv 0) pe_int (fun _ _ => rfl)) (pe_ix (r := rIxT K) ix_tup (pv 1) pe_int (fun _ _ => rfl))) (pe_op op_mulW (pe_ix (r := rIxT K) ix_tup (pv 1) pe_int (fun _ _ => rfl)) (pe_ix (r := rIxT K) ix_tup (pv 0) pe_int (fun _ _ => rfl)))) (pa_cons (pe_op op_mulW (pe_ix (r := rIxT K) ix_tup (pv 0) pe_int (fun _ _ => rfl)) (pe_ix (r := rIxT K) ix_tup (pv 1) pe_int (fun _ _ => rfl))) pa_nil))))), ?_⟩
    refine ⟨_, rfl, _, _, _, _, rfl, rfl, SqT.of hx, atI_nat (j := 0) rfl, _, rfl, _, _, _, _, rfl, rfl, SqT.of hy, atI_nat (j := 1) rfl, _, _, rfl, rfl, cmul ha hd, _, rfl, _, _, _, _, rfl, rfl, SqT.of hy, atI_nat (j := 0) rfl, _, rfl, _, _, _, _, rfl, rfl, SqT.of hx, atI_nat (j := 1) rfl, _, _, rfl, rfl, cmul hc hb,
      _, _, rfl, rfl, _, rfl, _, _, _, _, rfl, rfl, SqT.of hx, atI_nat (j := 1) rfl, _, rfl, _, _, _, _, rfl, rfl, SqT.of hy, atI_nat (j := 1) rfl, _, _, rfl, rfl, cmul hb hd, ?_⟩
    exact ⟨_, _, rfl, Int.mul_pos b0 d0, up_pow (sub_pow (mul_pow ha hd) (mul_pow hc hb)) (by decide), up_pow (mul_pow hb hd) (by decide), q⟩

/-! ### texts of integers -/
structure FunC (K : PySem.W.Frag) (x qual : Str) (st : Stmt) (f : Addr) (fd : FuncData) (c : Addr) : Prop where
  ex : ∃ (oc : Value) (od : Option Addr) (kV doc pm : Value) (an : Option Addr) (ct : Value) (osl : Array (Option Value)),
    fd = PySem.W.fnOf x qual (defArgs st) (defBody st) (defScope st) .none kV doc pm an (.ref c) ct ∧ K.lookup f = some ⟨oc, od, .func fd, osl⟩ ∧ PySem.W.codeIn K (.ref c) qual = true
theorem FunC.ok {x qual : Str} {st : Stmt} {f c : Addr} {fd : FuncData} {N ps : List Str} {k : Nat} {sp : Sp} (F : FunC K x qual st f fd c) (S : FnScope N ps (defScope st)) (len : ∀ vs H Q E, sp vs H Q E → vs.length = ps.length)
    (hbody : ∀ (A : Around) (outer : List Env) (s : Shared) (H : Hp) (vs : List V) (Q : VK) (E : XK), Room k (A.deeper (envOfC qual (defScope st) s.heap.objs.size f (.ref c))) → sp vs H Q E →
      ∃ t, PSs (cxOf CX0 P w K mg base N qual (defScope st) f (.ref c) A outer s H E).nox (defBody st) t ∧ t { nx := fun _ H' => Q .non H', rt := Q } (L2.start N vs) H) : FnOk P w K mg base CX0 (k + 1) f fd ps sp := by
  obtain ⟨oc, od, kV, doc, pm, an, ct, osl, rfl, lk, hcd⟩ := F.ex
  refine fn_of lk hcd S len fun A outer s H vs Q E hr hsp => ?_
  obtain ⟨t, h, q⟩ := hbody A outer s H vs Q E hr hsp
  exact ⟨t, h.nox, q⟩
/-- the text of digits only, without a 0 too many -/
def isNum (z : Str) : Bool := !decide (z = ("" : Str)) && z.cps.toList.all (fun c => decide (c ∈ ("0123456789" : Str).cps.toList)) && (decide (z = ("0" : Str)) || decide (z.cps.toList.head? ≠ some 48))
abbrev s_is_number : Stmt := topS 9
theorem sc_is_number : FnScope ["digits", "digit"] ["digits"] (defScope s_is_number) := ⟨rfl, rfl, rfl, by decide +kernel, rfl, by decide +kernel, by decide +kernel⟩
def spIsNum (T : Addr) : Sp := fun vs H Q _ => ∃ z : Str, vs = [.str z] ∧ z.length ≤ 1000 ∧ TabG H T ∧ ∀ H', Tabbed T H H' → Q (.bl (isNum z)) H'
theorem ok_isnum {f c T : Addr} {fd : FuncData} {k : Nat} (F : FunC K "is_number" "is_number" s_is_number f fd c) (Z : Glb mg) (TB : TabB base mg c T) : FnOk P w K mg base CX0 (k + 1) f fd ["digits"] (spIsNum T) := by
  refine F.ok sc_is_number (fun vs H Q E h => ?_) (fun A outer s H vs Q E hr h => ?_)
  · obtain ⟨z, rfl, _⟩ := h
    rfl
  · obtain ⟨z, rfl, hl, hT, q⟩ := h
    refine ⟨_, (pss_cons (ps_if (PW.pt (pw_or (pt_cmpR op_eq (pv 0) pe_str (nomark _)) (pw_or1 (pt_not (pt_val (pe_allS hr (by rfl) Z.m_all PyProof.Rows.boot_all TB rfl ⟨rfl, rfl, by decide +kernel, rfl, rfl, fun y hy e => absurd e ((by decide +kernel : ∀ y ∈ _, y.2 ≠ NameKind.free) y hy)⟩ (pv 0) (elt_in rfl rfl) (fun _ => rfl))))))) (pss_one (ps_ret pe_bl)) pss_nil)
      (pss_one (ps_ret (pe_or (pe_cmpR op_eq (pv 0) pe_str (nomark _)) (pe_one (pe_cmpR op_ne (pe_ix ix_str (pv 0) pe_int (fun _ _ => rfl)) pe_str (nomark _))))))), ?_⟩
    refine ⟨_, rfl, rfl, _, rfl, ite2 (fun e => ?_) (fun e => ?_)⟩
    · have e0 : z = "" := V.str.inj (of_decide_eq_true e)
      have := q H ⟨hT, fun _ _ => rfl⟩
      unfold isNum at this
      rw [decide_eq_true e0] at this
      exact this
    have e0 : z ≠ "" := fun h => e (decide_eq_true (by rw [h]))
    refine ⟨_, rfl, _, rfl, hT, fun H1 t1 => ?_⟩
    have q := q H1 t1
    unfold isNum at q
    rw [decide_eq_false e0] at q
    refine ⟨_, rfl, ?_⟩
    cases hall : z.cps.toList.all (fun c => decide (c ∈ ("0123456789" : Str).cps.toList)) with
    | false =>
      rw [hall] at q
      exact iteT q
    | true =>
      rw [hall] at q
      refine iteF ?_
      refine ⟨_, rfl, rfl, _, rfl, ite2 (fun e => ?_) (fun e => ?_)⟩
      · have e1 : z = "0" := V.str.inj (of_decide_eq_true e)
        rw [decide_eq_true e1] at q
        exact q
      · have e1 : z ≠ "0" := fun h => e (decide_eq_true (by rw [h]))
        rw [decide_eq_false e1] at q
        have hp : 0 < z.cps.toList.length := by
          by_cases h : z.cps.toList = []
          · exfalso
            apply e0
            cases z with
            | mk c =>
              have : c = #[] := by
                have := congrArg List.toArray h
                simpa using this
              rw [this]
              rfl
          · exact List.length_pos_iff.mpr h
        have g0 : z.cps.toList[0]? = some (z.cps.toList[0]) := List.getElem?_eq_getElem hp
        refine ⟨_, rfl, _, _, _, rfl, rfl, Nat.le_of_lt (small1000 hl), atI_nat (j := 0) g0, rfl, ?_⟩
        have e2 : decide (z.cps.toList.head? ≠ some 48) = !decide (V.str ⟨#[z.cps.toList[0]]⟩ = V.str ("0" : Str)) := by
          rw [List.head?_eq_getElem?, g0]
          by_cases h : z.cps.toList[0] = 48
          · rw [h]
            decide
          · rw [show decide (some z.cps.toList[0] ≠ some 48) = true from decide_eq_true (fun z => h (Option.some.inj z)), decide_eq_false (fun x => h ?_)]
            · rfl
            · have : [z.cps.toList[0]] = [48] := congrArg (fun s : Str => s.cps.toList) (V.str.inj x)
              exact (List.cons.inj this).1
        rw [e2] at q
        exact q
def digs (z : Str) : Str := if Txt.startswith z "-" then cutS z (some 1) none else z
abbrev s_read_integer : Stmt := topS 8
theorem sc_read_integer : FnScope ["text", "most_digits", "digits"] ["text", "most_digits"] (defScope s_read_integer) := ⟨rfl, rfl, rfl, by decide +kernel, rfl, by decide +kernel, by decide +kernel⟩
def spRdI (T : Addr) : Sp := fun vs H Q _ => ∃ (z : Str) (n : Int), vs = [.str z, .int 60] ∧ z.length ≤ 640 ∧ TabG H T ∧ (digs z).length ≤ 60 ∧ isNum (digs z) = true ∧ z ≠ ("-0" : Str) ∧ PySem.intText? z = some n ∧ ∀ H', Tabbed T H H' → Q (.int n) H'
theorem digs_len (z : Str) : (digs z).length ≤ z.length := by
  unfold digs
  split
  · exact cutS_length z _ _
  · exact Nat.le_refl _
theorem ok_rdi {f T : Addr} {fd : FuncData} {k : Nat} (F : Fun K "read_integer" "read_integer" s_read_integer f fd) (Z : Glb mg)
    (Cis_number : Call P w K mg base k "is_number" ["digits"] (spIsNum T)) : FnOk P w K mg base CX0 (k + 1) f fd ["text", "most_digits"] (spRdI T) := by
  refine F.ok sc_read_integer (fun vs H Q E h => ?_) (fun cdv A outer s H vs Q E hr h => ?_)
  · obtain ⟨z, n, rfl, _⟩ := h
    rfl
  · obtain ⟨z, n, rfl, hl, hT, h60, hN, h0, hi, q⟩ := h
    refine ⟨_, (pss_cons (ps_set (i := 2) sc_read_integer.nd rfl (.inl rfl) (pe_ifExp (pt_val (pe_m1 PySem.F.slot_str_startswith PySem.F.type_str_startswith mt_startswith (pv 0) pe_str)) (pe_slice sl_str (pv 0) (po_some pe_int) po_none) (pv 0)))
      (pss_cons (ps_if (PW.pt (pw_or (pt_cmpR op_gt (pe_callB call_len_str (by rfl) Z.m_len PySem.boot_len (pa_cons (pv 2) pa_nil)) (pv 1) (nomark _)) (pw_or (pt_not (pt_val (pe_call Cis_number.G hr (by rfl) Cis_number.m Cis_number.kp Cis_number.b .nil pass0 (pa_cons (pv 2) pa_nil)))) (pw_or1 (pt_cmpR op_eq (pv 0) pe_str (nomark _)))))) (pss_one ps_never) pss_nil)
      (pss_one (ps_ret (pe_callTy call_int_str (by rfl) Z.m_int (by decide +kernel) (pa_cons (pv 0) pa_nil)))))), ?_⟩
    have dl := digs_len z
    refine ⟨_, rfl, ⟨z, rfl⟩, z, _, rfl, rfl, _, rfl, ite2 (fun e => ?_) (fun e => ?_)⟩
    · have ed : digs z = cutS z (some 1) none := if_pos e
      refine ⟨_, rfl, 1, rfl, ?_⟩
      unfold tNoPart
      refine ⟨z, rfl, Nat.le_of_lt (small1000 (by omega)), ?_⟩
      rw [← ed]
      refine ⟨_, rfl, digs z, rfl, Nat.le_of_lt (small1000 (by omega)), _, rfl, _, _, rfl, rfl, _, rfl, ite2 (fun e => absurd (of_decide_eq_true e) (by show ¬ ((60 : Int) < ((digs z).length : Nat)); omega)) (fun _ => ?_)⟩
      refine ⟨_, rfl, digs z, rfl, by omega, hT, fun H1 t1 => ?_⟩
      rw [hN]
      refine ⟨_, rfl, iteF ?_⟩
      refine ⟨_, rfl, rfl, _, rfl, ite2 (fun e => absurd (V.str.inj (of_decide_eq_true e)) h0) (fun _ => ?_)⟩
      exact ⟨_, rfl, z, n, rfl, hi, hl, q H1 t1⟩
    · have ed : digs z = z := if_neg e
      rw [ed] at h60 hN
      refine ⟨_, rfl, ?_⟩
      refine ⟨_, rfl, z, rfl, Nat.le_of_lt (small1000 (by omega)), _, rfl, _, _, rfl, rfl, _, rfl, ite2 (fun e => absurd (of_decide_eq_true e) (by show ¬ ((60 : Int) < (z.length : Nat)); omega)) (fun _ => ?_)⟩
      refine ⟨_, rfl, z, rfl, by omega, hT, fun H1 t1 => ?_⟩
      rw [hN]
      refine ⟨_, rfl, iteF ?_⟩
      refine ⟨_, rfl, rfl, _, rfl, ite2 (fun e => absurd (V.str.inj (of_decide_eq_true e)) h0) (fun _ => ?_)⟩
      exact ⟨_, rfl, z, n, rfl, hi, hl, q H1 t1⟩
/-- all that stood stands, but for the table at T, which may have grown -/
def SmT (T : Addr) (H H' : Hp) : Prop := TabG H' T ∧ ∀ x o, x ≠ T → H x = some o → H' x = some o
theorem SmT.refl {T : Addr} {H : Hp} (h : TabG H T) : SmT T H H := ⟨h, fun _ _ _ e => e⟩
theorem SmT.trans {T : Addr} {H H1 H2 : Hp} (a : SmT T H H1) (b : SmT T H1 H2) : SmT T H H2 := ⟨b.1, fun x o n e => b.2 x o n (a.2 x o n e)⟩
theorem smT_tab {T : Addr} {H H' : Hp} (h : Tabbed T H H') : SmT T H H' := ⟨h.1, fun x o n e => (h.2 x n).trans e⟩
theorem smT_same {T : Addr} {H H' : Hp} (h : TabG H T) (s : Same H H') : SmT T H H' := by
  obtain ⟨ps, e, k⟩ := h
  exact ⟨⟨ps, s _ _ e, k⟩, fun x o _ e => s _ _ e⟩
theorem tabG_ne {T a : Addr} {H : Hp} {xs : List V} (h : TabG H T) (e : H a = some (.tup xs)) : a ≠ T := by
  obtain ⟨ps, e', _⟩ := h
  intro z
  rw [z, e'] at e
  cases e
theorem tabG_neL {T a : Addr} {H : Hp} {xs : List V} (h : TabG H T) (e : H a = some (.lst xs)) : a ≠ T := by
  obtain ⟨ps, e', _⟩ := h
  intro z
  rw [z, e'] at e
  cases e
theorem Vc.smT {T a : Addr} {H H' : Hp} {v : List Int} (h : Vc H a v) (hT : TabG H T) (s : SmT T H H') : Vc H' a v := s.2 _ _ (tabG_ne hT h) h
/-- z is the text of n -/
def RdOk (z : Str) (n : Int) : Prop := z.length ≤ 640 ∧ (digs z).length ≤ 60 ∧ isNum (digs z) = true ∧ z ≠ ("-0" : Str) ∧ PySem.intText? z = some n
abbrev s_read_fraction : Stmt := topS 18
theorem sc_read_fraction : FnScope ["text", "top", "bar", "bottom", "a", "b"] ["text"] (defScope s_read_fraction) := ⟨rfl, rfl, rfl, by decide +kernel, rfl, by decide +kernel, by decide +kernel⟩
def spRdF (T : Addr) : Sp := fun vs H Q _ => ∃ (z : Str) (a b : Int), vs = [.str z] ∧ z.length ≤ 640 ∧ TabG H T ∧ RdOk (Txt.partition z "/").1 a ∧
  (((Txt.partition z "/").2.1 = "" ∧ b = 1) ∨ ((Txt.partition z "/").2.1 ≠ "" ∧ RdOk (Txt.partition z "/").2.2 b ∧ 2 ≤ b ∧ g2 a b = 1)) ∧ ∀ (H' : Hp) (r : Addr), SmT T H H' → Vc H' r [a, b] → Q (.ref r) H'
theorem ok_rdf {f T : Addr} {fd : FuncData} {k : Nat} (F : Fun K "read_fraction" "read_fraction" s_read_fraction f fd) (Z : Glb mg)
    (Cread_integer : Call P w K mg base k "read_integer" ["text", "most_digits"] (spRdI T)) : FnOk P w K mg base CX0 (k + 1) f fd ["text"] (spRdF T) := by
  refine F.ok sc_read_fraction (fun vs H Q E h => ?_) (fun cdv A outer s H vs Q E hr h => ?_)
  · obtain ⟨z, a, b, rfl, _⟩ := h
    rfl
  · obtain ⟨z, a, b, rfl, hl, hT, ha, hb, q⟩ := h
    refine ⟨_, (pss_cons (ps_asg (pe_partition (pv 0) pe_str) (pg_tup rfl (pgs_cons (pg_name (i := 1) sc_read_fraction.nd rfl (.inl rfl)) (pgs_cons (pg_name (i := 2) sc_read_fraction.nd rfl (.inl rfl)) (pgs_cons (pg_name (i := 3) sc_read_fraction.nd rfl (.inl rfl)) pgs_nil)))))
      (pss_cons (ps_set (i := 4) sc_read_fraction.nd rfl (.inl rfl) (pe_call Cread_integer.G hr (by rfl) Cread_integer.m Cread_integer.kp Cread_integer.b .nil pass0 (pa_cons (pv 1) (pa_cons (pe_glob (v := .int 60) (by rfl) (Z.m_most).choose_spec ⟨_, rfl⟩) pa_nil))))
      (pss_cons (ps_if (pt_cmpR op_eq (pv 2) pe_str (nomark _)) (pss_one (ps_ret (pe_tup (pa_cons (pv 4) (pa_cons pe_int pa_nil))))) pss_nil)
      (pss_cons (ps_set (i := 5) sc_read_fraction.nd rfl (.inl rfl) (pe_call Cread_integer.G hr (by rfl) Cread_integer.m Cread_integer.kp Cread_integer.b .nil pass0 (pa_cons (pv 3) (pa_cons (pe_glob (v := .int 60) (by rfl) (Z.m_most).choose_spec ⟨_, rfl⟩) pa_nil))))
      (pss_cons (ps_if (PW.pt (pw_or (pt_cmpR op_lt (pv 5) pe_int (nomark _)) (pw_or1 (pt_cmpR op_ne (pe_callBfun cr_gcd (by rfl) Z.m_gcd (pa_cons (pv 4) (pa_cons (pv 5) pa_nil))) pe_int (nomark _))))) (pss_one ps_never) pss_nil)
      (pss_one (ps_ret (pe_tup (pa_cons (pv 4) (pa_cons (pv 5) pa_nil)))))))))), ?_⟩
    refine ⟨_, rfl, ⟨z, rfl⟩, z, _, rfl, rfl, rfl, Nat.le_of_lt (small1000 (by omega)), fun p np => ?_⟩
    generalize Txt.partition z "/" = pt at *
    obtain ⟨top, bar, bottom⟩ := pt
    have s1 := same_upd (o := .tup [.str top, .str bar, .str bottom]) np
    have m1 := smT_same hT s1
    refine ⟨p, _, rfl, SqT.of upd_same, rfl, _, _, rfl, _, _, rfl, _, _, rfl, rfl, ?_⟩
    generalize upd H p (.tup [.str top, .str bar, .str bottom]) = H1 at *
    obtain ⟨a1, a2, a3, a4, a5⟩ := ha
    refine ⟨_, rfl, top, a, rfl, a1, m1.1, a2, a3, a4, a5, fun H2 t2 => ?_⟩
    have m2 := m1.trans (smT_tab t2)
    refine ⟨_, rfl, rfl, _, rfl, ite2 (fun e => ?_) (fun e => ?_)⟩
    · have e1 : bar = "" := V.str.inj (of_decide_eq_true e)
      have hb1 : b = 1 := by
        rcases hb with ⟨_, h⟩ | ⟨h, _⟩
        · exact h
        · exact absurd e1 h
      refine ⟨_, rfl, (show 2 ≤ sizeLine by decide), fun u nu => ?_⟩
      rw [hb1] at q
      exact q _ u (m2.trans (smT_same m2.1 (same_upd nu))) upd_same
    · have e1 : bar ≠ "" := fun h => e (decide_eq_true (by rw [h]))
      rcases hb with ⟨h, _⟩ | ⟨_, ⟨b1, b2, b3, b4, b5⟩, h2, hg⟩
      · exact absurd h e1
      refine ⟨_, rfl, bottom, b, rfl, b1, m2.1, b2, b3, b4, b5, fun H3 t3 => ?_⟩
      have m3 := m2.trans (smT_tab t3)
      refine ⟨_, rfl, _, _, rfl, rfl, _, rfl, ite2 (fun e => absurd (of_decide_eq_true e) (by show ¬ b < 2; omega)) (fun _ => ?_)⟩
      refine ⟨_, rfl, _, rfl, a, b, rfl, rfl, _, rfl, ite2 (fun e => ?_) (fun _ => ?_)⟩
      · exfalso
        have hg' : ((Nat.gcd a.natAbs b.natAbs : Nat) : Int) = 1 := hg
        rw [hg'] at e
        exact absurd e (by decide)
      · refine ⟨_, rfl, _, rfl, (show 2 ≤ sizeLine by decide), fun u nu => ?_⟩
        exact q _ u (m3.trans (smT_same m3.1 (same_upd nu))) upd_same

def dec (n : Int) : Str := Str.ofString (toString n)
def wI (n : Int) : Str := if n < 0 then ("-" : Str) ++ dec (-n) else dec n
theorem join_one (x : Str) : Txt.join "" [x] = x := rfl
abbrev s_write_integer : Stmt := topS 7
theorem sc_write_integer : FnScope ["number", "limit", "blocks", "block"] ["number"] (defScope s_write_integer) := ⟨rfl, rfl, rfl, by decide +kernel, rfl, by decide +kernel, by decide +kernel⟩
def spWI0 : Sp := fun vs H Q _ => ∃ n : Int, vs = [.int n] ∧ 0 ≤ n ∧ n.natAbs < 2 ^ 190 ∧ (dec n).length ≤ 500 ∧ ∀ H', Same H H' → Q (.str (dec n)) H'
def spWI : Sp := fun vs H Q _ => ∃ n : Int, vs = [.int n] ∧ n.natAbs < 2 ^ 190 ∧ (dec (n.natAbs : Int)).length ≤ 500 ∧ ∀ H', Same H H' → Q (.str (wI n)) H'
theorem ok_wi0 {f : Addr} {fd : FuncData} {k : Nat} (F : Fun K "write_integer" "write_integer" s_write_integer f fd) (Z : Glb mg) : FnOk P w K mg base CX0 (k + 1) f fd ["number"] spWI0 := by
  refine F.ok sc_write_integer (fun vs H Q E h => ?_) (fun cdv A outer s H vs Q E hr h => ?_)
  · obtain ⟨n, rfl, _⟩ := h
    rfl
  · obtain ⟨n, rfl, h0, hb, hl, q⟩ := h
    refine ⟨_, (pss_cons (ps_if (pt_cmpR op_lt (pv 0) pe_int (nomark _)) (pss_one ps_never) pss_nil)
      (pss_cons (ps_set (i := 1) sc_write_integer.nd rfl (.inl rfl) (pe_op op_pow pe_int pe_int))
      (pss_cons (ps_set (i := 2) sc_write_integer.nd rfl (.inl rfl) (pe_lst pa_nil))
      (pss_cons (ps_while PassesOwn.never (pt_cmpR op_ge (pv 0) (pv 1) (nomark _)) (pss_cons ps_never
      (pss_one ps_never)))
      (pss_cons (ps_expr (pe_bm PySem.F.plainAttrs_list PySem.F.slot_list_append PySem.F.type_list_append mt_append (pv 2) (pa_cons (pe_callTy call_str_int (by rfl) Z.m_str (by decide +kernel) (pa_cons (pv 0) pa_nil)) pa_nil)))
      (pss_one (ps_ret (pe_joinRev rfl pe_str (by rfl) Z.m_reversed (pv 2))))))))), ?_⟩
    refine ⟨_, rfl, _, _, rfl, rfl, _, rfl, ite2 (fun e => absurd (of_decide_eq_true e) (by show ¬ n < 0; omega)) (fun _ => ?_)⟩
    refine ⟨_, _, rfl, rfl, ⟨by decide, by decide, by decide⟩, ?_⟩
    refine ⟨Nat.zero_le _, fun l nl => ?_⟩
    have s1 := same_upd (o := .lst []) nl
    have el : (upd H l (.lst [])) l = some (.lst []) := upd_same
    generalize upd H l (.lst []) = H1 at *
    refine ⟨fun m σ H' => H' = H1 ∧ σ = [some (.int n), some (.int (10 ^ 60)), some (.ref l), none], ⟨0, rfl, rfl⟩, fun m σ H' hW => ?_⟩
    obtain ⟨rfl, rfl⟩ := hW
    refine ⟨_, rfl, _, rfl, _, _, rfl, rfl, _, rfl, ite2 (fun e => absurd (of_decide_eq_true e) ?_) (fun _ => ?_)⟩
    · have k1 : (2 : Nat) ^ 190 < 10 ^ 60 := by decide +kernel
      have k2 : ((10 : Int) ^ 60).natAbs = 10 ^ 60 := by decide +kernel
      show ¬ ((10 : Int) ^ 60 ≤ n)
      omega
    refine ⟨_, rfl, .inl ⟨rfl, _, SqL.of el⟩, _, rfl, n, rfl, ?_, l, _, _, rfl, rfl, el, (show 0 < sizeLine by decide), ?_⟩
    · exact Nat.lt_trans (PySem.Flt.log2_lt_of (by decide) hb) (by decide)
    refine ⟨_, rfl, _, rfl, l, [dec n], rfl, SqL.of upd_same, ?_, ?_⟩
    · show (dec n).length + 0 + 1 * 0 ≤ 16777216
      omega
    show Q (.str (Txt.join "" [dec n])) _
    rw [join_one]
    refine q _ fun x o hx => ?_
    rw [upd_ne (ne_of_none hx nl)]
    exact s1 _ _ hx
theorem fn_or {CX : CXT} {k : Nat} {f : Addr} {fd : FuncData} {ps : List Str} {sp1 sp2 : Sp} (F1 : FnOk P w K mg base CX k f fd ps sp1) (F2 : FnOk P w K mg base CX k f fd ps sp2) : FnOk P w K mg base CX k f fd ps (fun vs H Q E => sp1 vs H Q E ∨ sp2 vs H Q E) :=
  ⟨fun vs H Q E h => by
    rcases h with h | h
    · exact F1.len _ _ _ _ h
    · exact F2.len _ _ _ _ h,
  fun A outer s H args us vs Q E hr e b r h => by
    rcases h with h | h
    · exact F1.run A outer s H args us vs Q E hr e b r h
    · exact F2.run A outer s H args us vs Q E hr e b r h⟩
theorem app_len (x y : Str) : (x ++ y).length = x.length + y.length := by
  show (x.cps ++ y.cps).size = x.cps.size + y.cps.size
  exact Array.size_append
def spWIn : Sp := fun vs H Q _ => ∃ n : Int, vs = [.int n] ∧ n < 0 ∧ n.natAbs < 2 ^ 190 ∧ (dec (-n)).length ≤ 500 ∧ ∀ H', Same H H' → Q (.str (("-" : Str) ++ dec (-n))) H'
theorem ok_win {f : Addr} {fd : FuncData} {k : Nat} (F : Fun K "write_integer" "write_integer" s_write_integer f fd) (Z : Glb mg) (G : FnOk P w K mg base CX0 k f fd ["number"] spWI0) (gS : mg "write_integer" = some (.ref f)) (bS : Binds K fd ["number"] []) :
    FnOk P w K mg base CX0 (k + 1) f fd ["number"] spWIn := by
  refine F.ok sc_write_integer (fun vs H Q E h => ?_) (fun cdv A outer s H vs Q E hr h => ?_)
  · obtain ⟨n, rfl, _⟩ := h
    rfl
  · obtain ⟨n, rfl, h0, hb, hl, q⟩ := h
    refine ⟨_, (pss_cons (ps_if (pt_cmpR op_lt (pv 0) pe_int (nomark _)) (pss_one (ps_ret (pe_op op_add_str pe_str (pe_call G hr (by rfl) gS F.kp bS .nil pass0 (pa_cons (pe_un un_neg (pv 0)) pa_nil))))) pss_nil)
      (pss_cons (ps_set (i := 1) sc_write_integer.nd rfl (.inl rfl) (pe_op op_pow pe_int pe_int))
      (pss_cons (ps_set (i := 2) sc_write_integer.nd rfl (.inl rfl) (pe_lst pa_nil))
      (pss_cons (ps_while PassesOwn.never (pt_cmpR op_ge (pv 0) (pv 1) (nomark _)) (pss_cons ps_never
      (pss_one ps_never)))
      (pss_cons (ps_expr (pe_bm PySem.F.plainAttrs_list PySem.F.slot_list_append PySem.F.type_list_append mt_append (pv 2) (pa_cons (pe_callTy call_str_int (by rfl) Z.m_str (by decide +kernel) (pa_cons (pv 0) pa_nil)) pa_nil)))
      (pss_one (ps_ret (pe_joinRev rfl pe_str (by rfl) Z.m_reversed (pv 2))))))))), ?_⟩
    refine ⟨_, rfl, _, _, rfl, rfl, _, rfl, ite2 (fun _ => ?_) (fun e => absurd (decide_eq_true h0) e)⟩
    refine ⟨_, rfl, _, rfl, -n, rfl, by omega, by rw [Int.natAbs_neg]; exact hb, hl, fun H1 s1 => ?_⟩
    exact ⟨_, _, rfl, rfl, Nat.le_of_lt (small1000 (by show 1 + _ ≤ 1000; omega)), q H1 s1⟩
theorem ok_wi {f : Addr} {fd : FuncData} {k : Nat} (F : Fun K "write_integer" "write_integer" s_write_integer f fd) (Z : Glb mg) (G : FnOk P w K mg base CX0 k f fd ["number"] spWI0) (gS : mg "write_integer" = some (.ref f)) (bS : Binds K fd ["number"] []) :
    FnOk P w K mg base CX0 (k + 1) f fd ["number"] spWI :=
  (fn_or (ok_win F Z G gS bS) (G.mono (Nat.le_succ k))).imp fun vs H Q E h => by
    obtain ⟨n, rfl, hb, hl, q⟩ := h
    unfold wI at q
    by_cases c : n < 0
    · left
      rw [if_pos c] at q
      exact ⟨n, rfl, c, hb, by rw [show ((n.natAbs : Nat) : Int) = -n by omega] at hl; exact hl, q⟩
    · right
      rw [if_neg c] at q
      exact ⟨n, rfl, by omega, hb, by rw [show ((n.natAbs : Nat) : Int) = n by omega] at hl; exact hl, q⟩
def wF (a b : Int) : Str := if b = 1 then wI a else (wI a ++ ("/" : Str)) ++ wI b
abbrev s_write_fraction : Stmt := topS 17
theorem sc_write_fraction : FnScope ["x"] ["x"] (defScope s_write_fraction) := ⟨rfl, rfl, rfl, by decide +kernel, rfl, by decide +kernel, by decide +kernel⟩
def spWF : Sp := fun vs H Q _ => ∃ (x : Addr) (a b : Int), vs = [.ref x] ∧ Vc H x [a, b] ∧ a.natAbs < 2 ^ 190 ∧ b.natAbs < 2 ^ 190 ∧ (dec (a.natAbs : Int)).length ≤ 400 ∧ (dec (b.natAbs : Int)).length ≤ 400 ∧ (wI a).length ≤ 400 ∧ (wI b).length ≤ 400 ∧ ∀ H', Same H H' → Q (.str (wF a b)) H'
theorem ok_wf {f : Addr} {fd : FuncData} {k : Nat} (F : Fun K "write_fraction" "write_fraction" s_write_fraction f fd) (Z : Glb mg)
    (Cwrite_integer : Call P w K mg base k "write_integer" ["number"] spWI) : FnOk P w K mg base CX0 (k + 1) f fd ["x"] spWF := by
  refine F.ok sc_write_fraction (fun vs H Q E h => ?_) (fun cdv A outer s H vs Q E hr h => ?_)
  · obtain ⟨x, a, b, rfl, _⟩ := h
    rfl
  · obtain ⟨x, a, b, rfl, hx, ha, hb, la, lb, wa, wb, q⟩ := h
    refine ⟨_, (pss_cons (ps_if (pt_cmpR op_eq (pe_ix (r := rIxT K) ix_tup (pv 0) pe_int (fun _ _ => rfl)) pe_int (nomark _)) (pss_one (ps_ret (pe_call Cwrite_integer.G hr (by rfl) Cwrite_integer.m Cwrite_integer.kp Cwrite_integer.b .nil pass0 (pa_cons (pe_ix (r := rIxT K) ix_tup (pv 0) pe_int (fun _ _ => rfl)) pa_nil)))) pss_nil)
      (pss_one (ps_ret (pe_op op_add_str (pe_op op_add_str (pe_call Cwrite_integer.G hr (by rfl) Cwrite_integer.m Cwrite_integer.kp Cwrite_integer.b .nil pass0 (pa_cons (pe_ix (r := rIxT K) ix_tup (pv 0) pe_int (fun _ _ => rfl)) pa_nil)) pe_str) (pe_call Cwrite_integer.G hr (by rfl) Cwrite_integer.m Cwrite_integer.kp Cwrite_integer.b .nil pass0 (pa_cons (pe_ix (r := rIxT K) ix_tup (pv 0) pe_int (fun _ _ => rfl)) pa_nil)))))), ?_⟩
    refine ⟨_, rfl, _, _, _, _, rfl, rfl, SqT.of hx, atI_nat (j := 1) rfl, rfl, _, rfl, ite2 (fun e => ?_) (fun e => ?_)⟩
    · have e1 : b = 1 := V.int.inj (of_decide_eq_true e)
      unfold wF at q
      rw [if_pos e1] at q
      exact ⟨_, rfl, _, _, _, _, rfl, rfl, SqT.of hx, atI_nat (j := 0) rfl, a, rfl, ha, by omega, q⟩
    · have e1 : b ≠ 1 := fun h => e (decide_eq_true (by rw [h]))
      unfold wF at q
      rw [if_neg e1] at q
      refine ⟨_, rfl, _, _, _, _, rfl, rfl, SqT.of hx, atI_nat (j := 0) rfl, a, rfl, ha, by omega, fun H1 s1 => ?_⟩
      refine ⟨_, _, rfl, rfl, Nat.le_of_lt (small1000 (by show (wI a).length + 1 ≤ 1000; omega)), ?_⟩
      refine ⟨_, rfl, _, _, _, _, rfl, rfl, SqT.of (hx.same s1), atI_nat (j := 1) rfl, b, rfl, hb, by omega, fun H2 s2 => ?_⟩
      refine ⟨_, _, rfl, rfl, ?_, q H2 (s1.trans s2)⟩
      rw [app_len]
      exact Nat.le_of_lt (small1000 (by show (wI a).length + 1 + (wI b).length ≤ 1000; omega))

/-! ### the texts of the small fractions -/
def chR (z : Str) (n : Int) : Bool := decide (z.length ≤ 640) && decide ((digs z).length ≤ 60) && isNum (digs z) && decide (z ≠ ("-0" : Str)) && decide (PySem.intText? z = some n)
theorem chR_ok {z : Str} {n : Int} (h : chR z n = true) : RdOk z n := by
  unfold chR at h
  simp only [Bool.and_eq_true, decide_eq_true_eq] at h
  obtain ⟨⟨⟨⟨h1, h2⟩, h3⟩, h4⟩, h5⟩ := h
  exact ⟨h1, h2, h3, h4, h5⟩
def chF (a b : Int) : Bool := chR (Txt.partition (wF a b) "/").1 a && (if b = 1 then decide ((Txt.partition (wF a b) "/").2.1 = ("" : Str)) else decide ((Txt.partition (wF a b) "/").2.1 ≠ ("" : Str)) && chR (Txt.partition (wF a b) "/").2.2 b) &&
  decide ((wF a b).length ≤ 5) && (wF a b).cps.toList.all (fun c => decide (c ≠ 32)) && (wF a b).cps.all (· < 128) && decide ((dec (a.natAbs : Int)).length ≤ 400) && decide ((dec (b.natAbs : Int)).length ≤ 400) && decide ((wI a).length ≤ 400) && decide ((wI b).length ≤ 400)
theorem chF_all : ∀ a ∈ ([-3, -2, -1, 0, 1, 2, 3] : List Int), ∀ b ∈ ([1, 2, 3] : List Int), chF a b = true := by decide +kernel

theorem mem3 {a : Int} (h : a.natAbs ≤ 3) : a ∈ ([-3, -2, -1, 0, 1, 2, 3] : List Int) := by
  have : a = -3 ∨ a = -2 ∨ a = -1 ∨ a = 0 ∨ a = 1 ∨ a = 2 ∨ a = 3 := by omega
  rcases this with h | h | h | h | h | h | h <;> rw [h] <;> decide
theorem memb {b : Int} (h0 : 0 < b) (h : b.natAbs ≤ 3) : b ∈ ([1, 2, 3] : List Int) := by
  have : b = 1 ∨ b = 2 ∨ b = 3 := by omega
  rcases this with h | h | h <;> rw [h] <;> decide
/-- a small fraction, in lowest terms -/
def Sm (f : Int × Int) : Prop := f.1.natAbs ≤ 3 ∧ f.2.natAbs ≤ 3 ∧ Low f
theorem sm_fr {x w : Int} (hx : x.natAbs ≤ 3) (w0 : 0 < w) (hw : w.natAbs ≤ 3) : Sm (frN x w, frD x w) :=
  ⟨Nat.le_trans (frN_abs (by omega)) hx, Nat.le_trans (frD_abs (by omega)) hw, low_fr w0⟩
structure Tx (f : Int × Int) : Prop where
  a : RdOk (Txt.partition (wF f.1 f.2) "/").1 f.1
  b : ((Txt.partition (wF f.1 f.2) "/").2.1 = "" ∧ f.2 = 1) ∨ ((Txt.partition (wF f.1 f.2) "/").2.1 ≠ "" ∧ RdOk (Txt.partition (wF f.1 f.2) "/").2.2 f.2 ∧ 2 ≤ f.2 ∧ g2 f.1 f.2 = 1)
  len : (wF f.1 f.2).length ≤ 5
  nb : (32 : Nat) ∉ (wF f.1 f.2).cps.toList
  da : (dec (f.1.natAbs : Int)).length ≤ 400
  db : (dec (f.2.natAbs : Int)).length ≤ 400
  wa : (wI f.1).length ≤ 400
  wb : (wI f.2).length ≤ 400
theorem Sm.tx {f : Int × Int} (h : Sm f) : Tx f := by
  obtain ⟨a, b⟩ := f
  obtain ⟨h1, h2, h3, h4⟩ := h
  have c := chF_all a (mem3 h1) b (memb h3 h2)
  unfold chF at c
  simp only [Bool.and_eq_true] at c
  obtain ⟨⟨⟨⟨⟨⟨⟨⟨c1, c2⟩, c3⟩, c4⟩, _⟩, c6⟩, c7⟩, c8⟩, c9⟩ := c
  refine ⟨chR_ok c1, ?_, of_decide_eq_true c3, fun hm => ?_, of_decide_eq_true c6, of_decide_eq_true c7, of_decide_eq_true c8, of_decide_eq_true c9⟩
  · by_cases e : b = 1
    · rw [if_pos e] at c2
      exact .inl ⟨of_decide_eq_true c2, e⟩
    · rw [if_neg e, Bool.and_eq_true] at c2
      have hb : 0 < b := h3
      refine .inr ⟨of_decide_eq_true c2.1, chR_ok c2.2, by show 2 ≤ b; omega, ?_⟩
      show ((Nat.gcd a.natAbs b.natAbs : Nat) : Int) = 1
      rw [h4]
      rfl
  · have := List.all_eq_true.mp c4 32 hm
    exact absurd this (by decide)
theorem sum_len {fs : List (Int × Int)} (h : ∀ f ∈ fs, Sm f) : ((fs.map fun f => wF f.1 f.2).map (·.length)).sum ≤ 5 * fs.length := by
  induction fs with
  | nil => exact Nat.le_refl 0
  | cons f r ih =>
    have h1 := (h f List.mem_cons_self).tx.len
    have h2 := ih fun g hg => h g (List.mem_cons_of_mem _ hg)
    have e : (((f :: r).map fun f => wF f.1 f.2).map (·.length)).sum = (wF f.1 f.2).length + ((r.map fun f => wF f.1 f.2).map (·.length)).sum := rfl
    rw [e, List.length_cons]
    omega
def wPt (fs : List (Int × Int)) : Str := Txt.join " " (fs.map fun f => wF f.1 f.2)
abbrev s_write_point : Stmt := topS 31
theorem sc_write_point : FnScope ["point", "x"] ["point"] (defScope s_write_point) := ⟨rfl, rfl, rfl, by decide +kernel, rfl, by decide +kernel, by decide +kernel⟩
def spWP : Sp := fun vs H Q _ => ∃ (a : Addr) (w : Int) (xs : List Int), vs = [.ref a] ∧ Vc H a (w :: xs) ∧ 0 < w ∧ w.natAbs ≤ 3 ∧ (∀ x ∈ xs, x.natAbs ≤ 3) ∧ xs.length ≤ 4 ∧ ∀ H', Same H H' → Q (.str (wPt (xs.map fun x => (frN x w, frD x w)))) H'
theorem ok_wp {f : Addr} {fd : FuncData} {k : Nat} (F : Fun K "write_point" "write_point" s_write_point f fd) (Z : Glb mg)
    (Ccoordinates : Call P w K mg base k "coordinates" ["point"] spCoord)
    (Cwrite_fraction : Call P w K mg base k "write_fraction" ["x"] spWF) : FnOk P w K mg base CX0 (k + 1) f fd ["point"] spWP := by
  refine F.ok sc_write_point (fun vs H Q E h => ?_) (fun cdv A outer s H vs Q E hr h => ?_)
  · obtain ⟨a, w, xs, rfl, _⟩ := h
    rfl
  · obtain ⟨a, w, xs, rfl, ha, w0, hw, hx, hl, q⟩ := h
    refine ⟨_, (pss_one (ps_ret (pe_join pe_str (pe_lc (own := [("x", 1)]) (g := gName 1) (tt := tYes) (by rfl) sc_write_point.nd (pi_list (pe_call Ccoordinates.G hr (by rfl) Ccoordinates.m Ccoordinates.kp Ccoordinates.b .nil pass0 (pa_cons (pv 0) pa_nil))) (blkOk_by (own := [("x", 1)]) (N := ["point", "x"]) (sc := defScope s_write_point) (by first | decide +kernel | kernel_rfl)) (fun _ _ _ _ _ => (pg_name (i := 1) sc_write_point.nd rfl (.inl rfl))) (fun _ _ _ _ _ => pts_nil) (fun _ _ _ _ _ => (pe_call Cwrite_fraction.G hr (by rfl) Cwrite_fraction.m Cwrite_fraction.kp Cwrite_fraction.b .nil pass0 (pa_cons (pv 1) pa_nil))))))), ?_⟩
    have u3 : ∀ {x : Int}, x.natAbs ≤ 3 → x.natAbs < 2 ^ 290 := fun h => Nat.lt_of_le_of_lt h (by decide +kernel)
    have u1 : ∀ {x : Int}, x.natAbs ≤ 3 → x.natAbs < 2 ^ 190 := fun h => Nat.lt_of_le_of_lt h (by decide +kernel)
    refine ⟨⟨_, rfl⟩, _, rfl, a, w, xs, rfl, ha, w0, u3 hw, fun x hx' => u3 (hx x hx'), by omega, fun H1 l s1 F1 => ?_⟩
    have sm : ∀ f ∈ xs.map (fun x => (frN x w, frD x w)), Sm f := fun f hf => by
      obtain ⟨x, hx', rfl⟩ := List.mem_map.mp hf
      exact sm_fr (hx x hx') w0 hw
    have lf : (xs.map fun x => (frN x w, frD x w)).length ≤ 4 := by rw [List.length_map]; exact hl
    generalize xs.map (fun x => (frN x w, frD x w)) = fs at *
    obtain ⟨rs, el, rl, rg⟩ := id F1
    refine ⟨l, rfl, ⟨_, SqL.of el⟩, fun D nD => ?_⟩
    refine lc_list (xs := rs.map V.ref) (fun i H' => Same H1 H' ∧ H' D = some (.lst (((fs.map fun f => wF f.1 f.2).take i).map V.str))) ⟨same_upd nD, upd_same⟩ (fun i H' _ hP => SqL.of (hP.1 _ _ el)) (fun i x H' hx hP => ?_) (fun H2 hP => ?_)
    · obtain ⟨sP, eP⟩ := hP
      obtain ⟨r, hr1, rfl⟩ := ref_get hx
      obtain ⟨f, ef, hf⟩ := rg _ _ hr1
      have mf := List.mem_of_getElem? ef
      have S := sm f mf
      have T := S.tx
      refine ⟨rfl, ?_⟩
      unfold tYes
      refine iteT ?_
      refine ⟨_, rfl, r, f.1, f.2, rfl, sP _ _ hf.1, u1 S.1, u1 S.2.1, T.da, T.db, T.wa, T.wb, fun H3 s3 => ⟨_, s3 _ _ eP, ?_, ?_, ?_⟩⟩
      · rw [List.length_map, List.length_take, List.length_map]
        exact Nat.lt_of_le_of_lt (Nat.min_le_right _ _) (small1000 (by omega))
      · intro x o hx
        rw [upd_ne (ne_of_none hx nD)]
        exact s3 _ _ (sP _ _ hx)
      · have hg : (fs.map fun f => wF f.1 f.2)[i]? = some (wF f.1 f.2) := by rw [List.getElem?_map, ef]; rfl
        rw [upd_same, take_get hg, List.map_append]
        rfl
    obtain ⟨s2, e2⟩ := hP
    rw [show (rs.map V.ref).length = (fs.map fun f => wF f.1 f.2).length by rw [List.length_map, List.length_map, rl], List.take_length] at e2
    refine ⟨_, D, fs.map (fun f => wF f.1 f.2), rfl, rfl, .inl (SqL.of e2), ?_, ?_⟩
    rotate_left
    · exact q _ (s1.trans s2)
    have := sum_len sm
    rw [List.length_map]
    show _ + fs.length * 1 ≤ 16777216
    omega

theorem wPt_len {fs : List (Int × Int)} (h : ∀ f ∈ fs, Sm f) (hl : fs.length ≤ 4) : (wPt fs).length ≤ 40 := by
  have one : (" " : Str).length = 1 := rfl
  unfold wPt
  rw [TL.join_eq]
  match fs, h, hl with
  | [], _, _ => exact Nat.zero_le _
  | [a], h, _ =>
    have ha := (h a (by simp)).tx.len
    show (wF a.1 a.2).length ≤ 40
    omega
  | [a, b], h, _ =>
    have ha := (h a (by simp)).tx.len
    have hb := (h b (by simp)).tx.len
    show ((wF a.1 a.2 ++ " ") ++ wF b.1 b.2).length ≤ 40
    rw [app_len, app_len]
    omega
  | [a, b, c], h, _ =>
    have ha := (h a (by simp)).tx.len
    have hb := (h b (by simp)).tx.len
    have hc := (h c (by simp)).tx.len
    show ((wF a.1 a.2 ++ " ") ++ ((wF b.1 b.2 ++ " ") ++ wF c.1 c.2)).length ≤ 40
    rw [app_len, app_len, app_len, app_len]
    omega
  | [a, b, c, d], h, _ =>
    have ha := (h a (by simp)).tx.len
    have hb := (h b (by simp)).tx.len
    have hc := (h c (by simp)).tx.len
    have hd := (h d (by simp)).tx.len
    show ((wF a.1 a.2 ++ " ") ++ ((wF b.1 b.2 ++ " ") ++ ((wF c.1 c.2 ++ " ") ++ wF d.1 d.2))).length ≤ 40
    rw [app_len, app_len, app_len, app_len, app_len, app_len]
    omega
  | _ :: _ :: _ :: _ :: _ :: _, _, h => exact absurd h (by simp)
theorem wPt_split {fs : List (Int × Int)} (h : ∀ f ∈ fs, Sm f) (hne : fs ≠ []) : Txt.split (wPt fs) " " = fs.map fun f => wF f.1 f.2 := by
  refine TL.split_join (s := 32) (S := []) rfl (by decide +kernel) (fun z => hne (List.map_eq_nil_iff.mp z)) fun p hp => ?_
  obtain ⟨f, hf, rfl⟩ := List.mem_map.mp hp
  exact (h f hf).tx.nb
def PvT (T : Addr) (H : Hp) (D : Addr) (vs : List (List Int)) (H' : Hp) : Prop := SmT T H H' ∧ VL H' D vs
theorem VL.smT {H H' : Hp} {T a : Addr} {vs : List (List Int)} (h : VL H a vs) (hT : TabG H T) (s : SmT T H H') : VL H' a vs := by
  obtain ⟨rs, e, l, g⟩ := h
  exact ⟨rs, s.2 _ _ (tabG_neL hT e) e, l, fun i r hr => by obtain ⟨v, h1, h2⟩ := g i r hr; exact ⟨v, h1, h2.smT hT s⟩⟩
theorem tabG_upd {H : Hp} {T D : Addr} {o : HO} (hT : TabG H T) (ne : T ≠ D) : TabG (upd H D o) T := by
  obtain ⟨ps, e, k⟩ := hT
  exact ⟨ps, by rw [upd_ne ne]; exact e, k⟩
theorem tabG_free {H : Hp} {T D : Addr} (hT : TabG H T) (n : H D = none) : T ≠ D := by
  obtain ⟨ps, e, _⟩ := hT
  exact ne_of_none e n
theorem VL.push2 {H : Hp} {a r : Addr} {vs : List (List Int)} {v : List Int} {acc : List V} (h : VL H a vs) (hr : Vc H r v) (e : H a = some (.lst acc)) : VL (upd H a (.lst (acc ++ [.ref r]))) a (vs ++ [v]) := by
  obtain ⟨rs, e', l, g⟩ := h
  rw [e'] at e
  have e := HO.lst.inj (Option.some.inj e)
  subst e
  have tups : ∀ t (u : List Int), Vc H t u → Vc (upd H a (.lst (rs.map V.ref ++ [.ref r]))) t u := fun t u ht => by
    unfold Vc at ht ⊢
    rw [upd_ne (ne_of ht e' (fun z => nomatch z))]
    exact ht
  refine ⟨rs ++ [r], by rw [upd_same, List.map_append]; rfl, by rw [List.length_append, List.length_append, l]; rfl, fun i t ht => ?_⟩
  rw [List.getElem?_append] at ht
  split at ht
  · obtain ⟨u, h2, h3⟩ := g i t ht
    exact ⟨u, by rw [List.getElem?_append_left (lt_of_get h2)]; exact h2, tups _ _ h3⟩
  · have hj := lt_of_get ht
    rw [List.length_singleton] at hj
    have hi : i = rs.length := by omega
    subst hi
    rw [Nat.sub_self] at ht
    cases ht
    refine ⟨v, ?_, tups _ _ hr⟩
    rw [l, List.getElem?_append_right (Nat.le_refl _), Nat.sub_self]
    rfl
theorem vl00 {H : Hp} {a : Addr} : VL (upd H a (.lst [])) a [] := ⟨[], upd_same, rfl, fun i r h => by rw [List.getElem?_nil] at h; cases h⟩
theorem pvt_step {H H' H'' : Hp} {T D r : Addr} {vs : List (List Int)} {v : List Int} (nD : H D = none) (hP : PvT T H D vs H') (s : SmT T H' H'') (hr : Vc H'' r v) (hl : vs.length < 1000) :
    ∃ acc, H'' D = some (.lst acc) ∧ acc.length < sizeLine ∧ PvT T H D (vs ++ [v]) (upd H'' D (.lst (acc ++ [.ref r]))) := by
  have V2 := hP.2.smT hP.1.1 s
  obtain ⟨rs, e, l, g⟩ := id V2
  refine ⟨_, e, by rw [List.length_map, l]; exact small1000 (by omega), ⟨tabG_upd s.1 (tabG_neL s.1 e).symm, fun y o ny hy => ?_⟩, V2.push2 hr e⟩
  rw [upd_ne (ne_of_none hy nD)]
  exact s.2 _ _ ny (hP.1.2 _ _ ny hy)
abbrev s_read_point : Stmt := topS 32
theorem sc_read_point : FnScope ["d", "text", "words", "word"] ["d", "text"] (defScope s_read_point) := ⟨rfl, rfl, rfl, by decide +kernel, rfl, by decide +kernel, by decide +kernel⟩
def spRP (T : Addr) : Sp := fun vs H Q _ => ∃ (d : Nat) (fs : List (Int × Int)), vs = [.int d, .str (wPt fs)] ∧ fs.length = d ∧ 1 ≤ d ∧ d ≤ 4 ∧ (∀ f ∈ fs, Sm f) ∧ TabG H T ∧ ∀ (H' : Hp) (r : Addr), SmT T H H' → Vc H' r (over1 (lcmD fs) fs) → Q (.ref r) H'
theorem ok_rp {f T : Addr} {fd : FuncData} {k : Nat} (F : Fun K "read_point" "read_point" s_read_point f fd) (Z : Glb mg)
    (Cread_fraction : Call P w K mg base k "read_fraction" ["text"] (spRdF T))
    (Cmade_point : Call P w K mg base k "made_point" ["coordinates"] spMadePt) : FnOk P w K mg base CX0 (k + 1) f fd ["d", "text"] (spRP T) := by
  refine F.ok sc_read_point (fun vs H Q E h => ?_) (fun cdv A outer s H vs Q E hr h => ?_)
  · obtain ⟨d, fs, rfl, _⟩ := h
    rfl
  · obtain ⟨d, fs, rfl, hd, d1, d4, sm, hT, q⟩ := h
    refine ⟨_, (pss_cons (ps_set (i := 2) sc_read_point.nd rfl (.inl rfl) (pe_split (pv 1) pe_str))
      (pss_cons (ps_if (pt_cmpR op_ne (pe_callB call_len_seq (by rfl) Z.m_len PySem.boot_len (pa_cons (pv 2) pa_nil)) (pv 0) (nomark _)) (pss_one ps_never) pss_nil)
      (pss_one (ps_ret (pe_call Cmade_point.G hr (by rfl) Cmade_point.m Cmade_point.kp Cmade_point.b .nil pass0 (pa_cons (pe_lc (own := [("word", 3)]) (g := gName 3) (tt := tYes) (by rfl) sc_read_point.nd (pi_list (pv 2)) (blkOk_by (own := [("word", 3)]) (N := ["d", "text", "words", "word"]) (sc := defScope s_read_point) (by first | decide +kernel | kernel_rfl)) (fun _ _ _ _ _ => (pg_name (i := 3) sc_read_point.nd rfl (.inl rfl))) (fun _ _ _ _ _ => pts_nil) (fun _ _ _ _ _ => (pe_call Cread_fraction.G hr (by rfl) Cread_fraction.m Cread_fraction.kp Cread_fraction.b .nil pass0 (pa_cons (pv 3) pa_nil)))) pa_nil)))))), ?_⟩
    have ne : fs ≠ [] := fun z => by rw [z] at hd; simp at hd; omega
    have wl := wPt_len sm (by omega)
    refine ⟨_, rfl, ⟨_, rfl⟩, _, _, rfl, rfl, rfl, Nat.le_of_lt (small1000 (by omega)), fun p np => ?_⟩
    rw [wPt_split sm ne]
    have s1 := same_upd (o := .lst ((fs.map fun f => wF f.1 f.2).map V.str)) np
    have ep : (upd H p (.lst ((fs.map fun f => wF f.1 f.2).map V.str))) p = some (.lst ((fs.map fun f => wF f.1 f.2).map V.str)) := upd_same
    have m1 := smT_same hT s1
    generalize upd H p (.lst ((fs.map fun f => wF f.1 f.2).map V.str)) = H1 at *
    have lw : ((fs.map fun f => wF f.1 f.2).map V.str).length = d := by rw [List.length_map, List.length_map, hd]
    refine ⟨_, rfl, _, _, rfl, .inl (SqL.of ep), _, rfl, rfl, _, rfl, ite2 (fun e => absurd (by rw [lw] at e; exact e) (by rw [dec_int]; simp)) (fun _ => ?_)⟩
    refine ⟨_, rfl, p, rfl, ⟨_, SqL.of ep⟩, fun D nD => ?_⟩
    have TD := tabG_free m1.1 nD
    refine lc_list (xs := (fs.map fun f => wF f.1 f.2).map V.str) (fun i H' => PvT T H1 D ((fs.map fun f => [f.1, f.2]).take i) H') ⟨smT_same m1.1 (same_upd nD), vl00⟩ (fun i H' _ hP => SqL.of (hP.1.2 _ _ (tabG_neL m1.1 ep) ep)) (fun i x H' hx hP => ?_) (fun H2 hP => ?_)
    · rw [List.map_map, List.getElem?_map] at hx
      obtain ⟨f, ef, rfl⟩ := Option.map_eq_some_iff.mp hx
      have S := sm f (List.mem_of_getElem? ef)
      have X := S.tx
      refine ⟨rfl, ?_⟩
      unfold tYes
      refine iteT ?_
      refine ⟨_, rfl, wF f.1 f.2, f.1, f.2, rfl, by have := X.len; omega, hP.1.1, X.a, X.b, fun H3 r s3 hr3 => ?_⟩
      have := pvt_step nD hP s3 hr3 (by rw [List.length_take]; have := lt_of_get ef; omega)
      rw [← take_get (xs := fs.map fun f => [f.1, f.2]) (i := i) (by rw [List.getElem?_map, ef]; rfl)] at this
      exact this
    rw [lw, ← hd, ← List.length_map (f := fun f : Int × Int => [f.1, f.2]), List.take_length] at hP
    obtain ⟨m2, V2⟩ := hP
    have u3 : ∀ {x : Int}, x.natAbs ≤ 3 → x.natAbs < 2 ^ 300 := fun h => Nat.lt_of_le_of_lt h (by decide +kernel)
    have F2 : FL H2 D fs 300 := by
      obtain ⟨rs, e, l, g⟩ := V2
      rw [List.length_map] at l
      refine ⟨rs, e, l, fun i r hr => ?_⟩
      obtain ⟨v, h1, h2⟩ := g i r hr
      rw [List.getElem?_map] at h1
      obtain ⟨f, ef, rfl⟩ := Option.map_eq_some_iff.mp h1
      have S := sm f (List.mem_of_getElem? ef)
      exact ⟨f, ef, h2, S.2.2.1, u3 S.1, u3 S.2.1⟩
    exact ⟨D, fs, rfl, F2, fun f hf => (sm f hf).2.2, fun f hf => u3 (sm f hf).2.1, fun f hf => u3 (sm f hf).1, by omega, by omega, fun H3 r s3 hr => q H3 r ((m1.trans m2).trans (smT_same m2.1 s3)) hr⟩

abbrev s_sign : Stmt := topS 15
theorem sc_sign : FnScope ["x"] ["x"] (defScope s_sign) := ⟨rfl, rfl, rfl, by decide +kernel, rfl, by decide +kernel, by decide +kernel⟩
def spSign : Sp := fun vs H Q _ => ∃ (x : Addr) (a b : Int), vs = [.ref x] ∧ H x = some (.tup [.int a, .int b]) ∧ Q (.int (sg a)) H
theorem ok_sign {f : Addr} {fd : FuncData} {k : Nat} (F : Fun K "sign" "sign" s_sign f fd) (Z : Glb mg) : FnOk P w K mg base CX0 (k + 1) f fd ["x"] spSign := by
  refine F.ok sc_sign (fun vs H Q E h => ?_) (fun cdv A outer s H vs Q E hr h => ?_)
  · obtain ⟨x, a, b, rfl, _⟩ := h
    rfl
  · obtain ⟨x, a, b, rfl, hx, q⟩ := h
    refine ⟨_, (pss_cons (ps_if (pt_cmpR op_gt (pe_ix (r := rIxT K) ix_tup (pv 0) pe_int (fun _ _ => rfl)) pe_int (nomark _)) (pss_one (ps_ret pe_int)) pss_nil)
      (pss_cons (ps_if (pt_cmpR op_lt (pe_ix (r := rIxT K) ix_tup (pv 0) pe_int (fun _ _ => rfl)) pe_int (nomark _)) (pss_one (ps_ret (pe_un un_neg pe_int))) pss_nil)
      (pss_one (ps_ret pe_int)))), ?_⟩
    refine ⟨_, rfl, _, _, _, _, rfl, rfl, SqT.of hx, atI_nat (j := 0) rfl, _, _, rfl, rfl, _, rfl, ite2 (fun e => ?_) (fun e => ?_)⟩
    · have e1 : 0 < a := of_decide_eq_true e
      rw [show sg a = 1 from if_pos e1] at q
      exact q
    · have e1 : ¬ 0 < a := fun z => e (decide_eq_true z)
      refine ⟨_, rfl, _, _, _, _, rfl, rfl, SqT.of hx, atI_nat (j := 0) rfl, _, _, rfl, rfl, _, rfl, ite2 (fun e2 => ?_) (fun e2 => ?_)⟩
      · have e3 : a < 0 := of_decide_eq_true e2
        rw [show sg a = -1 by unfold sg; rw [if_neg e1, if_pos e3]] at q
        exact ⟨_, rfl, q⟩
      · have e3 : ¬ a < 0 := fun z => e2 (decide_eq_true z)
        rw [show sg a = 0 by unfold sg; rw [if_neg e1, if_neg e3]] at q
        exact q
abbrev s_compare : Stmt := topS 16
theorem sc_compare : FnScope ["x", "y"] ["x", "y"] (defScope s_compare) := ⟨rfl, rfl, rfl, by decide +kernel, rfl, by decide +kernel, by decide +kernel⟩
def spComp : Sp := fun vs H Q _ => ∃ (x y : Addr) (a b c d : Int), vs = [.ref x, .ref y] ∧ Fr H x a b 140 ∧ Fr H y c d 140 ∧ ∀ H', Same H H' → Q (.int (sg (a * d - c * b))) H'
theorem ok_comp {f : Addr} {fd : FuncData} {k : Nat} (F : Fun K "compare" "compare" s_compare f fd) (Z : Glb mg)
    (Csign : Call P w K mg base k "sign" ["x"] spSign)
    (Cminus : Call P w K mg base k "minus" ["x", "y"] (spTwo fun a b c d => (a * d - c * b, b * d))) : FnOk P w K mg base CX0 (k + 1) f fd ["x", "y"] spComp := by
  refine F.ok sc_compare (fun vs H Q E h => ?_) (fun cdv A outer s H vs Q E hr h => ?_)
  · obtain ⟨x, y, a, b, c, d, rfl, _⟩ := h
    rfl
  · obtain ⟨x, y, a, b, c, d, rfl, hx, hy, q⟩ := h
    refine ⟨_, (pss_one (ps_ret (pe_call Csign.G hr (by rfl) Csign.m Csign.kp Csign.b .nil pass0 (pa_cons (pe_call Cminus.G hr (by rfl) Cminus.m Cminus.kp Cminus.b .nil pass0 (pa_cons (pv 0) (pa_cons (pv 1) pa_nil))) pa_nil)))), ?_⟩
    refine ⟨_, rfl, _, rfl, x, y, a, b, c, d, rfl, hx, hy, fun p np => ⟨p, _, _, rfl, upd_same, ?_⟩⟩
    have hb := Int.mul_pos hx.2.1 hy.2.1
    rw [sg_frN (by show b * d ≠ 0; omega)]
    exact q _ (same_upd np)

/-! ### a comprehension whose turns draw and make tuples -/
def DrR {α : Type} (R : Hp → α → Addr → Prop) (p : Addr) (H : Hp) (D : Addr) (i : Nat) (H' : Hp) : Prop := (∃ q, Plq H p q ∧ Plq H' p q ∧ q ≠ D) ∧ Keep p H H' ∧
  ∃ (rs : List Addr) (fs : List α), H' D = some (.lst (rs.map V.ref)) ∧ rs.length = i ∧ fs.length = i ∧ ∀ (j : Nat) (r : Addr) (f : α), rs[j]? = some r → fs[j]? = some f → R H' f r ∧ ∃ ys, H' r = some (.tup ys)
theorem drR0 {α : Type} {R : Hp → α → Addr → Prop} {p D : Addr} {H : Hp} (hp : Pl H p) (nD : H D = none) : DrR R p H D 0 (upd H D (.lst [])) := by
  obtain ⟨q, hq⟩ := hp.q
  exact ⟨⟨q, hq, hq.same (same_upd nD), (hq.ne_free nD).2⟩, Same.keep (same_upd nD), [], [], upd_same, rfl, rfl, fun j r f h => no_get h⟩
theorem app_get {α : Type} {xs : List α} {x y : α} {j : Nat} (h : (xs ++ [x])[j]? = some y) : xs[j]? = some y ∨ (j = xs.length ∧ y = x) := by
  rw [List.getElem?_append] at h
  split at h
  · exact .inl h
  · have := lt_of_get h
    rw [List.length_singleton] at this
    have hj : j = xs.length := by omega
    subst hj
    rw [Nat.sub_self] at h
    cases h
    exact .inr ⟨rfl, rfl⟩
theorem drR_step {α : Type} {R : Hp → α → Addr → Prop} (hR : ∀ H1 H2 f r, (∀ ys, H1 r = some (.tup ys) → H2 r = some (.tup ys)) → R H1 f r → R H2 f r) {p D : Addr} {H H' H2 : Hp} {i : Nat} {r : Addr} {f : α} {ys : List V} (nD : H D = none) (hP : Pl H p) (h : DrR R p H D i H')
    (hB : Kp p H' H2) (P2 : Pl H2 p) (hr : H2 r = some (.tup ys)) (rf : R H2 f r) : ∃ acc, H2 D = some (.lst acc) ∧ acc.length = i ∧ DrR R p H D (i + 1) (upd H2 D (.lst (acc ++ [.ref r]))) := by
  obtain ⟨⟨q, hq0, hq, qD⟩, K1, rs, fs, e, l1, l2, g⟩ := h
  have ne : D ≠ p := by
    obtain ⟨q0, h0⟩ := hP.q
    exact (h0.ne_free nD).1.symm
  have e2 : H2 D = some (.lst (rs.map V.ref)) := hB.k _ _ ne e
  have P1 := hq.pl
  have tups : ∀ t zs, H2 t = some (.tup zs) → (upd H2 D (.lst (rs.map V.ref ++ [.ref r]))) t = some (.tup zs) := fun t zs ht => by
    rw [upd_ne (ne_of ht e2 (fun z => nomatch z))]
    exact ht
  refine ⟨rs.map V.ref, e2, by rw [List.length_map]; exact l1, ⟨q, hq0, (hq.kp hB P2).upd ne.symm qD, qD⟩, ?_, rs ++ [r], fs ++ [f], ?_, ?_, ?_, ?_⟩
  · intro x o hx ho
    have hxD : x ≠ D := ne_of_none ho nD
    rw [upd_ne hxD]
    exact hB.k _ _ hx (K1 _ _ hx ho)
  · rw [upd_same, List.map_append]
    rfl
  · rw [List.length_append, l1]
    rfl
  · rw [List.length_append, l2]
    rfl
  · intro j t f' h1 h2
    rcases app_get h1 with h1 | ⟨h1, rfl⟩
    · rcases app_get h2 with h2 | ⟨h2, _⟩
      · obtain ⟨a1, zs, a2⟩ := g j t f' h1 h2
        have a3 := hB.k _ _ (P1.ne a2) a2
        exact ⟨hR _ _ _ _ (fun ys hy => tups t ys (hB.k _ _ (P1.ne hy) hy)) a1, zs, tups t zs a3⟩
      · have := lt_of_get h1
        omega
    · rcases app_get h2 with h2 | ⟨h2, rfl⟩
      · have := lt_of_get h2
        omega
      · exact ⟨hR _ _ _ _ (fun ys hy => tups t ys hy) rf, ys, tups t ys hr⟩
theorem Dr.pt {p D : Addr} {H H' : Hp} {B i : Nat} (h : Dr p H D B i H') : Pl H' p := by
  obtain ⟨⟨q, _, h2, _⟩, _⟩ := h
  exact h2.pl
theorem DrR.pt {α : Type} {R : Hp → α → Addr → Prop} {p D : Addr} {H H' : Hp} {i : Nat} (h : DrR R p H D i H') : Pl H' p := by
  obtain ⟨⟨q, _, h2, _⟩, _⟩ := h
  exact h2.pl
theorem ne_pool {H : Hp} {p D : Addr} (hP : Pl H p) (nD : H D = none) : D ≠ p := by
  obtain ⟨q0, h0⟩ := hP.q
  exact (h0.ne_free nD).1.symm

abbrev s_over : Stmt := topS 14
theorem sc_over : FnScope ["x", "y"] ["x", "y"] (defScope s_over) := ⟨rfl, rfl, rfl, by decide +kernel, rfl, by decide +kernel, by decide +kernel⟩
def spOverP : Sp := fun vs H Q _ => ∃ (x y : Addr) (a b c : Int), vs = [.ref x, .ref y] ∧ Fr H x a b 140 ∧ Vc H y [c, 1] ∧ 0 < c ∧ c.natAbs < 2 ^ 100 ∧ ∀ p, H p = none → Q (.ref p) (upd H p (.tup [.int (frN (a * 1) (b * c)), .int (frD (a * 1) (b * c))]))
theorem ok_overP {f : Addr} {fd : FuncData} {k : Nat} (F : Fun K "over" "over" s_over f fd) (Z : Glb mg)
    (Cfraction : Call P w K mg base k "fraction" ["a", "b"] spFr) : FnOk P w K mg base CX0 (k + 1) f fd ["x", "y"] spOverP := by
  refine F.ok sc_over (fun vs H Q E h => ?_) (fun cdv A outer s H vs Q E hr h => ?_)
  · obtain ⟨x, y, a, b, c, rfl, _⟩ := h
    rfl
  · obtain ⟨x, y, a, b, c, rfl, ⟨hx, b0, ha, hb⟩, hy, c0, hc, q⟩ := h
    refine ⟨_, (pss_one (ps_ret (pe_call Cfraction.G hr (by rfl) Cfraction.m Cfraction.kp Cfraction.b .nil pass0 (pa_cons (pe_op op_mulW (pe_ix (r := rIxT K) ix_tup (pv 0) pe_int (fun _ _ => rfl)) (pe_ix (r := rIxT K) ix_tup (pv 1) pe_int (fun _ _ => rfl))) (pa_cons (pe_op op_mulW (pe_ix (r := rIxT K) ix_tup (pv 0) pe_int (fun _ _ => rfl)) (pe_ix (r := rIxT K) ix_tup (pv 1) pe_int (fun _ _ => rfl))) pa_nil))))), ?_⟩
    refine ⟨_, rfl, _, _, _, _, rfl, rfl, SqT.of hx, atI_nat (j := 0) rfl, _, rfl, _, _, _, _, rfl, rfl, SqT.of hy, atI_nat (j := 1) rfl, _, _, rfl, rfl, cmul ha (show (1 : Int).natAbs < 2 ^ 1 by decide), _, rfl, _, _, _, _, rfl, rfl, SqT.of hx, atI_nat (j := 1) rfl, _, rfl, _, _, _, _, rfl, rfl, SqT.of hy, atI_nat (j := 0) rfl, _, _, rfl, rfl, cmul hb hc, ?_⟩
    exact ⟨_, _, rfl, Int.mul_pos b0 c0, up_pow (mul_pow ha (show (1 : Int).natAbs < 2 ^ 1 by decide)) (by decide), up_pow (mul_pow hb hc) (by decide), q⟩
/-! ### the mathematics of the law -/
theorem dotz_neg : ∀ (ns ms : List Int), (dotz (ns.map fun n => -n) ms).sum = -(dotz ns ms).sum
  | [], ms => rfl
  | n :: ns, [] => rfl
  | n :: ns, m :: ms => by
    have ih := dotz_neg ns ms
    show -n * m + (dotz (ns.map fun n => -n) ms).sum = -(n * m + (dotz ns ms).sum)
    rw [ih, Int.neg_mul]
    omega
theorem dotz_step {q : Int} : ∀ (r t v : List Int), r.length = t.length → t.length = v.length → (dotz r (List.zipWith (fun a b => a + q * b) t v)).sum = (dotz r t).sum + q * (dotz r v).sum
  | [], [], [], _, _ => by show (0 : Int) = 0 + q * 0; omega
  | a :: r, b :: t, c :: v, h1, h2 => by
    have ih := dotz_step (q := q) r t v (Nat.succ.inj h1) (Nat.succ.inj h2)
    show a * (b + q * c) + (dotz r (List.zipWith (fun a b => a + q * b) t v)).sum = (a * b + (dotz r t).sum) + q * (a * c + (dotz r v).sum)
    rw [ih, Int.mul_add, Int.mul_add, Int.mul_left_comm]
    omega
/-- the sum over the first i points of the products with the row, times the weights -/
def colD (row : List Int) (ws : List Int) (vss : List (List Int)) : Nat → Int
  | 0 => 0
  | i + 1 => colD row ws vss i + (ws.getD i 0) * (dotz row (vss.getD i [])).sum
theorem dotz_zero : ∀ (r : List Int) (n : Nat), (dotz r (List.replicate n 0)).sum = 0
  | [], n => rfl
  | a :: r, 0 => rfl
  | a :: r, n + 1 => by
    show a * 0 + (dotz r (List.replicate n 0)).sum = 0
    rw [dotz_zero r n, Int.mul_zero]
    rfl
theorem combT_dot {n : Nat} {row ws : List Int} {vss : List (List Int)} (hr : row.length = n) (hl : ws.length = vss.length) (hn : ∀ v ∈ vss, v.length = n) : ∀ i, i ≤ ws.length → (dotz row (combT n ws vss i)).sum = colD row ws vss i
  | 0, _ => dotz_zero row n
  | i + 1, hi => by
    have e1 : ws[i]? = some (ws[i]'(by omega)) := List.getElem?_eq_getElem (by omega)
    have e2 : vss[i]? = some (vss[i]'(by omega)) := List.getElem?_eq_getElem (by omega)
    have ih := combT_dot hr hl hn i (by omega)
    have lv := hn _ (List.mem_of_getElem? e2)
    have lt := combT_len (ws := ws) hl hn i
    have gw : ws.getD i 0 = ws[i]'(by omega) := by rw [List.getD_eq_getElem?_getD, e1]; rfl
    have gv : vss.getD i [] = vss[i]'(by omega) := by rw [List.getD_eq_getElem?_getD, e2]; rfl
    rw [combT_step e1 e2]
    show (dotz row (List.zipWith (fun a b => a + ws[i]'(by omega) * b) (combT n ws vss i) (vss[i]'(by omega)))).sum = colD row ws vss i + ws.getD i 0 * (dotz row (vss.getD i [])).sum
    rw [dotz_step _ _ _ (by omega) (by omega), ih, gw, gv]
/-- a fraction's value is known by one equation -/
theorem val_eq {a b c d M S : Int} (h1 : Low (a, b)) (h2 : Low (c, d)) (hM : 0 < M) (e1 : a * M = b * S) (e2 : c * M = d * S) : (a, b) = (c, d) := by
  refine low_eq h1 h2 ?_
  show a * d = b * c
  refine Int.eq_of_mul_eq_mul_right (a := M) (by omega) ?_
  have l1 : a * d * M = (a * M) * d := by simp only [Int.mul_assoc, Int.mul_comm, Int.mul_left_comm]
  have l2 : b * c * M = (c * M) * b := by simp only [Int.mul_assoc, Int.mul_comm, Int.mul_left_comm]
  rw [l1, l2, e1, e2]
  simp only [Int.mul_assoc, Int.mul_comm, Int.mul_left_comm]
theorem prim_dot {g : Int} : ∀ (r m c : List Int), m.length = c.length → (∀ i, g * m.getD i 0 = c.getD i 0) → g * (dotz r m).sum = (dotz r c).sum
  | [], _, _, _, _ => Int.mul_zero g
  | a :: r, [], [], _, _ => Int.mul_zero g
  | a :: r, x :: m, y :: c, hl, h => by
    have h0 := h 0
    have ih := prim_dot r m c (Nat.succ.inj hl) fun i => h (i + 1)
    show g * (a * x + (dotz r m).sum) = a * y + (dotz r c).sum
    have h0' : g * x = y := h0
    rw [Int.mul_add, ih, ← h0', Int.mul_left_comm]
theorem dotz_ab {A B : Nat} : ∀ (ns ms : List Int), (∀ n ∈ ns, n.natAbs ≤ A) → (∀ n ∈ ms, n.natAbs ≤ B) → (dotz ns ms).sum.natAbs ≤ ns.length * (A * B)
  | [], ms, _, _ => Nat.zero_le _
  | n :: ns, [], _, _ => Nat.zero_le _
  | n :: ns, m :: ms, h1, h2 => by
    have ih := dotz_ab ns ms (fun x hx => h1 x (List.mem_cons_of_mem _ hx)) (fun x hx => h2 x (List.mem_cons_of_mem _ hx))
    have a := h1 n List.mem_cons_self
    have b := h2 m List.mem_cons_self
    have e : (dotz (n :: ns) (m :: ms)).sum = n * m + (dotz ns ms).sum := rfl
    rw [e, List.length_cons, Nat.succ_mul]
    have : (n * m).natAbs ≤ A * B := by rw [Int.natAbs_mul]; exact Nat.mul_le_mul a b
    omega

/-! ### the middle's value -/
theorem colS_ab {A B : Nat} {ws : List Int} {vss : List (List Int)} {j : Nat} (B1 : ∀ x ∈ ws, x.natAbs ≤ A) (B2 : ∀ v ∈ vss, ∀ x ∈ v, x.natAbs ≤ B) : ∀ i, (colS ws vss j i).natAbs ≤ i * (A * B)
  | 0 => Nat.zero_le _
  | i + 1 => by
    have ih := colS_ab (j := j) B1 B2 i
    have w1 : (ws.getD i 0).natAbs ≤ A := by
      rw [List.getD_eq_getElem?_getD]
      cases h : ws[i]? with
      | none => exact Nat.zero_le _
      | some x => exact B1 x (List.mem_of_getElem? h)
    have v1 : ((vss.getD i []).getD j 0).natAbs ≤ B := by
      rw [List.getD_eq_getElem?_getD (l := vss)]
      cases h : vss[i]? with
      | none => exact Nat.zero_le _
      | some v =>
        show (v.getD j 0).natAbs ≤ B
        rw [List.getD_eq_getElem?_getD]
        cases h2 : v[j]? with
        | none => exact Nat.zero_le _
        | some x => exact B2 v (List.mem_of_getElem? h) x (List.mem_of_getElem? h2)
    have h := Int.natAbs_add_le (colS ws vss j i) (ws.getD i 0 * (vss.getD i []).getD j 0)
    have e : (ws.getD i 0 * (vss.getD i []).getD j 0).natAbs ≤ A * B := by
      rw [Int.natAbs_mul]
      exact Nat.mul_le_mul w1 v1
    show (colS ws vss j i + ws.getD i 0 * (vss.getD i []).getD j 0).natAbs ≤ (i + 1) * (A * B)
    rw [Nat.succ_mul]
    omega
theorem mid_fac {vss : List (List Int)} {n : Nat} {row : List Int} (h1 : 1 ≤ vss.length) (h5 : vss.length ≤ 5) (hn : ∀ v ∈ vss, v.length = n) (n1 : 1 ≤ n) (hw : ∀ v ∈ vss, 0 < v.headD 1) (h3 : ∀ v ∈ vss, ∀ x ∈ v, x.natAbs ≤ 3) (hr : row.length = n) :
    ∃ (w : Int) (xs : List Int) (g : Int), prim (comb n (midW vss) vss) = w :: xs ∧ 0 < w ∧ xs.length + 1 = n ∧ 0 < g ∧ (∀ x ∈ w :: xs, x.natAbs ≤ 2 ^ 15) ∧ g * w = (vss.length : Int) * lcmW vss ∧ g * (dotz row (w :: xs)).sum = colD row (midW vss) vss vss.length := by
  have head : ∀ v ∈ vss, v[0]? = some (v.headD 1) := fun v hvm => by
    have := hn v hvm
    cases v with
    | nil => simp at this; omega
    | cons x r => rfl
  have hdB : ∀ v ∈ vss, (v.headD 1).natAbs ≤ 3 := fun v hvm => h3 v hvm _ (List.mem_of_getElem? (head v hvm))
  have wB : ∀ f ∈ wsOf vss, f.2.natAbs < 2 ^ 2 := fun f hf => by
    obtain ⟨v, hvm, rfl⟩ := List.mem_map.mp hf
    exact Nat.lt_of_le_of_lt (hdB v hvm) (by decide)
  have wl : (wsOf vss).length = vss.length := by unfold wsOf; rw [List.length_map]
  have ml : (midW vss).length = vss.length := by unfold midW; rw [List.length_map]
  obtain ⟨C0, _, Cd, _⟩ := lcmD_facts (wsOf vss) 1 (by decide) (fun f hf => by obtain ⟨v, hv, rfl⟩ := List.mem_map.mp hf; exact hw v hv)
  have C1 : 0 < lcmW vss := C0
  have lim : (lcmW vss).natAbs < 2 ^ 11 := up_pow (lcm_lim3 wB) (by omega)
  have mB : ∀ x ∈ midW vss, x.natAbs ≤ 2 ^ 11 := fun x hx => by
    obtain ⟨v, hvm, rfl⟩ := List.mem_map.mp hx
    exact Nat.le_of_lt (Nat.lt_of_le_of_lt (ediv_abs (hw v hvm)) lim)
  have len1 : (comb n (midW vss) vss).length = n := by rw [← combT_all ml]; exact combT_len ml hn _
  have get : ∀ j, j < n → (comb n (midW vss) vss)[j]? = some (colS (midW vss) vss j vss.length) := fun j hj => by
    rw [← combT_all ml, combT_get ml hn hj _ (Nat.le_refl _), ml]
  have cB : ∀ x ∈ comb n (midW vss) vss, x.natAbs ≤ 2 ^ 15 := fun x hx => by
    obtain ⟨j, hj⟩ := List.getElem?_of_mem hx
    have hjn := lt_of_get hj
    rw [get j (by omega)] at hj
    cases hj
    have := colS_ab (j := j) mB h3 vss.length
    have h : vss.length * (2 ^ 11 * 3) ≤ 5 * (2 ^ 11 * 3) := Nat.mul_le_mul_right _ h5
    exact Nat.le_trans this (Nat.le_trans h (by decide))
  have dotS : (dotz row (comb n (midW vss) vss)).sum = colD row (midW vss) vss vss.length := by
    rw [← combT_all ml, combT_dot hr ml hn _ (Nat.le_refl _), ml]
  have z0 := get 0 (by omega)
  rw [col0 (fun v hv => ⟨hw v hv, head v hv⟩) _ (Nat.le_refl _)] at z0
  have M0 : 0 < (vss.length : Int) * lcmW vss := Int.mul_pos (by omega) C1
  generalize hC : comb n (midW vss) vss = c at *
  have g0 : 0 < gl c := gl_pos (List.mem_of_getElem? z0) (by omega)
  have pl : (prim c).length = c.length := prim_len c
  have p0 := prim_get z0 g0
  have md : gl c * ((vss.length : Int) * lcmW vss / gl c) = (vss.length : Int) * lcmW vss := div_mul (gl_dvd (List.mem_of_getElem? z0))
  have pd := prim_dot (g := gl c) row (prim c) c pl fun i => by
    rw [List.getD_eq_getElem?_getD, List.getD_eq_getElem?_getD]
    cases h : c[i]? with
    | none =>
      have hi := List.getElem?_eq_none_iff.mp h
      rw [List.getElem?_eq_none (by omega)]
      exact Int.mul_zero _
    | some x =>
      rw [prim_get h g0]
      exact div_mul (gl_dvd (List.mem_of_getElem? h))
  have pB := prim_small cB
  cases hP : prim c with
  | nil => rw [hP] at pl; simp at pl; omega
  | cons w xs =>
    rw [hP] at p0 pd pB pl
    have ew : w = (vss.length : Int) * lcmW vss / gl c := Option.some.inj p0
    rw [← ew] at md
    refine ⟨w, xs, gl c, rfl, ?_, by rw [List.length_cons] at pl; omega, g0, pB, md, by rw [pd, dotS]⟩
    have pm : 0 < gl c * w := by rw [md]; exact M0
    rcases Int.lt_or_le 0 w with h | h
    · exact h
    · have := Int.mul_nonpos_of_nonneg_of_nonpos (Int.le_of_lt g0) h
      omega
/-- the value of the middle, times its count -/
theorem told_val {p t q w g M S : Int} (g0 : 0 < g) (h : p * w = t * q) (h1 : g * w = M) (h2 : g * q = S) : p * M = t * S := by
  rw [← h1, ← h2, Int.mul_left_comm, h, Int.mul_left_comm]
/-- less a seventh is smaller -/
theorem sg_less {p t : Int} (t0 : 0 < t) : sg (p * frD (p * 7 - 1 * t) (t * 7) - frN (p * 7 - 1 * t) (t * 7) * t) = 1 := by
  have b0 : 0 < t * 7 := by omega
  have d := frD_pos (a := p * 7 - 1 * t) b0
  have c := fr_cross (a := p * 7 - 1 * t) b0
  generalize frD (p * 7 - 1 * t) (t * 7) = D at *
  generalize frN (p * 7 - 1 * t) (t * 7) = N at *
  refine if_pos ?_
  have h1 : N * t * 7 = D * (p * 7 - t) := by
    rw [Int.mul_assoc, c, Int.one_mul]
  have h2 : D * (p * 7 - t) = (p * D) * 7 - D * t := by
    rw [Int.mul_sub, ← Int.mul_assoc, Int.mul_comm D p]
  have h3 := Int.mul_pos d t0
  omega

/-! ### the law -/
def PtOk (n : Nat) (H : Hp) (v : List Int) (r : Addr) : Prop := Vc H r v ∧ v.length = n ∧ (∀ x ∈ v, x.natAbs ≤ 3) ∧ 0 < v.headD 1 ∧ gl v = 1
theorem tabG_keep {H H' : Hp} {T p : Addr} (h : TabG H T) (ne : T ≠ p) (k : Keep p H H') : TabG H' T := by
  obtain ⟨ps, e, t⟩ := h
  exact ⟨ps, k _ _ ne e, t⟩
/-- a primitive point is made of its own coordinates -/
theorem made_pt {w : Int} {xs : List Int} (w0 : 0 < w) (hg : gl (w :: xs) = 1) : over1 (lcmD (xs.map fun x => (frN x w, frD x w))) (xs.map fun x => (frN x w, frD x w)) = w :: xs := by
  have hlow : ∀ f ∈ xs.map (fun x => (frN x w, frD x w)), Low f := fun f hf => by
    obtain ⟨x, _, rfl⟩ := List.mem_map.mp hf
    exact low_fr w0
  have hd : ∀ f ∈ xs.map (fun x => (frN x w, frD x w)), f.2 ∣ w := fun f hf => by
    obtain ⟨x, _, rfl⟩ := List.mem_map.mp hf
    exact ⟨g2 x w, by
      show w = w / g2 x w * g2 x w
      rw [Int.mul_comm]
      exact (div_mul (g2_dvd_r x w)).symm⟩
  have e : over1 w (xs.map fun x => (frN x w, frD x w)) = w :: xs := by
    unfold over1
    rw [List.map_map]
    congr 1
    conv => rhs; rw [← List.map_id xs]
    refine List.map_congr_left fun x _ => ?_
    show frN x w * (w / frD x w) = x
    have dp := frD_pos (a := x) w0
    have h1 := fr_cross (a := x) w0
    have h2 : frD x w * (w / frD x w) = w := div_mul ⟨g2 x w, by
      show w = w / g2 x w * g2 x w
      rw [Int.mul_comm]
      exact (div_mul (g2_dvd_r x w)).symm⟩
    refine Int.eq_of_mul_eq_mul_right (a := frD x w) (by omega) ?_
    rw [Int.mul_assoc, Int.mul_comm (w / frD x w), h2, h1, Int.mul_comm]
  obtain ⟨L0, _, hL, _⟩ := lcmD_facts (xs.map fun x => (frN x w, frD x w)) 1 (by decide) fun f hf => (hlow f hf).1
  rw [← over1_prim hlow]
  have := prim_prop (a := w) (b := lcmD (xs.map fun x => (frN x w, frD x w))) w0 L0 (over1_prop (fun f hf => (hlow f hf).1) hL hd)
  rw [this, e]
  unfold prim
  rw [hg, if_neg (by decide)]
  conv => rhs; rw [← List.map_id (w :: xs)]
  exact List.map_congr_left fun x _ => Int.ediv_one x
theorem sum_zero {n d n2 d2 w x : Int} (w0 : 0 < w) (h1 : n * w = d * x) (h2 : n2 * w = d2 * -x) : n * d2 + n2 * d = 0 := by
  refine (Int.mul_eq_zero.mp (?_ : (n * d2 + n2 * d) * w = 0)).resolve_right (by omega)
  have a1 : n * d2 * w = d * x * d2 := by rw [← h1]; simp only [Int.mul_assoc, Int.mul_comm, Int.mul_left_comm]
  have a2 : n2 * d * w = d2 * -x * d := by rw [← h2]; simp only [Int.mul_assoc, Int.mul_comm, Int.mul_left_comm]
  rw [Int.add_mul, a1, a2, Int.mul_neg, Int.neg_mul]
  have a3 : d2 * x * d = d * x * d2 := by simp only [Int.mul_assoc, Int.mul_comm, Int.mul_left_comm]
  rw [a3]
  omega
abbrev s_law : Stmt := topS 40
theorem sc_law : FnScope ["script", "pool", "d", "row", "points", "total", "point", "told", "k"] ["script"] (defScope s_law) := ⟨rfl, rfl, rfl, by decide +kernel, rfl, by decide +kernel, by decide +kernel⟩
def spLaw (T : Addr) (K : PySem.W.Frag) : Sp := fun vs H Q _ => ∃ (a : Addr) (ns : List Int), vs = [.ref a] ∧ SqL K H a (ns.map V.int) ∧ TabG H T ∧ ∀ H', Q (.bl true) H'
theorem ok_law {f T : Addr} {fd : FuncData} {k : Nat} (F : Fun K "law" "law" s_law f fd) (Z : Glb mg)
    (C_law_pool : Call P w K mg base k "_law_pool" ["script"] (spPool K))
    (C_law_draw : Call P w K mg base k "_law_draw" ["pool", "many"] spDraw)
    (C_law_prim : Call P w K mg base k "_law_prim" ["v"] spPrimK)
    (C_law_point : Call P w K mg base k "_law_point" ["pool", "d", "most"] spPoint)
    (Cplus : Call P w K mg base k "plus" ["x", "y"] (spTwo fun a b c d => (a * d + c * b, b * d)))
    (Cminus : Call P w K mg base k "minus" ["x", "y"] (spTwo fun a b c d => (a * d - c * b, b * d)))
    (Cover : Call P w K mg base k "over" ["x", "y"] spOverP)
    (Ccompare : Call P w K mg base k "compare" ["x", "y"] spComp)
    (Cvalue_at : Call P w K mg base k "value_at" ["inequality", "point"] spVal)
    (Creversed_inequality : Call P w K mg base k "reversed_inequality" ["inequality"] spRev)
    (Cmiddle : Call P w K mg base k "middle" ["points"] spMid)
    (Cmade_point : Call P w K mg base k "made_point" ["coordinates"] spMadePt)
    (Ccoordinates : Call P w K mg base k "coordinates" ["point"] spCoord)
    (Cwrite_point : Call P w K mg base k "write_point" ["point"] spWP)
    (Cread_point : Call P w K mg base k "read_point" ["d", "text"] (spRP T)) : FnOk P w K mg base CX0 (k + 1) f fd ["script"] (spLaw T K) := by
  refine F.ok sc_law (fun vs H Q E h => ?_) (fun cdv A outer s H vs Q E hr h => ?_)
  · obtain ⟨a, ns, rfl, _⟩ := h
    rfl
  · obtain ⟨sa, ns, rfl, hS, hT0, q⟩ := h
    refine ⟨_, (pss_cons (ps_set (i := 1) sc_law.nd rfl (.inr rfl) (pe_call C_law_pool.G hr (by rfl) C_law_pool.m C_law_pool.kp C_law_pool.b .nil pass0 (pa_cons (pv 0) pa_nil)))
      (pss_cons (ps_set (i := 2) sc_law.nd rfl (.inr rfl) (pe_op op_add pe_int (pe_call C_law_draw.G hr (by rfl) C_law_draw.m C_law_draw.kp C_law_draw.b .nil pass0 (pa_cons (pv 1) (pa_cons pe_int pa_nil)))))
      (pss_cons (ps_set (i := 3) sc_law.nd rfl (.inl rfl) (pe_call C_law_prim.G hr (by rfl) C_law_prim.m C_law_prim.kp C_law_prim.b .nil pass0 (pa_cons (pe_op op_cat (pe_lc (own := [("k", 8)]) (g := gName 8) (tt := tYes) (by rfl) sc_law.nd (pi_range1 rfl Z.m_range (pa_cons (pv 2) pa_nil)) (blkOk_by (own := [("k", 8)]) (N := ["script", "pool", "d", "row", "points", "total", "point", "told", "k"]) (sc := defScope s_law) (by first | decide +kernel | kernel_rfl)) (fun _ _ _ _ _ => (pg_name (i := 8) sc_law.nd rfl (.inl rfl))) (fun _ _ _ _ _ => pts_nil) (fun _ _ _ _ _ => (pe_op op_sub (pe_call C_law_draw.G hr (by rfl) C_law_draw.m C_law_draw.kp C_law_draw.b .nil pass0 (pa_cons (pv 1) (pa_cons pe_int pa_nil))) pe_int))) (pe_lst (pa_cons (pe_op op_add pe_int (pe_call C_law_draw.G hr (by rfl) C_law_draw.m C_law_draw.kp C_law_draw.b .nil pass0 (pa_cons (pv 1) (pa_cons pe_int pa_nil)))) pa_nil))) pa_nil)))
      (pss_cons (ps_setLc (i := 4) (own := [("k", 8)]) (g := gName 8) (tt := tYes) (by rfl) sc_law.nd rfl rfl (sw_true rfl rfl rfl (by decide +kernel)) (pi_range1 rfl Z.m_range (pa_cons (pe_op op_add pe_int (pe_call C_law_draw.G hr (by rfl) C_law_draw.m C_law_draw.kp C_law_draw.b .nil pass0 (pa_cons (pv 1) (pa_cons pe_int pa_nil)))) pa_nil)) (blkOk_by (own := [("k", 8)]) (N := ["script", "pool", "d", "row", "points", "total", "point", "told", "k"]) (sc := defScope s_law) (by first | decide +kernel | kernel_rfl)) (fun _ _ _ _ _ => (pg_name (i := 8) sc_law.nd rfl (.inl rfl))) (fun _ _ _ _ _ => pts_nil) (fun _ _ _ _ _ => (pe_call C_law_point.G hr (by rfl) C_law_point.m C_law_point.kp C_law_point.b .nil pass0 (pa_cons (pv 1) (pa_cons (pv 2) (pa_cons pe_int pa_nil))))))
      (pss_cons (ps_set (i := 5) sc_law.nd rfl (.inl rfl) (pe_tup (pa_cons pe_int (pa_cons pe_int pa_nil))))
      (pss_cons (ps_for PassesOwn.never rfl (pi_list (pv 4)) (pg_name (i := 6) sc_law.nd rfl (.inl rfl)) (pss_cons (ps_set (i := 5) sc_law.nd rfl (.inl rfl) (pe_call Cplus.G hr (by rfl) Cplus.m Cplus.kp Cplus.b .nil pass0 (pa_cons (pv 5) (pa_cons (pe_call Cvalue_at.G hr (by rfl) Cvalue_at.m Cvalue_at.kp Cvalue_at.b .nil pass0 (pa_cons (pv 3) (pa_cons (pv 6) pa_nil))) pa_nil))))
      (pss_cons (ps_if (PW.pt (pw_or (pt_cmpR (r := rNeD K) (op_neD hr.units) (pe_call Cread_point.G hr (by rfl) Cread_point.m Cread_point.kp Cread_point.b .nil pass0 (pa_cons (pv 2) (pa_cons (pe_call Cwrite_point.G hr (by rfl) Cwrite_point.m Cwrite_point.kp Cwrite_point.b .nil pass0 (pa_cons (pv 6) pa_nil)) pa_nil))) (pv 6) (nomark _)) (pw_or1 (pt_cmpR (r := rNeD K) (op_neD hr.units) (pe_call Cmade_point.G hr (by rfl) Cmade_point.m Cmade_point.kp Cmade_point.b .nil pass0 (pa_cons (pe_call Ccoordinates.G hr (by rfl) Ccoordinates.m Ccoordinates.kp Ccoordinates.b .nil pass0 (pa_cons (pv 6) pa_nil)) pa_nil)) (pv 6) (nomark _))))) (pss_one ps_never) pss_nil)
      (pss_one (ps_if (pt_cmpR (r := rNeD K) (op_neD hr.units) (pe_call Cplus.G hr (by rfl) Cplus.m Cplus.kp Cplus.b .nil pass0 (pa_cons (pe_call Cvalue_at.G hr (by rfl) Cvalue_at.m Cvalue_at.kp Cvalue_at.b .nil pass0 (pa_cons (pv 3) (pa_cons (pv 6) pa_nil))) (pa_cons (pe_call Cvalue_at.G hr (by rfl) Cvalue_at.m Cvalue_at.kp Cvalue_at.b .nil pass0 (pa_cons (pe_call Creversed_inequality.G hr (by rfl) Creversed_inequality.m Creversed_inequality.kp Creversed_inequality.b .nil pass0 (pa_cons (pv 3) pa_nil)) (pa_cons (pv 6) pa_nil))) pa_nil))) (pe_tup (pa_cons pe_int (pa_cons pe_int pa_nil))) (nomark _)) (pss_one ps_never) pss_nil)))))
      (pss_cons (ps_set (i := 7) sc_law.nd rfl (.inl rfl) (pe_call Cvalue_at.G hr (by rfl) Cvalue_at.m Cvalue_at.kp Cvalue_at.b .nil pass0 (pa_cons (pv 3) (pa_cons (pe_call Cmiddle.G hr (by rfl) Cmiddle.m Cmiddle.kp Cmiddle.b .nil pass0 (pa_cons (pv 4) pa_nil)) pa_nil))))
      (pss_one (ps_ret (pe_and (pe_cmpR (r := rEqD K) (op_eqD hr.units) (pv 7) (pe_call Cover.G hr (by rfl) Cover.m Cover.kp Cover.b .nil pass0 (pa_cons (pv 5) (pa_cons (pe_tup (pa_cons (pe_callB call_len_seq (by rfl) Z.m_len PySem.boot_len (pa_cons (pv 4) pa_nil)) (pa_cons pe_int pa_nil))) pa_nil))) (nomark _)) (pe_one (pe_cmpR op_eq (pe_call Ccompare.G hr (by rfl) Ccompare.m Ccompare.kp Ccompare.b .nil pass0 (pa_cons (pv 7) (pa_cons (pe_call Cminus.G hr (by rfl) Cminus.m Cminus.kp Cminus.b .nil pass0 (pa_cons (pv 7) (pa_cons (pe_tup (pa_cons pe_int (pa_cons pe_int pa_nil))) pa_nil))) pa_nil))) pe_int (nomark _))))))))))))), ?_⟩
    refine ⟨_, rfl, sa, ns, rfl, hS, fun H1 p s1 np hP => ?_⟩
    have Tp : T ≠ p := tabG_free hT0 np
    have hT1 := (smT_same hT0 s1).1
    -- d
    refine ⟨_, rfl, p, _, rfl, by decide, by decide, hP, fun v0 H2 l0 u0 P2 B2 => ⟨_, _, rfl, rfl, ?_⟩⟩
    have hT2 := tabG_keep hT1 Tp B2.keep
    obtain ⟨dn, rfl⟩ := Int.eq_ofNat_of_zero_le l0
    have ed : (1 + (dn : Int)) = ((dn + 1 : Nat) : Int) := by omega
    show gName 2 (V.int (1 + (dn : Int))) _ _ _
    rw [ed]
    have d4 : dn + 1 ≤ 4 := by omega
    -- row
    refine ⟨_, rfl, dn + 1, rfl, by omega, by omega, fun D nD => ?_⟩
    refine lc_range (lo := 0) (n := dn + 1) (fun i H' => Dr p H2 D 4 i H') (dr0 P2 nD) (fun i H' hi hW => ?_) (fun H3 hW => ?_)
    · refine ⟨rfl, ?_⟩
      unfold tYes
      refine iteT ?_
      have P5 := hW.1.choose_spec.2.1.pl
      refine ⟨_, rfl, p, _, rfl, by decide, by decide, P5, fun z H6 l6 u6 P6 B6 => ⟨_, _, rfl, rfl, ?_⟩⟩
      obtain ⟨acc, h1, h2, h3⟩ := dr_step (n := z - 4) nD P2 hW B6 P6 (by omega)
      exact ⟨acc, h1, small1000 (by omega), h3⟩
    have K3 := hW.kp
    have hT3 := tabG_keep hT2 Tp K3.k
    obtain ⟨⟨q3, _, hq3, _⟩, _, xs, eD, lx, bX⟩ := hW
    have Dp : D ≠ p := ne_pool P2 nD
    refine ⟨_, rfl, p, _, rfl, by decide, by decide, hq3.pl, fun v4 H4 l4 u4 P4 B4 => ⟨_, _, rfl, rfl, (show 1 ≤ sizeLine by decide), fun D2 nD2 => ?_⟩⟩
    have hT4 := tabG_keep hT3 Tp B4.keep
    have eD4 := B4.keep _ _ Dp eD
    have s5 := same_upd (o := .lst [.int (1 + v4)]) nD2
    refine ⟨D, D2, _, _, rfl, rfl, s5 _ _ eD4, upd_same, ?_, fun D3 nD3 => ?_⟩
    · rw [List.length_map]
      exact Nat.le_of_lt (small1000 (show xs.length + 1 ≤ 1000 by omega))
    have s6 := same_upd (o := .lst (xs.map V.int ++ [.int (1 + v4)])) nD3
    have e6 : (upd (upd H4 D2 (.lst [.int (1 + v4)])) D3 (.lst (xs.map V.int ++ [.int (1 + v4)]))) D3 = some (.lst ((xs ++ [1 + v4]).map V.int)) := by rw [upd_same, List.map_append]; rfl
    have P6 := (P4.same s5).same s6
    have hT6 := (smT_same (smT_same hT4 s5).1 s6).1
    generalize upd (upd H4 D2 (.lst [.int (1 + v4)])) D3 (.lst (xs.map V.int ++ [.int (1 + v4)])) = H6 at *
    have b4 : ∀ x ∈ xs ++ [1 + v4], x.natAbs ≤ 16 := fun x hx => by
      rcases List.mem_append.mp hx with h | h
      · have := bX x h; omega
      · rw [List.mem_singleton.mp h]; omega
    refine ⟨false, D3, xs ++ [1 + v4], rfl, e6, by rw [List.length_append]; show xs.length + 1 ≤ 1000; omega, fun x hx => Nat.lt_of_le_of_lt (b4 x hx) (by decide +kernel), fun H7 rw' s7 hrow => ?_⟩
    have P7 := P6.same s7
    have hT7 := (smT_same hT6 s7).1
    have lrow : (prim (xs ++ [1 + v4])).length = dn + 2 := by rw [prim_len, List.length_append]; show xs.length + 1 = dn + 2; omega
    have brow := prim_small b4
    generalize prim (xs ++ [1 + v4]) = row at *
    -- points
    refine ⟨_, rfl, p, _, rfl, by decide, by decide, P7, fun vc H8 l8 u8 P8 B8 => ⟨_, _, rfl, rfl, _, rfl, by omega, by omega, fun D5 nD5 => ?_⟩⟩
    have hT8 := tabG_keep hT7 Tp B8.keep
    have hrow8 := hrow.keep P7 B8.keep
    refine lc_range (lo := 0) (n := (1 + vc).toNat) (DrR (PtOk (dn + 2)) p H8 D5) (drR0 P8 nD5) (fun i H9 hi hW => ?_) (fun H9 hW => ?_)
    · refine ⟨rfl, ?_⟩
      unfold tYes
      refine iteT ?_
      refine ⟨_, rfl, _, rfl, p, dn + 1, 5, rfl, by omega, by decide, by decide, hW.pt, fun H10 r ns7 P10 K10 V10 L10 S10 W10 G10 => ?_⟩
      have hd7 : 0 < ns7.headD 1 := by
        obtain ⟨w0, h1, h2⟩ := W10
        cases ns7 with
        | nil => cases h1
        | cons x r => cases h1; exact h2
      obtain ⟨acc, h1, h2, h3⟩ := drR_step (R := PtOk (dn + 2)) (fun A1 A2 f r h g => ⟨h _ g.1, g.2⟩) nD5 P8 hW K10 P10 V10 (f := ns7) ⟨V10, L10, S10, hd7, G10⟩
      exact ⟨acc, h1, small1000 (by omega), h3⟩
    have P9 := hW.pt
    obtain ⟨_, K9, rs, vss, el, lr, lf, g⟩ := hW
    have hT9 := tabG_keep hT8 Tp K9
    have hrow9 := hrow8.keep P8 K9
    have g' : ∀ v ∈ vss, ∃ r, PtOk (dn + 2) H9 v r := fun f hf => by
      obtain ⟨j, hj⟩ := List.getElem?_of_mem hf
      have : rs[j]? = some (rs[j]'(by have := lt_of_get hj; omega)) := List.getElem?_eq_getElem _
      exact ⟨_, (g j _ f this hj).1⟩
    have V9 : VL H9 D5 vss := ⟨rs, el, by omega, fun i r hr => by
      have : vss[i]? = some (vss[i]'(by have := lt_of_get hr; omega)) := List.getElem?_eq_getElem _
      exact ⟨_, this, (g i r _ hr this).1.1⟩⟩
    have vn : ∀ v ∈ vss, v.length = dn + 2 := fun v hv => by obtain ⟨r, h⟩ := g' v hv; exact h.2.1
    have v3 : ∀ v ∈ vss, ∀ x ∈ v, x.natAbs ≤ 3 := fun v hv => by obtain ⟨r, h⟩ := g' v hv; exact h.2.2.1
    have vh : ∀ v ∈ vss, 0 < v.headD 1 := fun v hv => by obtain ⟨r, h⟩ := g' v hv; exact h.2.2.2.1
    have vg : ∀ v ∈ vss, gl v = 1 := fun v hv => by obtain ⟨r, h⟩ := g' v hv; exact h.2.2.2.2
    have m1 : 1 ≤ vss.length := by omega
    have m5 : vss.length ≤ 5 := by omega
    have cons : ∀ v ∈ vss, v = v.headD 1 :: v.drop 1 := fun v hv => by
      have := vn v hv
      cases v with
      | nil => simp at this
      | cons x r => rfl
    obtain ⟨C0', _, Cd', _⟩ := lcmD_facts (wsOf vss) 1 (by decide) (fun f hf => by obtain ⟨v, hv, rfl⟩ := List.mem_map.mp hf; exact vh v hv)
    have C0 : 0 < lcmW vss := C0'
    have Cd : ∀ v ∈ vss, v.headD 1 ∣ lcmW vss := fun v hv => Cd' (0, v.headD 1) (List.mem_map.mpr ⟨v, hv, rfl⟩)
    have ml : (midW vss).length = vss.length := by unfold midW; rw [List.length_map]
    have u100 : ∀ {x : Int} {b : Nat}, x.natAbs ≤ b → b < 2 ^ 20 → x.natAbs < 2 ^ 100 := fun h k => Nat.lt_trans (Nat.lt_of_le_of_lt h k) (by decide +kernel)
    have row100 : ∀ x ∈ row, x.natAbs < 2 ^ 100 := fun x hx => u100 (brow x hx) (by decide)
    -- total
    refine ⟨(show 2 ≤ sizeLine by decide), fun t0 nt0 => ?_⟩
    have st := same_upd (o := .tup [.int 0, .int 1]) nt0
    have ht0 : Vc (upd H9 t0 (.tup [.int 0, .int 1])) t0 [0, 1] := upd_same
    have m0 := smT_same hT9 st
    generalize upd H9 t0 (.tup [.int 0, .int 1]) = H10 at *
    refine ⟨_, rfl, D5, rfl, ⟨_, SqL.of (m0.2 _ _ (tabG_neL hT9 el) el)⟩, ?_⟩
    refine for_list (xs := rs.map V.ref) (fun i σ H' => SmT T H9 H' ∧ ∃ (tt : Addr) (N Dn : Int) (y6 : Option V), σ = [some (.ref sa), some (.ref p), some (.int ((dn + 1 : Nat) : Int)), some (.ref rw'), some (.ref D5), some (.ref tt), y6, none, none] ∧ Vc H' tt [N, Dn] ∧ 0 < Dn ∧ N * lcmW vss = Dn * colD row (midW vss) vss i ∧ N.natAbs < 2 ^ (8 + 4 * i) ∧ Dn.natAbs < 2 ^ (2 * i + 1))
      ⟨m0, t0, 0, 1, _, rfl, ht0, by decide, by rw [Int.zero_mul]; exact (Int.mul_zero 1).symm, by decide, by decide⟩ (fun i σ H' _ hW => SqL.of (hW.1.2 _ _ (tabG_neL hT9 el) el)) (fun i x σ H' hx hW => ?_) (fun σ H' hW => ?_)
    · obtain ⟨mS, tt, N, Dn, y6, rfl, htt, D0, hN, bN, bD⟩ := hW
      obtain ⟨r, hr1, rfl⟩ := ref_get hx
      have hi := lt_of_get hr1
      have ev : vss[i]? = some (vss[i]'(by omega)) := List.getElem?_eq_getElem _
      have hv9 := (g i r _ hr1 ev).1.1
      have mv := List.mem_of_getElem? ev
      have ec := cons _ mv
      have lv := vn _ mv
      have b3 := v3 _ mv
      have w0 := vh _ mv
      have gv := vg _ mv
      have wL := Cd _ mv
      have gD : vss.getD i [] = vss[i]'(by omega) := by rw [List.getD_eq_getElem?_getD, ev]; rfl
      have gW : (midW vss).getD i 0 = lcmW vss / (vss[i]'(by omega)).headD 1 := by
        rw [List.getD_eq_getElem?_getD]
        unfold midW
        rw [List.getElem?_map, ev]
        rfl
      generalize vss[i]'(by omega) = v at *
      obtain ⟨w, xs', rfl⟩ : ∃ w xs', v = w :: xs' := ⟨_, _, ec⟩
      have w0 : 0 < w := w0
      have wL : w ∣ lcmW vss := wL
      have lxs : xs'.length = dn + 1 := by rw [List.length_cons] at lv; omega
      have bw : w.natAbs ≤ 3 := b3 w List.mem_cons_self
      have bx : ∀ x ∈ xs', x.natAbs ≤ 3 := fun x hx => b3 x (List.mem_cons_of_mem _ hx)
      have hv := hv9.smT hT9 mS
      have hrw := hrow9.smT hT9 mS
      have pt100 : ∀ x ∈ w :: xs', x.natAbs < 2 ^ 100 := fun x hx => u100 (b3 x hx) (by decide)
      have bdot : ∀ R : List Int, R.length = dn + 2 → (∀ x ∈ R, x.natAbs ≤ 16) → (dotz R (w :: xs')).sum.natAbs < 2 ^ 8 := fun R hR hb => by
        have := dotz_ab R (w :: xs') hb b3
        rw [hR] at this
        have : (dn + 2) * (16 * 3) ≤ 5 * (16 * 3) := Nat.mul_le_mul_right _ (by omega)
        omega
      have bd1 := bdot row lrow brow
      have hTS := mS.1
      -- total = plus(total, value_at(row, point))
      refine ⟨_, rfl, _, rfl, _, rfl, rw', r, row, w, xs', rfl, hrw, hv, w0, by omega, by omega, row100, pt100, fun Ha va sa' hva => ?_⟩
      have c1 := fr_cross (a := (dotz row (w :: xs')).sum) w0
      have d1 := frD_pos (a := (dotz row (w :: xs')).sum) w0
      have e1 := frN_abs (a := (dotz row (w :: xs')).sum) (b := w) (by omega)
      have e2 := frD_abs (a := (dotz row (w :: xs')).sum) (b := w) (by omega)
      have up : ∀ {x : Int} {b : Nat}, x.natAbs < 2 ^ b → b ≤ 100 → x.natAbs < 2 ^ 140 := fun h k => up_pow h (by omega)
      refine ⟨tt, va, N, Dn, _, _, rfl, ⟨htt.same sa', D0, up bN (by omega), up bD (by omega)⟩, ⟨hva, d1, up (b := 8) (by omega) (by decide), up (b := 8) (by omega) (by decide)⟩, fun pb npb => ?_⟩
      have sb := sa'.trans (same_upd (o := .tup [.int (frN (N * frD (dotz row (w :: xs')).sum w + frN (dotz row (w :: xs')).sum w * Dn) (Dn * frD (dotz row (w :: xs')).sum w)), .int (frD (N * frD (dotz row (w :: xs')).sum w + frN (dotz row (w :: xs')).sum w * Dn) (Dn * frD (dotz row (w :: xs')).sum w))]) npb)
      have hpb : Vc (upd Ha pb (.tup [.int (frN (N * frD (dotz row (w :: xs')).sum w + frN (dotz row (w :: xs')).sum w * Dn) (Dn * frD (dotz row (w :: xs')).sum w)), .int (frD (N * frD (dotz row (w :: xs')).sum w + frN (dotz row (w :: xs')).sum w * Dn) (Dn * frD (dotz row (w :: xs')).sum w))])) pb [frN (N * frD (dotz row (w :: xs')).sum w + frN (dotz row (w :: xs')).sum w * Dn) (Dn * frD (dotz row (w :: xs')).sum w), frD (N * frD (dotz row (w :: xs')).sum w + frN (dotz row (w :: xs')).sum w * Dn) (Dn * frD (dotz row (w :: xs')).sum w)] := upd_same
      have DD := Int.mul_pos D0 d1
      have next := sum_step (x := (dotz row (w :: xs')).sum) (w := w) (c := lcmW vss / w) D0 d1 hN (by rw [c1]) (div_mul wL) (fr_cross (a := N * frD (dotz row (w :: xs')).sum w + frN (dotz row (w :: xs')).sum w * Dn) DD)
      have D0' := frD_pos (a := N * frD (dotz row (w :: xs')).sum w + frN (dotz row (w :: xs')).sum w * Dn) DD
      have bN' : (frN (N * frD (dotz row (w :: xs')).sum w + frN (dotz row (w :: xs')).sum w * Dn) (Dn * frD (dotz row (w :: xs')).sum w)).natAbs < 2 ^ (8 + 4 * (i + 1)) := by
        refine Nat.lt_of_le_of_lt (frN_abs (by omega)) ?_
        have f1 : (frD (dotz row (w :: xs')).sum w).natAbs < 2 ^ 2 := by omega
        have f2 : (frN (dotz row (w :: xs')).sum w).natAbs < 2 ^ 8 := by omega
        exact up_pow (add_pow (up_pow (mul_pow bN f1) (show 8 + 4 * i + 2 ≤ 11 + 4 * i by omega)) (up_pow (mul_pow f2 bD) (show 8 + (2 * i + 1) ≤ 11 + 4 * i by omega))) (by omega)
      have bD' : (frD (N * frD (dotz row (w :: xs')).sum w + frN (dotz row (w :: xs')).sum w * Dn) (Dn * frD (dotz row (w :: xs')).sum w)).natAbs < 2 ^ (2 * (i + 1) + 1) := by
        refine Nat.lt_of_le_of_lt (frD_abs (by omega)) ?_
        have f1 : (frD (dotz row (w :: xs')).sum w).natAbs < 2 ^ 2 := by omega
        exact up_pow (mul_pow bD f1) (by omega)
      generalize frN (N * frD (dotz row (w :: xs')).sum w + frN (dotz row (w :: xs')).sum w * Dn) (Dn * frD (dotz row (w :: xs')).sum w) = N' at *
      generalize frD (N * frD (dotz row (w :: xs')).sum w + frN (dotz row (w :: xs')).sum w * Dn) (Dn * frD (dotz row (w :: xs')).sum w) = D' at *
      generalize upd Ha pb (.tup [.int N', .int D']) = Hb at *
      have mb := mS.trans (smT_same hTS sb)
      have hvb := hv.same sb
      have smf : ∀ f ∈ xs'.map (fun x => (frN x w, frD x w)), Sm f := fun f hf => by
        obtain ⟨x, hx', rfl⟩ := List.mem_map.mp hf
        exact sm_fr (bx x hx') w0 bw
      have lfs : (xs'.map fun x => (frN x w, frD x w)).length = dn + 1 := by rw [List.length_map]; exact lxs
      have mp := made_pt w0 gv
      have u290 : ∀ {x : Int}, x.natAbs ≤ 3 → x.natAbs < 2 ^ 290 := fun h => Nat.lt_of_le_of_lt h (by decide +kernel)
      have u300 : ∀ {x : Int}, x.natAbs ≤ 3 → x.natAbs < 2 ^ 300 := fun h => Nat.lt_of_le_of_lt h (by decide +kernel)
      have l1000 : (w :: xs').length ≤ 1000 := by rw [List.length_cons]; omega
      -- read_point of write_point
      refine ⟨_, rfl, _, rfl, r, w, xs', rfl, hvb, w0, bw, bx, by omega, fun Hc sc => ?_⟩
      have mc := mb.trans (smT_same mb.1 sc)
      refine ⟨dn + 1, xs'.map (fun x => (frN x w, frD x w)), rfl, lfs, by omega, d4, smf, mc.1, fun Hd rd md hrd => ?_⟩
      have m4 := mc.trans md
      have hv4 := (hvb.same sc).smT mc.1 md
      rw [mp] at hrd
      refine ⟨_, rfl, _, _, .tup (SqT.of hrd) (dp_ints _), .tup (SqT.of hv4) (dp_ints _), shaped_ints _ l1000, shaped_ints _ l1000, ?_⟩
      rw [PyData.eqv, eqv_ints, decide_eq_true rfl]
      refine ⟨_, rfl, iteF ?_⟩
      -- made_point of coordinates
      refine ⟨_, rfl, r, w, xs', rfl, hv4, w0, u290 bw, fun x hx => u290 (bx x hx), by omega, fun He le se Fe => ?_⟩
      have m5' := m4.trans (smT_same m4.1 se)
      have Fe' : FL He le (xs'.map fun x => (frN x w, frD x w)) 300 := by
        obtain ⟨qs, a1, a2, a3⟩ := Fe
        exact ⟨qs, a1, a2, fun i r hr => by obtain ⟨f, h1, h2⟩ := a3 i r hr; exact ⟨f, h1, h2.up (by decide)⟩⟩
      refine ⟨le, _, rfl, Fe', fun f hf => (smf f hf).2.2, fun f hf => u300 (smf f hf).2.1, fun f hf => u300 (smf f hf).1, by omega, by omega, fun Hf rf sf hrf => ?_⟩
      have m6 := m5'.trans (smT_same m5'.1 sf)
      have hv6 := (hv4.same se).same sf
      rw [mp] at hrf
      refine ⟨_, rfl, _, _, .tup (SqT.of hrf) (dp_ints _), .tup (SqT.of hv6) (dp_ints _), shaped_ints _ l1000, shaped_ints _ l1000, ?_⟩
      rw [PyData.eqv, eqv_ints, decide_eq_true rfl]
      refine ⟨_, rfl, iteF ?_⟩
      -- the two values add up to 0
      have hrw6 := hrow9.smT hT9 m6
      refine ⟨_, rfl, _, rfl, rw', r, row, w, xs', rfl, hrw6, hv6, w0, by omega, by omega, row100, pt100, fun Hg vg' sg' hvg => ?_⟩
      refine ⟨_, rfl, rw', row, rfl, hrw6.same sg', by omega, fun Hh rh sh hrh => ?_⟩
      have bneg : ∀ x ∈ row.map (fun n => -n), x.natAbs ≤ 16 := fun x hx => by
        obtain ⟨y, hy, rfl⟩ := List.mem_map.mp hx
        have := brow y hy
        omega
      refine ⟨_, rfl, rh, r, row.map (fun n => -n), w, xs', rfl, hrh, (hv6.same sg').same sh, w0, by rw [List.length_map]; omega, by rw [List.length_map]; omega, fun x hx => u100 (bneg x hx) (by decide), pt100, fun Hi vi si hvi => ?_⟩
      have bd2 := bdot (row.map fun n => -n) (by rw [List.length_map]; exact lrow) bneg
      rw [dotz_neg] at hvi bd2
      have c2 := fr_cross (a := -(dotz row (w :: xs')).sum) w0
      have d2 := frD_pos (a := -(dotz row (w :: xs')).sum) w0
      have e3 := frN_abs (a := -(dotz row (w :: xs')).sum) (b := w) (by omega)
      have e4 := frD_abs (a := -(dotz row (w :: xs')).sum) (b := w) (by omega)
      have zz := sum_zero (n := frN (dotz row (w :: xs')).sum w) (d := frD (dotz row (w :: xs')).sum w) (n2 := frN (-(dotz row (w :: xs')).sum) w) (d2 := frD (-(dotz row (w :: xs')).sum) w) (x := (dotz row (w :: xs')).sum) w0 c1 c2
      refine ⟨vg', vi, _, _, _, _, rfl, ⟨sh.trans si _ _ hvg, d1, up (b := 8) (by omega) (by decide), up (b := 8) (by omega) (by decide)⟩, ⟨hvi, d2, up (b := 8) (by omega) (by decide), up (b := 8) (by omega) (by decide)⟩, fun pj npj => ?_⟩
      have ee := Int.mul_pos d1 d2
      generalize frN (dotz row (w :: xs')).sum w = n1 at *
      generalize frD (dotz row (w :: xs')).sum w = dd1 at *
      generalize frN (-(dotz row (w :: xs')).sum) w = n2 at *
      generalize frD (-(dotz row (w :: xs')).sum) w = dd2 at *
      have lz := low_eq (low_fr (a := n1 * dd2 + n2 * dd1) ee) (g := (0, 1)) ⟨(by show (0 : Int) < 1; decide), rfl⟩ (by
        show frN (n1 * dd2 + n2 * dd1) (dd1 * dd2) * 1 = frD (n1 * dd2 + n2 * dd1) (dd1 * dd2) * 0
        have := fr_cross (a := n1 * dd2 + n2 * dd1) ee
        rw [zz, Int.mul_zero] at this
        rw [Int.mul_zero, Int.mul_one, zz]
        exact (Int.mul_eq_zero.mp this).resolve_right (by omega))
      have lz1 : frN (n1 * dd2 + n2 * dd1) (dd1 * dd2) = 0 := congrArg Prod.fst lz
      have lz2 : frD (n1 * dd2 + n2 * dd1) (dd1 * dd2) = 1 := congrArg Prod.snd lz
      have sj := (sg'.trans (sh.trans si)).trans (same_upd (o := .tup [.int (frN (n1 * dd2 + n2 * dd1) (dd1 * dd2)), .int (frD (n1 * dd2 + n2 * dd1) (dd1 * dd2))]) npj)
      have hpj : Vc (upd Hi pj (.tup [.int (frN (n1 * dd2 + n2 * dd1) (dd1 * dd2)), .int (frD (n1 * dd2 + n2 * dd1) (dd1 * dd2))])) pj [frN (n1 * dd2 + n2 * dd1) (dd1 * dd2), frD (n1 * dd2 + n2 * dd1) (dd1 * dd2)] := upd_same
      refine ⟨(show 2 ≤ sizeLine by decide), fun u nu => ?_⟩
      have su := same_upd (o := .tup [.int 0, .int 1]) nu
      refine ⟨_, _, .tup (SqT.of (hpj.same su)) (dp_ints [_, _]), .tup (SqT.of upd_same) (dp_ints [0, 1]), shaped_ints _ (by show 2 ≤ 1000; decide), shaped_ints _ (by show 2 ≤ 1000; decide), ?_⟩
      have dc : decide ([frN (n1 * dd2 + n2 * dd1) (dd1 * dd2), frD (n1 * dd2 + n2 * dd1) (dd1 * dd2)] = [0, 1]) = true := decide_eq_true (by rw [lz1, lz2])
      rw [PyData.eqv, eqv_ints, dc]
      have m7 := m6.trans (smT_same m6.1 (sj.trans su))
      refine ⟨_, rfl, iteF ⟨m7, pb, N', D', _, rfl, ?_, D0', ?_, bN', bD'⟩⟩
      · exact ((((((hpb.same sc).smT mc.1 md).same se).same sf).same sj).same su)
      · show N' * lcmW vss = D' * (colD row (midW vss) vss i + (midW vss).getD i 0 * (dotz row (vss.getD i [])).sum)
        rw [gW, gD]
        exact next
    · obtain ⟨mS, tt, N, Dn, y6, rfl, htt, D0, hN, bN, bD⟩ := hW
      have elr : (rs.map V.ref).length = vss.length := by rw [List.length_map]; omega
      rw [elr] at hN bN bD
      obtain ⟨wm, xm, gm, em, wm0, lxm, gm0, bm, gw, gs⟩ := mid_fac (row := row) m1 m5 vn (by omega) vh v3 lrow
      have hrw := hrow9.smT hT9 mS
      refine ⟨_, rfl, _, rfl, D5, vss, dn + 2, rfl, V9.smT hT9 mS, m1, by omega, vn, by omega, by omega, vh, fun v hv x hx => Nat.lt_of_le_of_lt (v3 v hv x hx) (by decide), fun Hm rm sm hrm => ?_⟩
      rw [em] at hrm
      refine ⟨rw', rm, row, wm, xm, rfl, hrw.same sm, hrm, wm0, by omega, by omega, row100, fun x hx => u100 (bm x hx) (by decide), fun Ha va sa' hva => ?_⟩
      have bdm : (dotz row (wm :: xm)).sum.natAbs < 2 ^ 30 := by
        have h := dotz_ab row (wm :: xm) brow bm
        rw [lrow] at h
        have : (dn + 2) * (16 * 2 ^ 15) ≤ 5 * (16 * 2 ^ 15) := Nat.mul_le_mul_right _ (by omega)
        exact Nat.lt_of_le_of_lt (Nat.le_trans h this) (by decide)
      have cT := fr_cross (a := (dotz row (wm :: xm)).sum) wm0
      have dT := frD_pos (a := (dotz row (wm :: xm)).sum) wm0
      have nT := frN_abs (a := (dotz row (wm :: xm)).sum) (b := wm) (by omega)
      have eT := frD_abs (a := (dotz row (wm :: xm)).sum) (b := wm) (by omega)
      have lT := low_fr (a := (dotz row (wm :: xm)).sum) wm0
      have vT := told_val gm0 cT gw gs
      have bwm := bm wm List.mem_cons_self
      have bp := Nat.lt_of_le_of_lt nT bdm
      have bt : (frD (dotz row (wm :: xm)).sum wm).natAbs < 2 ^ 16 := Nat.lt_of_le_of_lt (Nat.le_trans eT bwm) (by decide)
      generalize frN (dotz row (wm :: xm)).sum wm = pT at *
      generalize frD (dotz row (wm :: xm)).sum wm = tT at *
      have sA := sm.trans sa'
      have elA : Ha D5 = some (.lst (rs.map V.ref)) := sA _ _ (mS.2 _ _ (tabG_neL hT9 el) el)
      have M0 : 0 < (vss.length : Int) := by omega
      have DM := Int.mul_pos D0 M0
      have cO := fr_cross (a := N * 1) DM
      have vO := avg_step D0 hN cO
      have lO := low_fr (a := N * 1) DM
      have eqv := val_eq lT lO (Int.mul_pos M0 C0) vT vO
      refine ⟨_, rfl, _, rfl, _, rfl, _, _, rfl, .inl (SqL.of elA), (show 2 ≤ sizeLine by decide), fun q1 nq1 => ?_⟩
      have s1' := same_upd (o := .tup [.int (((rs.map V.ref).length : Nat) : Int), .int 1]) nq1
      have hq1 : Vc (upd Ha q1 (.tup [.int (((rs.map V.ref).length : Nat) : Int), .int 1])) q1 [((rs.map V.ref).length : Int), 1] := upd_same
      rw [elr] at s1' hq1
      rw [elr]
      generalize upd Ha q1 (.tup [.int ((vss.length : Nat) : Int), .int 1]) = Hb at *
      have httb := (htt.same sA).same s1'
      have up : ∀ {x : Int} {b : Nat}, x.natAbs < 2 ^ b → b ≤ 140 → x.natAbs < 2 ^ 140 := fun h k => up_pow h k
      refine ⟨tt, q1, N, Dn, (vss.length : Int), rfl, ⟨httb, D0, up bN (by omega), up bD (by omega)⟩, hq1, M0, Nat.lt_of_le_of_lt (show ((vss.length : Int)).natAbs ≤ 5 by omega) (by decide), fun q2 nq2 => ?_⟩
      have s2' := same_upd (o := .tup [.int (frN (N * 1) (Dn * (vss.length : Int))), .int (frD (N * 1) (Dn * (vss.length : Int)))]) nq2
      have hq2 : Vc (upd Hb q2 (.tup [.int (frN (N * 1) (Dn * (vss.length : Int))), .int (frD (N * 1) (Dn * (vss.length : Int)))])) q2 [frN (N * 1) (Dn * (vss.length : Int)), frD (N * 1) (Dn * (vss.length : Int))] := upd_same
      have hva2 : Vc (upd Hb q2 (.tup [.int (frN (N * 1) (Dn * (vss.length : Int))), .int (frD (N * 1) (Dn * (vss.length : Int)))])) va [pT, tT] := (show Vc Ha va [pT, tT] from hva).same (s1'.trans s2')
      refine ⟨_, _, .tup (SqT.of hva2) (dp_ints [pT, tT]), .tup (SqT.of hq2) (dp_ints [_, _]), shaped_ints _ (by show 2 ≤ 1000; decide), shaped_ints _ (by show 2 ≤ 1000; decide), ?_⟩
      have dc : decide ([pT, tT] = [frN (N * 1) (Dn * (vss.length : Int)), frD (N * 1) (Dn * (vss.length : Int))]) = true := decide_eq_true (by rw [show pT = _ from congrArg Prod.fst eqv, show tT = _ from congrArg Prod.snd eqv])
      rw [PyData.eqv, eqv_ints, dc]
      refine ⟨true, rfl, iteT ?_⟩
      have fT : Fr (upd Hb q2 (.tup [.int (frN (N * 1) (Dn * (vss.length : Int))), .int (frD (N * 1) (Dn * (vss.length : Int)))])) va pT tT 140 := ⟨hva2, dT, up bp (by decide), up bt (by decide)⟩
      generalize upd Hb q2 (.tup [.int (frN (N * 1) (Dn * (vss.length : Int))), .int (frD (N * 1) (Dn * (vss.length : Int)))]) = Hc at *
      refine ⟨_, rfl, _, rfl, (show 2 ≤ sizeLine by decide), fun q3 nq3 => ?_⟩
      have s3' := same_upd (o := .tup [.int 1, .int 7]) nq3
      have hq3' : (upd Hc q3 (.tup [.int 1, .int 7])) q3 = some (.tup [.int 1, .int 7]) := upd_same
      generalize upd Hc q3 (.tup [.int 1, .int 7]) = Hd at *
      refine ⟨va, q3, pT, tT, 1, 7, rfl, ⟨s3' _ _ fT.1, fT.2⟩, ⟨hq3', by decide, by decide, by decide⟩, fun q4 nq4 => ?_⟩
      have s4' := same_upd (o := .tup [.int (frN (pT * 7 - 1 * tT) (tT * 7)), .int (frD (pT * 7 - 1 * tT) (tT * 7))]) nq4
      have t7 : 0 < tT * 7 := by omega
      have n7 := frN_abs (a := pT * 7 - 1 * tT) (b := tT * 7) (by omega)
      have d7 := frD_abs (a := pT * 7 - 1 * tT) (b := tT * 7) (by omega)
      refine ⟨va, q4, pT, tT, frN (pT * 7 - 1 * tT) (tT * 7), frD (pT * 7 - 1 * tT) (tT * 7), rfl, ⟨s4' _ _ (s3' _ _ fT.1), fT.2⟩, ⟨upd_same, frD_pos t7, up (b := 40) (by omega) (by decide), up (b := 40) (by omega) (by decide)⟩, fun He se => ?_⟩
      rw [sg_less dT]
      refine ⟨rfl, ?_⟩
      show Q (V.bl (decide (V.int 1 = V.int 1))) He
      rw [decide_eq_true rfl]
      exact q He

end
/-! ### the end: the law is called where the table of one def stands -/
theorem walk_top {l : PySem.W.OpenLaw} {n k : Nat} {q : Program} {loose : List Str} {XP : (Str → Option Value) → Heap → Prop} {YP : World → Heap → Prop} {d : DefRec} {K : Params → PySem.W.Frag} {CX : World → CXT} {x : Str}
    (hn : l.most = some n) (hn2 : n ≤ sizeLine) (hdf : d.params.defaults = []) (hr : Room k callerA) (hY : ∀ (w : World) (h : Heap), YP w h → (K w.params).In h)
    (F : ∀ (w : World) (mg : Str → Option Value) (fa : Addr) (h : Heap), YP w h → (K w.params).In h → h.Ns mainGlobals mg → mg d.name = some (.ref fa) →
      (∀ (nm : Str) (c T : Addr), ((recsOf q).any fun e => e.name == nm) = true → PySem.W.tabIn (K w.params) nm = some (c, T) → PySem.W.CodeHd h c T ∧ h.get? T = some { cls := .none, data := .fields #[] }) → LamX.LawAtS l w (K w.params) (CX w) k n x mg fa h)
    (hCX : ∀ (w : World) (H : Hp) (s : Shared) (e : Value) (s' : Shared), CX w [] H s (fun _ _ _ => False) e s' → False) :
    PySem.W.WalkO q loose XP YP l.row.toRowW d [] (fun f vs => PySem.call f vs) := by
  refine Att.attach_callB hn hdf fun w s₀ s₁ mg mb fa o pm cd doc a vs ns G Y ho hd hcd hmg hobj hints hlen hbits hg => ?_
  have KX := hY w _ Y
  obtain ⟨fd, cs, sp, hT, nT, C, hb, hsp, hF⟩ := F w mg fa _ Y KX G.T.g hmg fun nm c T hm ht => by
    cases hf : (recsOf q).find? fun e => e.name == nm with
    | none =>
      obtain ⟨e, he, hn⟩ := List.any_eq_true.mp hm
      exact absurd hn (List.find?_eq_none.mp hf e he)
    | some e => exact PySem.W.tab_of G.T KX hf ht
  exact LamX.law_callTs KX G.T.g G.T.b G.T.builtins G.T.nolimit hg hT nT C G.T.bmain hobj hints (Nat.le_trans hlen hn2) hr hF hb (fun H hH hS => hsp H a ns hlen hbits hH hS) fun H e s' => hCX w H s₁ e s'
theorem tabIn_of {K : PySem.W.Frag} {nm : Str} {f c T : Addr} {oc ec : Value} {od ed : Option Addr} {fd : FuncData} {sl es : Array (Option Value)} {vs : Array Value} (a : PySem.W.nsIn K mainGlobals nm = some (some (.ref f))) (l : K.lookup f = some ⟨oc, od, .func fd, sl⟩) (e : fd.code = .ref c)
    (lc : K.lookup c = some ⟨ec, ed, .fields vs, es⟩) (e11 : vs[11]? = some (.ref T)) : PySem.W.tabIn K nm = some (c, T) := by
  unfold PySem.W.tabIn
  rw [a]
  simp only [l, e, lc, e11]
theorem at_mk {l : PySem.W.OpenLaw} {w : World} {K : PySem.W.Frag} {q : Program} {k n : Nat} {mg : Str → Option Value} {fa : Addr} {h : Heap} {nm : Str} {c T : Addr}
    (TT : ∀ (nm : Str) (c T : Addr), ((recsOf q).any fun e => e.name == nm) = true → PySem.W.tabIn K nm = some (c, T) → PySem.W.CodeHd h c T ∧ h.get? T = some { cls := .none, data := .fields #[] })
    (hm : ((recsOf q).any fun e => e.name == nm) = true)
    (F : PySem.W.tabIn K nm = some (c, T) ∧ K.lookup T = none ∧ ∃ fd : FuncData, (∀ (s : Shared) (v : Value), BindsTo s fd ⟨[v], []⟩ [("script", v)]) ∧ ∀ base : Heap, K.In base → base.Ns mainGlobals mg → GxR.TabB base mg c T → FnOk l.prog w K mg base CX0 k fa fd ["script"] (spLaw T K)) :
    LamX.LawAtS l w K CX0 k n "script" mg fa h := by
  obtain ⟨ht, nT, fd, hb, hF⟩ := F
  obtain ⟨h1, h2⟩ := TT nm c T hm ht
  refine ⟨fd, [(c, T)], spLaw T K, fun p hp => ?_, fun p hp => ?_, fun p hp => ?_, hb, fun H a ns _ _ hT hS => ⟨a, ns, rfl, hS, ⟨#[], hT (c, T) List.mem_cons_self, trivial⟩, fun _ => rfl⟩, fun base KX G TB => hF base KX G ?_⟩
  · rw [List.mem_singleton.mp hp]; exact h2
  · rw [List.mem_singleton.mp hp]; exact nT
  · rw [List.mem_singleton.mp hp]; exact h1
  · have t := TB (c, T) List.mem_cons_self
    exact ⟨t.code, t.bm, t.gP⟩
section
variable {P : Program} {w : World} {K : PySem.W.Frag} {mg : Str → Option Value} {base : Heap}

end
/-! ### what the top has written -/
theorem all_mk {l : PySem.W.OpenLaw} {w : World} {K : PySem.W.Frag} {h : Heap} {mg : Str → Option Value} {fa f__law_gcd f__law_spread f__law_draw f__law_pool f_common_divisor f_primitive f_dot f__law_prim f__law_point f_fraction f_plus f_minus f_over f_sign f_compare f_value_at f_reversed_inequality f_combined f_with_common_first f_middle f_made_point f_coordinates f_write_integer f_write_fraction f_write_point f_is_number f_read_integer f_read_fraction f_read_point f_law  : Addr} (X : K.In h) (G : h.Ns mainGlobals mg) (hfa : mg "law" = some (.ref fa))
    {od__law_gcd an__law_gcd od__law_spread an__law_spread od__law_draw an__law_draw od__law_pool an__law_pool od_common_divisor an_common_divisor od_primitive an_primitive od_dot an_dot od__law_prim an__law_prim od__law_point an__law_point od_fraction an_fraction od_plus an_plus od_minus an_minus od_over an_over od_sign an_sign od_compare an_compare od_value_at an_value_at od_reversed_inequality an_reversed_inequality od_combined an_combined od_with_common_first an_with_common_first od_middle an_middle od_made_point an_made_point od_coordinates an_coordinates od_write_integer an_write_integer od_write_fraction an_write_fraction od_write_point an_write_point od_is_number an_is_number od_read_integer an_read_integer od_read_fraction an_read_fraction od_read_point an_read_point od_law an_law : Option Addr} {sl__law_gcd sl__law_spread sl__law_draw sl__law_pool sl_common_divisor sl_primitive sl_dot sl__law_prim sl__law_point sl_fraction sl_plus sl_minus sl_over sl_sign sl_compare sl_value_at sl_reversed_inequality sl_combined sl_with_common_first sl_middle sl_made_point sl_coordinates sl_write_integer sl_write_fraction sl_write_point sl_is_number sl_read_integer sl_read_fraction sl_read_point sl_law : Array (Option Value)} {oc__law_gcd kV__law_gcd dc__law_gcd pm__law_gcd cd__law_gcd ct__law_gcd oc__law_spread kV__law_spread dc__law_spread pm__law_spread cd__law_spread ct__law_spread oc__law_draw kV__law_draw dc__law_draw pm__law_draw cd__law_draw ct__law_draw oc__law_pool kV__law_pool dc__law_pool pm__law_pool cd__law_pool ct__law_pool oc_common_divisor kV_common_divisor dc_common_divisor pm_common_divisor cd_common_divisor ct_common_divisor oc_primitive kV_primitive dc_primitive pm_primitive cd_primitive ct_primitive oc_dot kV_dot dc_dot pm_dot cd_dot ct_dot oc__law_prim kV__law_prim dc__law_prim pm__law_prim cd__law_prim ct__law_prim oc__law_point kV__law_point dc__law_point pm__law_point cd__law_point ct__law_point oc_fraction kV_fraction dc_fraction pm_fraction cd_fraction ct_fraction oc_plus kV_plus dc_plus pm_plus cd_plus ct_plus oc_minus kV_minus dc_minus pm_minus cd_minus ct_minus oc_over kV_over dc_over pm_over cd_over ct_over oc_sign kV_sign dc_sign pm_sign cd_sign ct_sign oc_compare kV_compare dc_compare pm_compare cd_compare ct_compare oc_value_at kV_value_at dc_value_at pm_value_at cd_value_at ct_value_at oc_reversed_inequality kV_reversed_inequality dc_reversed_inequality pm_reversed_inequality cd_reversed_inequality ct_reversed_inequality oc_combined kV_combined dc_combined pm_combined cd_combined ct_combined oc_with_common_first kV_with_common_first dc_with_common_first pm_with_common_first cd_with_common_first ct_with_common_first oc_middle kV_middle dc_middle pm_middle cd_middle ct_middle oc_made_point kV_made_point dc_made_point pm_made_point cd_made_point ct_made_point oc_coordinates kV_coordinates dc_coordinates pm_coordinates cd_coordinates ct_coordinates oc_write_integer kV_write_integer dc_write_integer pm_write_integer cd_write_integer ct_write_integer oc_write_fraction kV_write_fraction dc_write_fraction pm_write_fraction cd_write_fraction ct_write_fraction oc_write_point kV_write_point dc_write_point pm_write_point cd_write_point ct_write_point oc_is_number kV_is_number dc_is_number pm_is_number ct_is_number oc_read_integer kV_read_integer dc_read_integer pm_read_integer cd_read_integer ct_read_integer oc_read_fraction kV_read_fraction dc_read_fraction pm_read_fraction cd_read_fraction ct_read_fraction oc_read_point kV_read_point dc_read_point pm_read_point cd_read_point ct_read_point oc_law kV_law dc_law pm_law cd_law ct_law : Value}
    {c_I T_I : Addr} {t_most : _} {ec_I : Value} {ed_I : Option Addr} {vs_I : Array Value} {es_I : Array (Option Value)}
    (a__law_gcd : PySem.W.nsIn K mainGlobals "_law_gcd" = some (some (.ref f__law_gcd))) (l__law_gcd : K.lookup f__law_gcd = some ⟨oc__law_gcd, od__law_gcd, .func (PySem.W.fnOf "_law_gcd" "_law_gcd" (defArgs s__law_gcd) (defBody s__law_gcd) (defScope s__law_gcd) .none kV__law_gcd dc__law_gcd pm__law_gcd an__law_gcd cd__law_gcd ct__law_gcd), sl__law_gcd⟩) (c__law_gcd : PySem.W.codeIn K cd__law_gcd "_law_gcd" = true) (k__law_gcd : PySem.W.keepIn K (.ref f__law_gcd) = true)
    (a__law_spread : PySem.W.nsIn K mainGlobals "_law_spread" = some (some (.ref f__law_spread))) (l__law_spread : K.lookup f__law_spread = some ⟨oc__law_spread, od__law_spread, .func (PySem.W.fnOf "_law_spread" "_law_spread" (defArgs s__law_spread) (defBody s__law_spread) (defScope s__law_spread) .none kV__law_spread dc__law_spread pm__law_spread an__law_spread cd__law_spread ct__law_spread), sl__law_spread⟩) (c__law_spread : PySem.W.codeIn K cd__law_spread "_law_spread" = true) (k__law_spread : PySem.W.keepIn K (.ref f__law_spread) = true)
    (a__law_draw : PySem.W.nsIn K mainGlobals "_law_draw" = some (some (.ref f__law_draw))) (l__law_draw : K.lookup f__law_draw = some ⟨oc__law_draw, od__law_draw, .func (PySem.W.fnOf "_law_draw" "_law_draw" (defArgs s__law_draw) (defBody s__law_draw) (defScope s__law_draw) .none kV__law_draw dc__law_draw pm__law_draw an__law_draw cd__law_draw ct__law_draw), sl__law_draw⟩) (c__law_draw : PySem.W.codeIn K cd__law_draw "_law_draw" = true) (k__law_draw : PySem.W.keepIn K (.ref f__law_draw) = true)
    (a__law_pool : PySem.W.nsIn K mainGlobals "_law_pool" = some (some (.ref f__law_pool))) (l__law_pool : K.lookup f__law_pool = some ⟨oc__law_pool, od__law_pool, .func (PySem.W.fnOf "_law_pool" "_law_pool" (defArgs s__law_pool) (defBody s__law_pool) (defScope s__law_pool) .none kV__law_pool dc__law_pool pm__law_pool an__law_pool cd__law_pool ct__law_pool), sl__law_pool⟩) (c__law_pool : PySem.W.codeIn K cd__law_pool "_law_pool" = true) (k__law_pool : PySem.W.keepIn K (.ref f__law_pool) = true)
    (a_common_divisor : PySem.W.nsIn K mainGlobals "common_divisor" = some (some (.ref f_common_divisor))) (l_common_divisor : K.lookup f_common_divisor = some ⟨oc_common_divisor, od_common_divisor, .func (PySem.W.fnOf "common_divisor" "common_divisor" (defArgs s_common_divisor) (defBody s_common_divisor) (defScope s_common_divisor) .none kV_common_divisor dc_common_divisor pm_common_divisor an_common_divisor cd_common_divisor ct_common_divisor), sl_common_divisor⟩) (c_common_divisor : PySem.W.codeIn K cd_common_divisor "common_divisor" = true) (k_common_divisor : PySem.W.keepIn K (.ref f_common_divisor) = true)
    (a_primitive : PySem.W.nsIn K mainGlobals "primitive" = some (some (.ref f_primitive))) (l_primitive : K.lookup f_primitive = some ⟨oc_primitive, od_primitive, .func (PySem.W.fnOf "primitive" "primitive" (defArgs s_primitive) (defBody s_primitive) (defScope s_primitive) .none kV_primitive dc_primitive pm_primitive an_primitive cd_primitive ct_primitive), sl_primitive⟩) (c_primitive : PySem.W.codeIn K cd_primitive "primitive" = true) (k_primitive : PySem.W.keepIn K (.ref f_primitive) = true)
    (a_dot : PySem.W.nsIn K mainGlobals "dot" = some (some (.ref f_dot))) (l_dot : K.lookup f_dot = some ⟨oc_dot, od_dot, .func (PySem.W.fnOf "dot" "dot" (defArgs s_dot) (defBody s_dot) (defScope s_dot) .none kV_dot dc_dot pm_dot an_dot cd_dot ct_dot), sl_dot⟩) (c_dot : PySem.W.codeIn K cd_dot "dot" = true) (k_dot : PySem.W.keepIn K (.ref f_dot) = true)
    (a__law_prim : PySem.W.nsIn K mainGlobals "_law_prim" = some (some (.ref f__law_prim))) (l__law_prim : K.lookup f__law_prim = some ⟨oc__law_prim, od__law_prim, .func (PySem.W.fnOf "_law_prim" "_law_prim" (defArgs s__law_prim) (defBody s__law_prim) (defScope s__law_prim) .none kV__law_prim dc__law_prim pm__law_prim an__law_prim cd__law_prim ct__law_prim), sl__law_prim⟩) (c__law_prim : PySem.W.codeIn K cd__law_prim "_law_prim" = true) (k__law_prim : PySem.W.keepIn K (.ref f__law_prim) = true)
    (a__law_point : PySem.W.nsIn K mainGlobals "_law_point" = some (some (.ref f__law_point))) (l__law_point : K.lookup f__law_point = some ⟨oc__law_point, od__law_point, .func (PySem.W.fnOf "_law_point" "_law_point" (defArgs s__law_point) (defBody s__law_point) (defScope s__law_point) .none kV__law_point dc__law_point pm__law_point an__law_point cd__law_point ct__law_point), sl__law_point⟩) (c__law_point : PySem.W.codeIn K cd__law_point "_law_point" = true) (k__law_point : PySem.W.keepIn K (.ref f__law_point) = true)
    (a_fraction : PySem.W.nsIn K mainGlobals "fraction" = some (some (.ref f_fraction))) (l_fraction : K.lookup f_fraction = some ⟨oc_fraction, od_fraction, .func (PySem.W.fnOf "fraction" "fraction" (defArgs s_fraction) (defBody s_fraction) (defScope s_fraction) .none kV_fraction dc_fraction pm_fraction an_fraction cd_fraction ct_fraction), sl_fraction⟩) (c_fraction : PySem.W.codeIn K cd_fraction "fraction" = true) (k_fraction : PySem.W.keepIn K (.ref f_fraction) = true)
    (a_plus : PySem.W.nsIn K mainGlobals "plus" = some (some (.ref f_plus))) (l_plus : K.lookup f_plus = some ⟨oc_plus, od_plus, .func (PySem.W.fnOf "plus" "plus" (defArgs s_plus) (defBody s_plus) (defScope s_plus) .none kV_plus dc_plus pm_plus an_plus cd_plus ct_plus), sl_plus⟩) (c_plus : PySem.W.codeIn K cd_plus "plus" = true) (k_plus : PySem.W.keepIn K (.ref f_plus) = true)
    (a_minus : PySem.W.nsIn K mainGlobals "minus" = some (some (.ref f_minus))) (l_minus : K.lookup f_minus = some ⟨oc_minus, od_minus, .func (PySem.W.fnOf "minus" "minus" (defArgs s_minus) (defBody s_minus) (defScope s_minus) .none kV_minus dc_minus pm_minus an_minus cd_minus ct_minus), sl_minus⟩) (c_minus : PySem.W.codeIn K cd_minus "minus" = true) (k_minus : PySem.W.keepIn K (.ref f_minus) = true)
    (a_over : PySem.W.nsIn K mainGlobals "over" = some (some (.ref f_over))) (l_over : K.lookup f_over = some ⟨oc_over, od_over, .func (PySem.W.fnOf "over" "over" (defArgs s_over) (defBody s_over) (defScope s_over) .none kV_over dc_over pm_over an_over cd_over ct_over), sl_over⟩) (c_over : PySem.W.codeIn K cd_over "over" = true) (k_over : PySem.W.keepIn K (.ref f_over) = true)
    (a_sign : PySem.W.nsIn K mainGlobals "sign" = some (some (.ref f_sign))) (l_sign : K.lookup f_sign = some ⟨oc_sign, od_sign, .func (PySem.W.fnOf "sign" "sign" (defArgs s_sign) (defBody s_sign) (defScope s_sign) .none kV_sign dc_sign pm_sign an_sign cd_sign ct_sign), sl_sign⟩) (c_sign : PySem.W.codeIn K cd_sign "sign" = true) (k_sign : PySem.W.keepIn K (.ref f_sign) = true)
    (a_compare : PySem.W.nsIn K mainGlobals "compare" = some (some (.ref f_compare))) (l_compare : K.lookup f_compare = some ⟨oc_compare, od_compare, .func (PySem.W.fnOf "compare" "compare" (defArgs s_compare) (defBody s_compare) (defScope s_compare) .none kV_compare dc_compare pm_compare an_compare cd_compare ct_compare), sl_compare⟩) (c_compare : PySem.W.codeIn K cd_compare "compare" = true) (k_compare : PySem.W.keepIn K (.ref f_compare) = true)
    (a_value_at : PySem.W.nsIn K mainGlobals "value_at" = some (some (.ref f_value_at))) (l_value_at : K.lookup f_value_at = some ⟨oc_value_at, od_value_at, .func (PySem.W.fnOf "value_at" "value_at" (defArgs s_value_at) (defBody s_value_at) (defScope s_value_at) .none kV_value_at dc_value_at pm_value_at an_value_at cd_value_at ct_value_at), sl_value_at⟩) (c_value_at : PySem.W.codeIn K cd_value_at "value_at" = true) (k_value_at : PySem.W.keepIn K (.ref f_value_at) = true)
    (a_reversed_inequality : PySem.W.nsIn K mainGlobals "reversed_inequality" = some (some (.ref f_reversed_inequality))) (l_reversed_inequality : K.lookup f_reversed_inequality = some ⟨oc_reversed_inequality, od_reversed_inequality, .func (PySem.W.fnOf "reversed_inequality" "reversed_inequality" (defArgs s_reversed_inequality) (defBody s_reversed_inequality) (defScope s_reversed_inequality) .none kV_reversed_inequality dc_reversed_inequality pm_reversed_inequality an_reversed_inequality cd_reversed_inequality ct_reversed_inequality), sl_reversed_inequality⟩) (c_reversed_inequality : PySem.W.codeIn K cd_reversed_inequality "reversed_inequality" = true) (k_reversed_inequality : PySem.W.keepIn K (.ref f_reversed_inequality) = true)
    (a_combined : PySem.W.nsIn K mainGlobals "combined" = some (some (.ref f_combined))) (l_combined : K.lookup f_combined = some ⟨oc_combined, od_combined, .func (PySem.W.fnOf "combined" "combined" (defArgs s_combined) (defBody s_combined) (defScope s_combined) .none kV_combined dc_combined pm_combined an_combined cd_combined ct_combined), sl_combined⟩) (c_combined : PySem.W.codeIn K cd_combined "combined" = true) (k_combined : PySem.W.keepIn K (.ref f_combined) = true)
    (a_with_common_first : PySem.W.nsIn K mainGlobals "with_common_first" = some (some (.ref f_with_common_first))) (l_with_common_first : K.lookup f_with_common_first = some ⟨oc_with_common_first, od_with_common_first, .func (PySem.W.fnOf "with_common_first" "with_common_first" (defArgs s_with_common_first) (defBody s_with_common_first) (defScope s_with_common_first) .none kV_with_common_first dc_with_common_first pm_with_common_first an_with_common_first cd_with_common_first ct_with_common_first), sl_with_common_first⟩) (c_with_common_first : PySem.W.codeIn K cd_with_common_first "with_common_first" = true) (k_with_common_first : PySem.W.keepIn K (.ref f_with_common_first) = true)
    (a_middle : PySem.W.nsIn K mainGlobals "middle" = some (some (.ref f_middle))) (l_middle : K.lookup f_middle = some ⟨oc_middle, od_middle, .func (PySem.W.fnOf "middle" "middle" (defArgs s_middle) (defBody s_middle) (defScope s_middle) .none kV_middle dc_middle pm_middle an_middle cd_middle ct_middle), sl_middle⟩) (c_middle : PySem.W.codeIn K cd_middle "middle" = true) (k_middle : PySem.W.keepIn K (.ref f_middle) = true)
    (a_made_point : PySem.W.nsIn K mainGlobals "made_point" = some (some (.ref f_made_point))) (l_made_point : K.lookup f_made_point = some ⟨oc_made_point, od_made_point, .func (PySem.W.fnOf "made_point" "made_point" (defArgs s_made_point) (defBody s_made_point) (defScope s_made_point) .none kV_made_point dc_made_point pm_made_point an_made_point cd_made_point ct_made_point), sl_made_point⟩) (c_made_point : PySem.W.codeIn K cd_made_point "made_point" = true) (k_made_point : PySem.W.keepIn K (.ref f_made_point) = true)
    (a_coordinates : PySem.W.nsIn K mainGlobals "coordinates" = some (some (.ref f_coordinates))) (l_coordinates : K.lookup f_coordinates = some ⟨oc_coordinates, od_coordinates, .func (PySem.W.fnOf "coordinates" "coordinates" (defArgs s_coordinates) (defBody s_coordinates) (defScope s_coordinates) .none kV_coordinates dc_coordinates pm_coordinates an_coordinates cd_coordinates ct_coordinates), sl_coordinates⟩) (c_coordinates : PySem.W.codeIn K cd_coordinates "coordinates" = true) (k_coordinates : PySem.W.keepIn K (.ref f_coordinates) = true)
    (a_write_integer : PySem.W.nsIn K mainGlobals "write_integer" = some (some (.ref f_write_integer))) (l_write_integer : K.lookup f_write_integer = some ⟨oc_write_integer, od_write_integer, .func (PySem.W.fnOf "write_integer" "write_integer" (defArgs s_write_integer) (defBody s_write_integer) (defScope s_write_integer) .none kV_write_integer dc_write_integer pm_write_integer an_write_integer cd_write_integer ct_write_integer), sl_write_integer⟩) (c_write_integer : PySem.W.codeIn K cd_write_integer "write_integer" = true) (k_write_integer : PySem.W.keepIn K (.ref f_write_integer) = true)
    (a_write_fraction : PySem.W.nsIn K mainGlobals "write_fraction" = some (some (.ref f_write_fraction))) (l_write_fraction : K.lookup f_write_fraction = some ⟨oc_write_fraction, od_write_fraction, .func (PySem.W.fnOf "write_fraction" "write_fraction" (defArgs s_write_fraction) (defBody s_write_fraction) (defScope s_write_fraction) .none kV_write_fraction dc_write_fraction pm_write_fraction an_write_fraction cd_write_fraction ct_write_fraction), sl_write_fraction⟩) (c_write_fraction : PySem.W.codeIn K cd_write_fraction "write_fraction" = true) (k_write_fraction : PySem.W.keepIn K (.ref f_write_fraction) = true)
    (a_write_point : PySem.W.nsIn K mainGlobals "write_point" = some (some (.ref f_write_point))) (l_write_point : K.lookup f_write_point = some ⟨oc_write_point, od_write_point, .func (PySem.W.fnOf "write_point" "write_point" (defArgs s_write_point) (defBody s_write_point) (defScope s_write_point) .none kV_write_point dc_write_point pm_write_point an_write_point cd_write_point ct_write_point), sl_write_point⟩) (c_write_point : PySem.W.codeIn K cd_write_point "write_point" = true) (k_write_point : PySem.W.keepIn K (.ref f_write_point) = true)
    (a_is_number : PySem.W.nsIn K mainGlobals "is_number" = some (some (.ref f_is_number))) (l_is_number : K.lookup f_is_number = some ⟨oc_is_number, od_is_number, .func (PySem.W.fnOf "is_number" "is_number" (defArgs s_is_number) (defBody s_is_number) (defScope s_is_number) .none kV_is_number dc_is_number pm_is_number an_is_number (.ref c_I) ct_is_number), sl_is_number⟩) (c_is_number : PySem.W.codeIn K (.ref c_I) "is_number" = true) (k_is_number : PySem.W.keepIn K (.ref f_is_number) = true)
    (a_read_integer : PySem.W.nsIn K mainGlobals "read_integer" = some (some (.ref f_read_integer))) (l_read_integer : K.lookup f_read_integer = some ⟨oc_read_integer, od_read_integer, .func (PySem.W.fnOf "read_integer" "read_integer" (defArgs s_read_integer) (defBody s_read_integer) (defScope s_read_integer) .none kV_read_integer dc_read_integer pm_read_integer an_read_integer cd_read_integer ct_read_integer), sl_read_integer⟩) (c_read_integer : PySem.W.codeIn K cd_read_integer "read_integer" = true) (k_read_integer : PySem.W.keepIn K (.ref f_read_integer) = true)
    (a_read_fraction : PySem.W.nsIn K mainGlobals "read_fraction" = some (some (.ref f_read_fraction))) (l_read_fraction : K.lookup f_read_fraction = some ⟨oc_read_fraction, od_read_fraction, .func (PySem.W.fnOf "read_fraction" "read_fraction" (defArgs s_read_fraction) (defBody s_read_fraction) (defScope s_read_fraction) .none kV_read_fraction dc_read_fraction pm_read_fraction an_read_fraction cd_read_fraction ct_read_fraction), sl_read_fraction⟩) (c_read_fraction : PySem.W.codeIn K cd_read_fraction "read_fraction" = true) (k_read_fraction : PySem.W.keepIn K (.ref f_read_fraction) = true)
    (a_read_point : PySem.W.nsIn K mainGlobals "read_point" = some (some (.ref f_read_point))) (l_read_point : K.lookup f_read_point = some ⟨oc_read_point, od_read_point, .func (PySem.W.fnOf "read_point" "read_point" (defArgs s_read_point) (defBody s_read_point) (defScope s_read_point) .none kV_read_point dc_read_point pm_read_point an_read_point cd_read_point ct_read_point), sl_read_point⟩) (c_read_point : PySem.W.codeIn K cd_read_point "read_point" = true) (k_read_point : PySem.W.keepIn K (.ref f_read_point) = true)
    (a_law : PySem.W.nsIn K mainGlobals "law" = some (some (.ref f_law))) (l_law : K.lookup f_law = some ⟨oc_law, od_law, .func (PySem.W.fnOf "law" "law" (defArgs s_law) (defBody s_law) (defScope s_law) .none kV_law dc_law pm_law an_law cd_law ct_law), sl_law⟩) (c_law : PySem.W.codeIn K cd_law "law" = true) (k_law : PySem.W.keepIn K (.ref f_law) = true)
    (z_len : PySem.W.nsIn K mainGlobals "len" = some none) (z_range : PySem.W.nsIn K mainGlobals "range" = some none) (z_int : PySem.W.nsIn K mainGlobals "int" = some none) (z_list : PySem.W.nsIn K mainGlobals "list" = some none) (z_tuple : PySem.W.nsIn K mainGlobals "tuple" = some none) (z_bool : PySem.W.nsIn K mainGlobals "bool" = some none) (z_isinstance : PySem.W.nsIn K mainGlobals "isinstance" = some none) (z_abs : PySem.W.nsIn K mainGlobals "abs" = some none) (z_sum : PySem.W.nsIn K mainGlobals "sum" = some none) (z_zip : PySem.W.nsIn K mainGlobals "zip" = some none) (z_str : PySem.W.nsIn K mainGlobals "str" = some none) (z_all : PySem.W.nsIn K mainGlobals "all" = some none) (z_reversed : PySem.W.nsIn K mainGlobals "reversed" = some none) (z_divmod : PySem.W.nsIn K mainGlobals "divmod" = some none)
    (z_gcd : PySem.W.nsIn K mainGlobals "gcd" = some (some (.builtin "math.gcd")))
    (z_lcm : PySem.W.nsIn K mainGlobals "lcm" = some (some (.builtin "math.lcm")))
    (z_most : PySem.W.nsIn K mainGlobals "MOST_DIGITS" = some (some (.int 60 t_most)))
    (t_I : K.lookup c_I = some ⟨ec_I, ed_I, .fields vs_I, es_I⟩) (e_I : vs_I[11]? = some (.ref T_I)) (n_I : K.lookup T_I = none)
    : PySem.W.tabIn K "is_number" = some (c_I, T_I) ∧ K.lookup T_I = none ∧ ∃ fd : FuncData, (∀ (s : Shared) (v : Value), BindsTo s fd ⟨[v], []⟩ [("script", v)]) ∧ ∀ base : Heap, K.In base → base.Ns mainGlobals mg → GxR.TabB base mg c_I T_I → FnOk l.prog w K mg base CX0 5 fa fd ["script"] (spLaw T_I K) := by
  have e := hfa.symm.trans (PySem.W.mg_of X G a_law)
  cases e
  have F__law_gcd := fun_mk (st := s__law_gcd) l__law_gcd c__law_gcd k__law_gcd
  have b__law_gcd := F__law_gcd.binds (ps := ["a", "b"]) fun _ _ _ _ _ _ us hl => match us, hl with | [_, _], _ => rfl
  have F__law_spread := fun_mk (st := s__law_spread) l__law_spread c__law_spread k__law_spread
  have b__law_spread := F__law_spread.binds (ps := ["cell"]) fun _ _ _ _ _ _ us hl => match us, hl with | [_], _ => rfl
  have F__law_draw := fun_mk (st := s__law_draw) l__law_draw c__law_draw k__law_draw
  have b__law_draw := F__law_draw.binds (ps := ["pool", "many"]) fun _ _ _ _ _ _ us hl => match us, hl with | [_, _], _ => rfl
  have F__law_pool := fun_mk (st := s__law_pool) l__law_pool c__law_pool k__law_pool
  have b__law_pool := F__law_pool.binds (ps := ["script"]) fun _ _ _ _ _ _ us hl => match us, hl with | [_], _ => rfl
  have F_common_divisor := fun_mk (st := s_common_divisor) l_common_divisor c_common_divisor k_common_divisor
  have b_common_divisor := F_common_divisor.binds (ps := ["v"]) fun _ _ _ _ _ _ us hl => match us, hl with | [_], _ => rfl
  have F_primitive := fun_mk (st := s_primitive) l_primitive c_primitive k_primitive
  have b_primitive := F_primitive.binds (ps := ["v"]) fun _ _ _ _ _ _ us hl => match us, hl with | [_], _ => rfl
  have F_dot := fun_mk (st := s_dot) l_dot c_dot k_dot
  have b_dot := F_dot.binds (ps := ["v", "w"]) fun _ _ _ _ _ _ us hl => match us, hl with | [_, _], _ => rfl
  have F__law_prim := fun_mk (st := s__law_prim) l__law_prim c__law_prim k__law_prim
  have b__law_prim := F__law_prim.binds (ps := ["v"]) fun _ _ _ _ _ _ us hl => match us, hl with | [_], _ => rfl
  have F__law_point := fun_mk (st := s__law_point) l__law_point c__law_point k__law_point
  have b__law_point := F__law_point.binds (ps := ["pool", "d", "most"]) fun _ _ _ _ _ _ us hl => match us, hl with | [_, _, _], _ => rfl
  have F_fraction := fun_mk (st := s_fraction) l_fraction c_fraction k_fraction
  have b_fraction := F_fraction.binds (ps := ["a", "b"]) fun _ _ _ _ _ _ us hl => match us, hl with | [_, _], _ => rfl
  have F_plus := fun_mk (st := s_plus) l_plus c_plus k_plus
  have b_plus := F_plus.binds (ps := ["x", "y"]) fun _ _ _ _ _ _ us hl => match us, hl with | [_, _], _ => rfl
  have F_minus := fun_mk (st := s_minus) l_minus c_minus k_minus
  have b_minus := F_minus.binds (ps := ["x", "y"]) fun _ _ _ _ _ _ us hl => match us, hl with | [_, _], _ => rfl
  have F_over := fun_mk (st := s_over) l_over c_over k_over
  have b_over := F_over.binds (ps := ["x", "y"]) fun _ _ _ _ _ _ us hl => match us, hl with | [_, _], _ => rfl
  have F_sign := fun_mk (st := s_sign) l_sign c_sign k_sign
  have b_sign := F_sign.binds (ps := ["x"]) fun _ _ _ _ _ _ us hl => match us, hl with | [_], _ => rfl
  have F_compare := fun_mk (st := s_compare) l_compare c_compare k_compare
  have b_compare := F_compare.binds (ps := ["x", "y"]) fun _ _ _ _ _ _ us hl => match us, hl with | [_, _], _ => rfl
  have F_value_at := fun_mk (st := s_value_at) l_value_at c_value_at k_value_at
  have b_value_at := F_value_at.binds (ps := ["inequality", "point"]) fun _ _ _ _ _ _ us hl => match us, hl with | [_, _], _ => rfl
  have F_reversed_inequality := fun_mk (st := s_reversed_inequality) l_reversed_inequality c_reversed_inequality k_reversed_inequality
  have b_reversed_inequality := F_reversed_inequality.binds (ps := ["inequality"]) fun _ _ _ _ _ _ us hl => match us, hl with | [_], _ => rfl
  have F_combined := fun_mk (st := s_combined) l_combined c_combined k_combined
  have b_combined := F_combined.binds (ps := ["weights", "vectors"]) fun _ _ _ _ _ _ us hl => match us, hl with | [_, _], _ => rfl
  have F_with_common_first := fun_mk (st := s_with_common_first) l_with_common_first c_with_common_first k_with_common_first
  have b_with_common_first := F_with_common_first.binds (ps := ["points"]) fun _ _ _ _ _ _ us hl => match us, hl with | [_], _ => rfl
  have F_middle := fun_mk (st := s_middle) l_middle c_middle k_middle
  have b_middle := F_middle.binds (ps := ["points"]) fun _ _ _ _ _ _ us hl => match us, hl with | [_], _ => rfl
  have F_made_point := fun_mk (st := s_made_point) l_made_point c_made_point k_made_point
  have b_made_point := F_made_point.binds (ps := ["coordinates"]) fun _ _ _ _ _ _ us hl => match us, hl with | [_], _ => rfl
  have F_coordinates := fun_mk (st := s_coordinates) l_coordinates c_coordinates k_coordinates
  have b_coordinates := F_coordinates.binds (ps := ["point"]) fun _ _ _ _ _ _ us hl => match us, hl with | [_], _ => rfl
  have F_write_integer := fun_mk (st := s_write_integer) l_write_integer c_write_integer k_write_integer
  have b_write_integer := F_write_integer.binds (ps := ["number"]) fun _ _ _ _ _ _ us hl => match us, hl with | [_], _ => rfl
  have F_write_fraction := fun_mk (st := s_write_fraction) l_write_fraction c_write_fraction k_write_fraction
  have b_write_fraction := F_write_fraction.binds (ps := ["x"]) fun _ _ _ _ _ _ us hl => match us, hl with | [_], _ => rfl
  have F_write_point := fun_mk (st := s_write_point) l_write_point c_write_point k_write_point
  have b_write_point := F_write_point.binds (ps := ["point"]) fun _ _ _ _ _ _ us hl => match us, hl with | [_], _ => rfl
  have F_is_number := fun_mk (st := s_is_number) l_is_number c_is_number k_is_number
  have b_is_number := F_is_number.binds (ps := ["digits"]) fun _ _ _ _ _ _ us hl => match us, hl with | [_], _ => rfl
  have F_read_integer := fun_mk (st := s_read_integer) l_read_integer c_read_integer k_read_integer
  have b_read_integer := F_read_integer.binds (ps := ["text", "most_digits"]) fun _ _ _ _ _ _ us hl => match us, hl with | [_, _], _ => rfl
  have F_read_fraction := fun_mk (st := s_read_fraction) l_read_fraction c_read_fraction k_read_fraction
  have b_read_fraction := F_read_fraction.binds (ps := ["text"]) fun _ _ _ _ _ _ us hl => match us, hl with | [_], _ => rfl
  have F_read_point := fun_mk (st := s_read_point) l_read_point c_read_point k_read_point
  have b_read_point := F_read_point.binds (ps := ["d", "text"]) fun _ _ _ _ _ _ us hl => match us, hl with | [_, _], _ => rfl
  have F_law := fun_mk (st := s_law) l_law c_law k_law
  have Z : Glb mg := ⟨PySem.W.mg_none_of X G z_len, PySem.W.mg_none_of X G z_range, PySem.W.mg_none_of X G z_int, PySem.W.mg_none_of X G z_list, PySem.W.mg_none_of X G z_tuple, PySem.W.mg_none_of X G z_bool, PySem.W.mg_none_of X G z_isinstance, PySem.W.mg_none_of X G z_abs, PySem.W.mg_none_of X G z_sum, PySem.W.mg_none_of X G z_zip, PySem.W.mg_none_of X G z_str, PySem.W.mg_none_of X G z_all, PySem.W.mg_none_of X G z_reversed, PySem.W.mg_none_of X G z_divmod, PySem.W.mg_of X G z_gcd, PySem.W.mg_of X G z_lcm, ⟨_, PySem.W.mg_of X G z_most⟩⟩
  have FC_is_number : FunC K "is_number" "is_number" s_is_number f_is_number _ c_I := ⟨_, _, _, _, _, _, _, _, rfl, l_is_number, c_is_number⟩
  refine ⟨tabIn_of a_is_number l_is_number rfl t_I e_I, n_I, ?_⟩
  refine ⟨PySem.W.fnOf "law" "law" (defArgs s_law) (defBody s_law) (defScope s_law) .none kV_law dc_law pm_law an_law cd_law ct_law, fun s v => .of_eq rfl, fun base _ _ TB => ?_⟩
  have S__law_pool_4 : FnOk l.prog w K mg base CX0 4 f__law_pool _ ["script"] (spPool K) := ok_pool (k := 3) F__law_pool Z 
  have C__law_pool_4 : Call l.prog w K mg base 4 "_law_pool" ["script"] (spPool K) := ⟨f__law_pool, _, S__law_pool_4, PySem.W.mg_of X G a__law_pool, F__law_pool.kp, b__law_pool⟩
  have S__law_spread_3 : FnOk l.prog w K mg base CX0 3 f__law_spread _ ["cell"] spSpread := ok_spread (k := 2) F__law_spread Z 
  have C__law_spread_3 : Call l.prog w K mg base 3 "_law_spread" ["cell"] spSpread := ⟨f__law_spread, _, S__law_spread_3, PySem.W.mg_of X G a__law_spread, F__law_spread.kp, b__law_spread⟩
  have S__law_draw_4 : FnOk l.prog w K mg base CX0 4 f__law_draw _ ["pool", "many"] spDraw := ok_draw (k := 3) F__law_draw Z  C__law_spread_3
  have C__law_draw_4 : Call l.prog w K mg base 4 "_law_draw" ["pool", "many"] spDraw := ⟨f__law_draw, _, S__law_draw_4, PySem.W.mg_of X G a__law_draw, F__law_draw.kp, b__law_draw⟩
  have S__law_gcd_3 : FnOk l.prog w K mg base CX0 3 f__law_gcd _ ["a", "b"] spGcd := ok_gcd (k := 2) F__law_gcd Z 
  have C__law_gcd_3 : Call l.prog w K mg base 3 "_law_gcd" ["a", "b"] spGcd := ⟨f__law_gcd, _, S__law_gcd_3, PySem.W.mg_of X G a__law_gcd, F__law_gcd.kp, b__law_gcd⟩
  have S__law_prim_4 : FnOk l.prog w K mg base CX0 4 f__law_prim _ ["v"] spPrimK := ok_lprimK (k := 3) F__law_prim Z  C__law_gcd_3
  have C__law_prim_4 : Call l.prog w K mg base 4 "_law_prim" ["v"] spPrimK := ⟨f__law_prim, _, S__law_prim_4, PySem.W.mg_of X G a__law_prim, F__law_prim.kp, b__law_prim⟩
  have S__law_spread_2 : FnOk l.prog w K mg base CX0 2 f__law_spread _ ["cell"] spSpread := ok_spread (k := 1) F__law_spread Z 
  have C__law_spread_2 : Call l.prog w K mg base 2 "_law_spread" ["cell"] spSpread := ⟨f__law_spread, _, S__law_spread_2, PySem.W.mg_of X G a__law_spread, F__law_spread.kp, b__law_spread⟩
  have S__law_draw_3 : FnOk l.prog w K mg base CX0 3 f__law_draw _ ["pool", "many"] spDraw := ok_draw (k := 2) F__law_draw Z  C__law_spread_2
  have C__law_draw_3 : Call l.prog w K mg base 3 "_law_draw" ["pool", "many"] spDraw := ⟨f__law_draw, _, S__law_draw_3, PySem.W.mg_of X G a__law_draw, F__law_draw.kp, b__law_draw⟩
  have S__law_gcd_2 : FnOk l.prog w K mg base CX0 2 f__law_gcd _ ["a", "b"] spGcd := ok_gcd (k := 1) F__law_gcd Z 
  have C__law_gcd_2 : Call l.prog w K mg base 2 "_law_gcd" ["a", "b"] spGcd := ⟨f__law_gcd, _, S__law_gcd_2, PySem.W.mg_of X G a__law_gcd, F__law_gcd.kp, b__law_gcd⟩
  have S__law_prim_3 : FnOk l.prog w K mg base CX0 3 f__law_prim _ ["v"] spPrimK := ok_lprimK (k := 2) F__law_prim Z  C__law_gcd_2
  have C__law_prim_3 : Call l.prog w K mg base 3 "_law_prim" ["v"] spPrimK := ⟨f__law_prim, _, S__law_prim_3, PySem.W.mg_of X G a__law_prim, F__law_prim.kp, b__law_prim⟩
  have S__law_point_4 : FnOk l.prog w K mg base CX0 4 f__law_point _ ["pool", "d", "most"] spPoint := ok_point (k := 3) F__law_point Z  C__law_draw_3 C__law_prim_3
  have C__law_point_4 : Call l.prog w K mg base 4 "_law_point" ["pool", "d", "most"] spPoint := ⟨f__law_point, _, S__law_point_4, PySem.W.mg_of X G a__law_point, F__law_point.kp, b__law_point⟩
  have S_fraction_3 : FnOk l.prog w K mg base CX0 3 f_fraction _ ["a", "b"] spFr := ok_frac (k := 2) F_fraction Z 
  have C_fraction_3 : Call l.prog w K mg base 3 "fraction" ["a", "b"] spFr := ⟨f_fraction, _, S_fraction_3, PySem.W.mg_of X G a_fraction, F_fraction.kp, b_fraction⟩
  have S_plus_4 : FnOk l.prog w K mg base CX0 4 f_plus _ ["x", "y"] (spTwo fun a b c d => (a * d + c * b, b * d)) := ok_plus (k := 3) F_plus Z  C_fraction_3
  have C_plus_4 : Call l.prog w K mg base 4 "plus" ["x", "y"] (spTwo fun a b c d => (a * d + c * b, b * d)) := ⟨f_plus, _, S_plus_4, PySem.W.mg_of X G a_plus, F_plus.kp, b_plus⟩
  have S_minus_4 : FnOk l.prog w K mg base CX0 4 f_minus _ ["x", "y"] (spTwo fun a b c d => (a * d - c * b, b * d)) := ok_minus (k := 3) F_minus Z  C_fraction_3
  have C_minus_4 : Call l.prog w K mg base 4 "minus" ["x", "y"] (spTwo fun a b c d => (a * d - c * b, b * d)) := ⟨f_minus, _, S_minus_4, PySem.W.mg_of X G a_minus, F_minus.kp, b_minus⟩
  have S_over_4 : FnOk l.prog w K mg base CX0 4 f_over _ ["x", "y"] spOverP := ok_overP (k := 3) F_over Z  C_fraction_3
  have C_over_4 : Call l.prog w K mg base 4 "over" ["x", "y"] spOverP := ⟨f_over, _, S_over_4, PySem.W.mg_of X G a_over, F_over.kp, b_over⟩
  have S_sign_3 : FnOk l.prog w K mg base CX0 3 f_sign _ ["x"] spSign := ok_sign (k := 2) F_sign Z 
  have C_sign_3 : Call l.prog w K mg base 3 "sign" ["x"] spSign := ⟨f_sign, _, S_sign_3, PySem.W.mg_of X G a_sign, F_sign.kp, b_sign⟩
  have S_fraction_2 : FnOk l.prog w K mg base CX0 2 f_fraction _ ["a", "b"] spFr := ok_frac (k := 1) F_fraction Z 
  have C_fraction_2 : Call l.prog w K mg base 2 "fraction" ["a", "b"] spFr := ⟨f_fraction, _, S_fraction_2, PySem.W.mg_of X G a_fraction, F_fraction.kp, b_fraction⟩
  have S_minus_3 : FnOk l.prog w K mg base CX0 3 f_minus _ ["x", "y"] (spTwo fun a b c d => (a * d - c * b, b * d)) := ok_minus (k := 2) F_minus Z  C_fraction_2
  have C_minus_3 : Call l.prog w K mg base 3 "minus" ["x", "y"] (spTwo fun a b c d => (a * d - c * b, b * d)) := ⟨f_minus, _, S_minus_3, PySem.W.mg_of X G a_minus, F_minus.kp, b_minus⟩
  have S_compare_4 : FnOk l.prog w K mg base CX0 4 f_compare _ ["x", "y"] spComp := ok_comp (k := 3) F_compare Z  C_sign_3 C_minus_3
  have C_compare_4 : Call l.prog w K mg base 4 "compare" ["x", "y"] spComp := ⟨f_compare, _, S_compare_4, PySem.W.mg_of X G a_compare, F_compare.kp, b_compare⟩
  have S_dot_3 : FnOk l.prog w K mg base CX0 3 f_dot _ ["v", "w"] spDot := ok_dot (k := 2) F_dot Z 
  have C_dot_3 : Call l.prog w K mg base 3 "dot" ["v", "w"] spDot := ⟨f_dot, _, S_dot_3, PySem.W.mg_of X G a_dot, F_dot.kp, b_dot⟩
  have S_value_at_4 : FnOk l.prog w K mg base CX0 4 f_value_at _ ["inequality", "point"] spVal := ok_val (k := 3) F_value_at Z  C_fraction_3 C_dot_3
  have C_value_at_4 : Call l.prog w K mg base 4 "value_at" ["inequality", "point"] spVal := ⟨f_value_at, _, S_value_at_4, PySem.W.mg_of X G a_value_at, F_value_at.kp, b_value_at⟩
  have S_reversed_inequality_4 : FnOk l.prog w K mg base CX0 4 f_reversed_inequality _ ["inequality"] spRev := ok_rev (k := 3) F_reversed_inequality Z 
  have C_reversed_inequality_4 : Call l.prog w K mg base 4 "reversed_inequality" ["inequality"] spRev := ⟨f_reversed_inequality, _, S_reversed_inequality_4, PySem.W.mg_of X G a_reversed_inequality, F_reversed_inequality.kp, b_reversed_inequality⟩
  have S_combined_3 : FnOk l.prog w K mg base CX0 3 f_combined _ ["weights", "vectors"] spComb := ok_comb (k := 2) F_combined Z 
  have C_combined_3 : Call l.prog w K mg base 3 "combined" ["weights", "vectors"] spComb := ⟨f_combined, _, S_combined_3, PySem.W.mg_of X G a_combined, F_combined.kp, b_combined⟩
  have S_common_divisor_2 : FnOk l.prog w K mg base CX0 2 f_common_divisor _ ["v"] spCd := ok_cd (k := 1) F_common_divisor Z 
  have C_common_divisor_2 : Call l.prog w K mg base 2 "common_divisor" ["v"] spCd := ⟨f_common_divisor, _, S_common_divisor_2, PySem.W.mg_of X G a_common_divisor, F_common_divisor.kp, b_common_divisor⟩
  have S_primitive_3 : FnOk l.prog w K mg base CX0 3 f_primitive _ ["v"] spPrim := ok_prim (k := 2) F_primitive Z  C_common_divisor_2
  have C_primitive_3 : Call l.prog w K mg base 3 "primitive" ["v"] spPrim := ⟨f_primitive, _, S_primitive_3, PySem.W.mg_of X G a_primitive, F_primitive.kp, b_primitive⟩
  have S_with_common_first_3 : FnOk l.prog w K mg base CX0 3 f_with_common_first _ ["points"] spWcf := ok_wcf (k := 2) F_with_common_first Z 
  have C_with_common_first_3 : Call l.prog w K mg base 3 "with_common_first" ["points"] spWcf := ⟨f_with_common_first, _, S_with_common_first_3, PySem.W.mg_of X G a_with_common_first, F_with_common_first.kp, b_with_common_first⟩
  have S_middle_4 : FnOk l.prog w K mg base CX0 4 f_middle _ ["points"] spMid := ok_mid (k := 3) F_middle Z  C_combined_3 C_primitive_3 C_with_common_first_3
  have C_middle_4 : Call l.prog w K mg base 4 "middle" ["points"] spMid := ⟨f_middle, _, S_middle_4, PySem.W.mg_of X G a_middle, F_middle.kp, b_middle⟩
  have S_made_point_4 : FnOk l.prog w K mg base CX0 4 f_made_point _ ["coordinates"] spMadePt := ok_madept (k := 3) F_made_point Z 
  have C_made_point_4 : Call l.prog w K mg base 4 "made_point" ["coordinates"] spMadePt := ⟨f_made_point, _, S_made_point_4, PySem.W.mg_of X G a_made_point, F_made_point.kp, b_made_point⟩
  have S_coordinates_4 : FnOk l.prog w K mg base CX0 4 f_coordinates _ ["point"] spCoord := ok_coord (k := 3) F_coordinates Z  C_fraction_3
  have C_coordinates_4 : Call l.prog w K mg base 4 "coordinates" ["point"] spCoord := ⟨f_coordinates, _, S_coordinates_4, PySem.W.mg_of X G a_coordinates, F_coordinates.kp, b_coordinates⟩
  have S_coordinates_3 : FnOk l.prog w K mg base CX0 3 f_coordinates _ ["point"] spCoord := ok_coord (k := 2) F_coordinates Z  C_fraction_2
  have C_coordinates_3 : Call l.prog w K mg base 3 "coordinates" ["point"] spCoord := ⟨f_coordinates, _, S_coordinates_3, PySem.W.mg_of X G a_coordinates, F_coordinates.kp, b_coordinates⟩
  have S_write_integer_v_0_1 : FnOk l.prog w K mg base CX0 1 f_write_integer _ ["number"] spWI0 := ok_wi0 (k := 0) F_write_integer Z 
  have C_write_integer_v_0_1 : Call l.prog w K mg base 1 "write_integer" ["number"] spWI0 := ⟨f_write_integer, _, S_write_integer_v_0_1, PySem.W.mg_of X G a_write_integer, F_write_integer.kp, b_write_integer⟩
  have S_write_integer_2 : FnOk l.prog w K mg base CX0 2 f_write_integer _ ["number"] spWI := ok_wi (k := 1) F_write_integer Z S_write_integer_v_0_1 (PySem.W.mg_of X G a_write_integer) b_write_integer
  have C_write_integer_2 : Call l.prog w K mg base 2 "write_integer" ["number"] spWI := ⟨f_write_integer, _, S_write_integer_2, PySem.W.mg_of X G a_write_integer, F_write_integer.kp, b_write_integer⟩
  have S_write_fraction_3 : FnOk l.prog w K mg base CX0 3 f_write_fraction _ ["x"] spWF := ok_wf (k := 2) F_write_fraction Z  C_write_integer_2
  have C_write_fraction_3 : Call l.prog w K mg base 3 "write_fraction" ["x"] spWF := ⟨f_write_fraction, _, S_write_fraction_3, PySem.W.mg_of X G a_write_fraction, F_write_fraction.kp, b_write_fraction⟩
  have S_write_point_4 : FnOk l.prog w K mg base CX0 4 f_write_point _ ["point"] spWP := ok_wp (k := 3) F_write_point Z  C_coordinates_3 C_write_fraction_3
  have C_write_point_4 : Call l.prog w K mg base 4 "write_point" ["point"] spWP := ⟨f_write_point, _, S_write_point_4, PySem.W.mg_of X G a_write_point, F_write_point.kp, b_write_point⟩
  have S_is_number_1 : FnOk l.prog w K mg base CX0 1 f_is_number _ ["digits"] (spIsNum T_I) := ok_isnum (k := 0) FC_is_number Z TB
  have C_is_number_1 : Call l.prog w K mg base 1 "is_number" ["digits"] (spIsNum T_I) := ⟨f_is_number, _, S_is_number_1, PySem.W.mg_of X G a_is_number, F_is_number.kp, b_is_number⟩
  have S_read_integer_2 : FnOk l.prog w K mg base CX0 2 f_read_integer _ ["text", "most_digits"] (spRdI T_I) := ok_rdi (k := 1) F_read_integer Z  C_is_number_1
  have C_read_integer_2 : Call l.prog w K mg base 2 "read_integer" ["text", "most_digits"] (spRdI T_I) := ⟨f_read_integer, _, S_read_integer_2, PySem.W.mg_of X G a_read_integer, F_read_integer.kp, b_read_integer⟩
  have S_read_fraction_3 : FnOk l.prog w K mg base CX0 3 f_read_fraction _ ["text"] (spRdF T_I) := ok_rdf (k := 2) F_read_fraction Z  C_read_integer_2
  have C_read_fraction_3 : Call l.prog w K mg base 3 "read_fraction" ["text"] (spRdF T_I) := ⟨f_read_fraction, _, S_read_fraction_3, PySem.W.mg_of X G a_read_fraction, F_read_fraction.kp, b_read_fraction⟩
  have S_made_point_3 : FnOk l.prog w K mg base CX0 3 f_made_point _ ["coordinates"] spMadePt := ok_madept (k := 2) F_made_point Z 
  have C_made_point_3 : Call l.prog w K mg base 3 "made_point" ["coordinates"] spMadePt := ⟨f_made_point, _, S_made_point_3, PySem.W.mg_of X G a_made_point, F_made_point.kp, b_made_point⟩
  have S_read_point_4 : FnOk l.prog w K mg base CX0 4 f_read_point _ ["d", "text"] (spRP T_I) := ok_rp (k := 3) F_read_point Z  C_read_fraction_3 C_made_point_3
  have C_read_point_4 : Call l.prog w K mg base 4 "read_point" ["d", "text"] (spRP T_I) := ⟨f_read_point, _, S_read_point_4, PySem.W.mg_of X G a_read_point, F_read_point.kp, b_read_point⟩
  exact ok_law (P := l.prog) (w := w) (base := base) (k := 4) F_law Z  C__law_pool_4 C__law_draw_4 C__law_prim_4 C__law_point_4 C_plus_4 C_minus_4 C_over_4 C_compare_4 C_value_at_4 C_reversed_inequality_4 C_middle_4 C_made_point_4 C_coordinates_4 C_write_point_4 C_read_point_4
end HwP
open PySem PySem.W PyProof.Rows
set_option maxHeartbeats 0 in
theorem PySem.Challenge.cw_hullwright_k12_whole_values_are_affine_holds : PySem.Challenge.rw_hullwright_k12_whole_values_are_affine.Holds := by
  w_on; o_law; k_head; (case hw => w_witness2)
  k_fill
  refine HwP.walk_top (l := PySem.Challenge.rw_hullwright_k12_whole_values_are_affine) (n := 63) (k := 5) (x := "script") (CX := fun _ => L2.CX0) rfl (by decide) rfl ⟨rfl, by decide, by decide⟩ (fun w h Y => PySem.W.kIn_of Y) ?F (fun _ _ _ _ _ h => h)
  case F =>
    intro w mg fa h Y KX G hmg TT
    refine' HwP.at_mk (nm := "is_number") TT (by decide +kernel) (HwP.all_mk KX G hmg (a__law_gcd := ?a__law_gcd) (l__law_gcd := ?l__law_gcd) (c__law_gcd := ?c__law_gcd) (k__law_gcd := ?k__law_gcd) (a__law_spread := ?a__law_spread) (l__law_spread := ?l__law_spread) (c__law_spread := ?c__law_spread) (k__law_spread := ?k__law_spread) (a__law_draw := ?a__law_draw) (l__law_draw := ?l__law_draw) (c__law_draw := ?c__law_draw) (k__law_draw := ?k__law_draw) (a__law_pool := ?a__law_pool) (l__law_pool := ?l__law_pool) (c__law_pool := ?c__law_pool) (k__law_pool := ?k__law_pool) (a_common_divisor := ?a_common_divisor) (l_common_divisor := ?l_common_divisor) (c_common_divisor := ?c_common_divisor) (k_common_divisor := ?k_common_divisor) (a_primitive := ?a_primitive) (l_primitive := ?l_primitive) (c_primitive := ?c_primitive) (k_primitive := ?k_primitive) (a_dot := ?a_dot) (l_dot := ?l_dot) (c_dot := ?c_dot) (k_dot := ?k_dot) (a__law_prim := ?a__law_prim) (l__law_prim := ?l__law_prim) (c__law_prim := ?c__law_prim) (k__law_prim := ?k__law_prim) (a__law_point := ?a__law_point) (l__law_point := ?l__law_point) (c__law_point := ?c__law_point) (k__law_point := ?k__law_point) (a_fraction := ?a_fraction) (l_fraction := ?l_fraction) (c_fraction := ?c_fraction) (k_fraction := ?k_fraction) (a_plus := ?a_plus) (l_plus := ?l_plus) (c_plus := ?c_plus) (k_plus := ?k_plus) (a_minus := ?a_minus) (l_minus := ?l_minus) (c_minus := ?c_minus) (k_minus := ?k_minus) (a_over := ?a_over) (l_over := ?l_over) (c_over := ?c_over) (k_over := ?k_over) (a_sign := ?a_sign) (l_sign := ?l_sign) (c_sign := ?c_sign) (k_sign := ?k_sign) (a_compare := ?a_compare) (l_compare := ?l_compare) (c_compare := ?c_compare) (k_compare := ?k_compare) (a_value_at := ?a_value_at) (l_value_at := ?l_value_at) (c_value_at := ?c_value_at) (k_value_at := ?k_value_at) (a_reversed_inequality := ?a_reversed_inequality) (l_reversed_inequality := ?l_reversed_inequality) (c_reversed_inequality := ?c_reversed_inequality) (k_reversed_inequality := ?k_reversed_inequality) (a_combined := ?a_combined) (l_combined := ?l_combined) (c_combined := ?c_combined) (k_combined := ?k_combined) (a_with_common_first := ?a_with_common_first) (l_with_common_first := ?l_with_common_first) (c_with_common_first := ?c_with_common_first) (k_with_common_first := ?k_with_common_first) (a_middle := ?a_middle) (l_middle := ?l_middle) (c_middle := ?c_middle) (k_middle := ?k_middle) (a_made_point := ?a_made_point) (l_made_point := ?l_made_point) (c_made_point := ?c_made_point) (k_made_point := ?k_made_point) (a_coordinates := ?a_coordinates) (l_coordinates := ?l_coordinates) (c_coordinates := ?c_coordinates) (k_coordinates := ?k_coordinates) (a_write_integer := ?a_write_integer) (l_write_integer := ?l_write_integer) (c_write_integer := ?c_write_integer) (k_write_integer := ?k_write_integer) (a_write_fraction := ?a_write_fraction) (l_write_fraction := ?l_write_fraction) (c_write_fraction := ?c_write_fraction) (k_write_fraction := ?k_write_fraction) (a_write_point := ?a_write_point) (l_write_point := ?l_write_point) (c_write_point := ?c_write_point) (k_write_point := ?k_write_point) (a_is_number := ?a_is_number) (l_is_number := ?l_is_number) (c_is_number := ?c_is_number) (k_is_number := ?k_is_number) (a_read_integer := ?a_read_integer) (l_read_integer := ?l_read_integer) (c_read_integer := ?c_read_integer) (k_read_integer := ?k_read_integer) (a_read_fraction := ?a_read_fraction) (l_read_fraction := ?l_read_fraction) (c_read_fraction := ?c_read_fraction) (k_read_fraction := ?k_read_fraction) (a_read_point := ?a_read_point) (l_read_point := ?l_read_point) (c_read_point := ?c_read_point) (k_read_point := ?k_read_point) (a_law := ?a_law) (l_law := ?l_law) (c_law := ?c_law) (k_law := ?k_law) (z_len := ?z_len) (z_range := ?z_range) (z_int := ?z_int) (z_list := ?z_list) (z_tuple := ?z_tuple) (z_bool := ?z_bool) (z_isinstance := ?z_isinstance) (z_abs := ?z_abs) (z_sum := ?z_sum) (z_zip := ?z_zip) (z_str := ?z_str) (z_all := ?z_all) (z_reversed := ?z_reversed) (z_divmod := ?z_divmod) (z_gcd := ?z_gcd) (z_lcm := ?z_lcm) (z_most := ?z_most) (t_I := ?t_I) (e_I := ?e_I) (n_I := ?n_I))
    (case a__law_gcd => k_is)
    (case l__law_gcd => k_is)
    (case c__law_gcd => k_is)
    (case k__law_gcd => k_is)
    (case a__law_spread => k_is)
    (case l__law_spread => k_is)
    (case c__law_spread => k_is)
    (case k__law_spread => k_is)
    (case a__law_draw => k_is)
    (case l__law_draw => k_is)
    (case c__law_draw => k_is)
    (case k__law_draw => k_is)
    (case a__law_pool => k_is)
    (case l__law_pool => k_is)
    (case c__law_pool => k_is)
    (case k__law_pool => k_is)
    (case a_common_divisor => k_is)
    (case l_common_divisor => k_is)
    (case c_common_divisor => k_is)
    (case k_common_divisor => k_is)
    (case a_primitive => k_is)
    (case l_primitive => k_is)
    (case c_primitive => k_is)
    (case k_primitive => k_is)
    (case a_dot => k_is)
    (case l_dot => k_is)
    (case c_dot => k_is)
    (case k_dot => k_is)
    (case a__law_prim => k_is)
    (case l__law_prim => k_is)
    (case c__law_prim => k_is)
    (case k__law_prim => k_is)
    (case a__law_point => k_is)
    (case l__law_point => k_is)
    (case c__law_point => k_is)
    (case k__law_point => k_is)
    (case a_fraction => k_is)
    (case l_fraction => k_is)
    (case c_fraction => k_is)
    (case k_fraction => k_is)
    (case a_plus => k_is)
    (case l_plus => k_is)
    (case c_plus => k_is)
    (case k_plus => k_is)
    (case a_minus => k_is)
    (case l_minus => k_is)
    (case c_minus => k_is)
    (case k_minus => k_is)
    (case a_over => k_is)
    (case l_over => k_is)
    (case c_over => k_is)
    (case k_over => k_is)
    (case a_sign => k_is)
    (case l_sign => k_is)
    (case c_sign => k_is)
    (case k_sign => k_is)
    (case a_compare => k_is)
    (case l_compare => k_is)
    (case c_compare => k_is)
    (case k_compare => k_is)
    (case a_value_at => k_is)
    (case l_value_at => k_is)
    (case c_value_at => k_is)
    (case k_value_at => k_is)
    (case a_reversed_inequality => k_is)
    (case l_reversed_inequality => k_is)
    (case c_reversed_inequality => k_is)
    (case k_reversed_inequality => k_is)
    (case a_combined => k_is)
    (case l_combined => k_is)
    (case c_combined => k_is)
    (case k_combined => k_is)
    (case a_with_common_first => k_is)
    (case l_with_common_first => k_is)
    (case c_with_common_first => k_is)
    (case k_with_common_first => k_is)
    (case a_middle => k_is)
    (case l_middle => k_is)
    (case c_middle => k_is)
    (case k_middle => k_is)
    (case a_made_point => k_is)
    (case l_made_point => k_is)
    (case c_made_point => k_is)
    (case k_made_point => k_is)
    (case a_coordinates => k_is)
    (case l_coordinates => k_is)
    (case c_coordinates => k_is)
    (case k_coordinates => k_is)
    (case a_write_integer => k_is)
    (case l_write_integer => k_is)
    (case c_write_integer => k_is)
    (case k_write_integer => k_is)
    (case a_write_fraction => k_is)
    (case l_write_fraction => k_is)
    (case c_write_fraction => k_is)
    (case k_write_fraction => k_is)
    (case a_write_point => k_is)
    (case l_write_point => k_is)
    (case c_write_point => k_is)
    (case k_write_point => k_is)
    (case a_is_number => k_is)
    (case l_is_number => k_is)
    (case c_is_number => k_is)
    (case k_is_number => k_is)
    (case a_read_integer => k_is)
    (case l_read_integer => k_is)
    (case c_read_integer => k_is)
    (case k_read_integer => k_is)
    (case a_read_fraction => k_is)
    (case l_read_fraction => k_is)
    (case c_read_fraction => k_is)
    (case k_read_fraction => k_is)
    (case a_read_point => k_is)
    (case l_read_point => k_is)
    (case c_read_point => k_is)
    (case k_read_point => k_is)
    (case a_law => k_is)
    (case l_law => k_is)
    (case c_law => k_is)
    (case k_law => k_is)
    (case z_len => k_is)
    (case z_range => k_is)
    (case z_int => k_is)
    (case z_list => k_is)
    (case z_tuple => k_is)
    (case z_bool => k_is)
    (case z_isinstance => k_is)
    (case z_abs => k_is)
    (case z_sum => k_is)
    (case z_zip => k_is)
    (case z_str => k_is)
    (case z_all => k_is)
    (case z_reversed => k_is)
    (case z_divmod => k_is)
    (case z_gcd => k_is)
    (case z_lcm => k_is)
    (case z_most => k_is)
    (case t_I => k_is)
    (case e_I => rfl)
    (case n_I => kernel_rfl)

