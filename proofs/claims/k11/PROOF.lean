import PyProof.Rows.All
import Wide.All
import OpenK.AllK
import Wide.FinOn
import HandS.ForMost
import HandS.Wide
import HandS.Gcd
import HandS.IsInst
import HandS.Codes
import HandS.Zip
import HandS.Walk
import PyProof.WalksMore
import PyProof.ConsumeWalk
import PyProof.JoinWalk
import KE.GoesMore
import KE.GoesEnum
import KE.GoesZip
import HandS.TupMul
import HandS.Conv
import HandS.WideBits
import HandS.TupAny
import HandS.Exc
import HandS.TryOnly
import HandS.ExcOwn
import HandS.WordsExc
import HandS.ExcIs
import HandS.Text
import HandS.Rev
import HandS.RevTup
import HandS.AnyAll
import HandS.Deep
import KE.GoesComp
import HandS.EndTab
import PySem.Challenge.RW_hullwright_k11_texts_of_points_and_inequ
set_option Elab.async false
set_option linter.all false
set_option maxRecDepth 100000
set_option maxHeartbeats 4000000

namespace Hw
/-- Euclid's loop, by its turn -/
def Fit (i A B : Nat) : Prop := (i = 0 ∧ A * B < 2 ^ 598) ∨ (1 ≤ i ∧ B < A ∧ A * B * 2 ^ (i - 1) < 2 ^ 598)
theorem fit0 {A B : Nat} (ha : A < 2 ^ 299) (hb : B < 2 ^ 299) : Fit 0 A B := by
  refine .inl ⟨rfl, ?_⟩
  have h : A * B < 2 ^ 299 * 2 ^ 299 := Nat.mul_lt_mul'' ha hb
  rwa [← Nat.pow_add] at h
theorem fit_step {i A B : Nat} (h : Fit i A B) (hb : B ≠ 0) : Fit (i + 1) B (A % B) := by
  have hr : A % B < B := Nat.mod_lt _ (Nat.pos_of_ne_zero hb)
  refine .inr ⟨by omega, hr, ?_⟩
  rcases h with ⟨rfl, h⟩ | ⟨hi, hlt, h⟩
  · have h1 : B * (A % B) ≤ B * A := Nat.mul_le_mul_left _ (Nat.mod_le _ _)
    rw [Nat.mul_comm B A] at h1
    show B * (A % B) * 2 ^ 0 < 2 ^ 598
    rw [Nat.pow_zero, Nat.mul_one]
    omega
  · obtain ⟨j, rfl⟩ : ∃ j, i = j + 1 := ⟨i - 1, by omega⟩
    show B * (A % B) * 2 ^ (j + 1) < 2 ^ 598
    have h2 : 2 * (A % B) ≤ A := by
      have e : B * (A / B) + A % B = A := Nat.div_add_mod A B
      have q : 1 ≤ A / B := Nat.div_pos (Nat.le_of_lt hlt) (Nat.pos_of_ne_zero hb)
      have m : B * 1 ≤ B * (A / B) := Nat.mul_le_mul_left _ q
      omega
    have h3 : B * (2 * (A % B)) ≤ B * A := Nat.mul_le_mul_left _ h2
    have h4 : B * (A % B) * 2 ^ (j + 1) = B * (2 * (A % B)) * 2 ^ j := by
      rw [Nat.pow_succ]
      simp only [Nat.mul_assoc, Nat.mul_left_comm, Nat.mul_comm]
    rw [h4]
    refine Nat.lt_of_le_of_lt (Nat.mul_le_mul_right _ h3) ?_
    rw [Nat.mul_comm B A]
    exact h
theorem fit_end {A B : Nat} (h : Fit 600 A B) : B = 0 := by
  rcases h with ⟨h, _⟩ | ⟨_, hlt, h⟩
  · omega
  · by_cases hb : B = 0
    · exact hb
    · exfalso
      have h1 : 1 ≤ A * B := Nat.mul_pos (by omega) (by omega)
      have h2 : 1 * 2 ^ (600 - 1) ≤ A * B * 2 ^ (600 - 1) := Nat.mul_le_mul_right _ h1
      have h3 : (2 : Nat) ^ 598 < 2 ^ (600 - 1) := Nat.pow_lt_pow_right (by decide) (by decide)
      omega
theorem gcd_turn (A B : Nat) : Nat.gcd B (A % B) = Nat.gcd A B := by
  rw [Nat.gcd_comm B, ← Nat.gcd_rec, Nat.gcd_comm]
/-- the greatest common divisor, an int -/
def g2 (a b : Int) : Int := ((Nat.gcd a.natAbs b.natAbs : Nat) : Int)
theorem g2_pos {a b : Int} (hb : b ≠ 0) : 0 < g2 a b := by
  unfold g2
  have : 0 < Nat.gcd a.natAbs b.natAbs := Nat.gcd_pos_of_pos_right _ (by omega)
  omega
theorem g2_nn0 (a b : Int) : 0 ≤ g2 a b := by
  unfold g2
  omega
theorem g2_le {a b : Int} (hb : b ≠ 0) : (g2 a b).natAbs ≤ b.natAbs := by
  unfold g2
  have : Nat.gcd a.natAbs b.natAbs ≤ b.natAbs := Nat.gcd_le_right _ (by omega)
  omega
/-- a fraction's two entries, b > 0 -/
def frN (a b : Int) : Int := a / g2 a b
def frD (a b : Int) : Int := b / g2 a b
theorem g2_dvd_l (a b : Int) : g2 a b ∣ a := by
  unfold g2
  exact Int.ofNat_dvd_left.mpr (Nat.gcd_dvd_left _ _)
theorem g2_dvd_r (a b : Int) : g2 a b ∣ b := by
  unfold g2
  exact Int.ofNat_dvd_left.mpr (Nat.gcd_dvd_right _ _)
theorem frD_pos {a b : Int} (hb : 0 < b) : 0 < frD a b := by
  have g := g2_pos (a := a) (b := b) (by omega)
  exact Int.ediv_pos_of_pos_of_dvd hb (Int.le_of_lt g) (g2_dvd_r a b)
theorem ediv_abs {a g : Int} (hg : 0 < g) : (a / g).natAbs ≤ a.natAbs := by
  have h1 := Int.mul_ediv_self_le (x := a) (k := g) (by omega)
  have h2 := Int.lt_mul_ediv_self_add (x := a) (k := g) hg
  generalize hq : a / g = q at *
  by_cases c : 0 ≤ q
  · have : 1 * q ≤ g * q := Int.mul_le_mul_of_nonneg_right (by omega) c
    omega
  · have h3 : g * q ≤ g * (-1) + (q + 1) := by
      have : g * (q + 1) ≤ 1 * (q + 1) := Int.mul_le_mul_of_nonpos_right (by omega) (by omega)
      rw [Int.mul_add, Int.mul_one, Int.one_mul] at this
      omega
    omega
theorem frN_abs {a b : Int} (hb : b ≠ 0) : (frN a b).natAbs ≤ a.natAbs := ediv_abs (g2_pos hb)
theorem frD_abs {a b : Int} (hb : b ≠ 0) : (frD a b).natAbs ≤ b.natAbs := ediv_abs (g2_pos hb)
theorem mul_pow {x y : Int} {a b : Nat} (ha : x.natAbs < 2 ^ a) (hb : y.natAbs < 2 ^ b) : (x * y).natAbs < 2 ^ (a + b) := by
  rw [Int.natAbs_mul, Nat.pow_add]
  exact Nat.mul_lt_mul'' ha hb
theorem add_pow {x y : Int} {a : Nat} (ha : x.natAbs < 2 ^ a) (hb : y.natAbs < 2 ^ a) : (x + y).natAbs < 2 ^ (a + 1) := by
  rw [Nat.pow_succ]
  omega
theorem sub_pow {x y : Int} {a : Nat} (ha : x.natAbs < 2 ^ a) (hb : y.natAbs < 2 ^ a) : (x - y).natAbs < 2 ^ (a + 1) := by
  rw [Nat.pow_succ]
  omega
theorem up_pow {x : Nat} {a b : Nat} (h : x < 2 ^ a) (l : a ≤ b) : x < 2 ^ b := Nat.lt_of_lt_of_le h (Nat.pow_le_pow_right (by decide) l)
/-- the sign of an int -/
def sg (a : Int) : Int := if 0 < a then 1 else if a < 0 then -1 else 0
theorem sg_frN {a b : Int} (hb : b ≠ 0) : sg (frN a b) = sg a := by
  have g := g2_pos (a := a) hb
  obtain ⟨c, hc⟩ := g2_dvd_l a b
  have e : frN a b = c := by
    unfold frN
    generalize g2 a b = k at *
    subst hc
    exact Int.mul_ediv_cancel_left _ (by omega)
  rw [e]
  generalize g2 a b = k at *
  subst hc
  unfold sg
  have p1 : 0 < k * c ↔ 0 < c := ⟨fun h => Int.pos_of_mul_pos_right h (by omega), fun h => Int.mul_pos g h⟩
  have p2 : k * c < 0 ↔ c < 0 := by
    constructor
    · intro h
      by_cases q : c < 0
      · exact q
      · have := Int.mul_nonneg (Int.le_of_lt g) (show 0 ≤ c by omega)
        omega
    · intro h
      exact Int.mul_neg_of_pos_of_neg g h
  simp only [p1, p2]
end Hw

/-! ### sep.join(reversed(a list of texts)); a sign in a written text -/
namespace HwT
open PySem PySem.Spec PyProof.Rows L2 RT GxR
section
variable {prog : Program} {w : World} {A : Around} {E : Value → Shared → Prop} {s : Shared} {x : Str} {t : Tok} {Q : Value → Shared → Prop}
theorem join_rev {it l : Addr} {items : Array Value} {ys : List Str} (hh : A.handled = none) (hit : s.heap.IsRevIter it l ((items.size : Int) - 1)) (hl : s.heap.IsList l items) (hne : l ≠ it) (hn : items.size ≤ sizeLine)
    (hok : (ys.map (·.length)).sum + ys.length * x.length ≤ 16777216) (hs : ∀ acc : Array Value, ItemsOf (fun i v => items[items.size - 1 - i]? = some v) acc items.size → StrsAre acc.toList ys)
    (h : ∀ (h' : Heap) (k : Nat) (t' : Tok), (∀ b o, b ≠ it → s.heap.get? b = some o → h'.get? b = some o) → Q (.str (Txt.join x ys) t') { s with heap := h', toks := k }) :
    wpAny (model prog w) A (call (.builtin "str.join") [.str x t, .ref it]) Q E s := by
  refine wpAny_call (codeAny_call_builtin F.slot_str_join.plain F.entry_str_join (F.slot_str_join.check _ _ _ _ _ _ _ _ (typeIs_str _ _ _) (F.args_str_join_2 _ _) ?_))
  rw [join_tree_other]
  refine wpAny_bind (wpAny_typeOf hit.typeIs ?_)
  show wpAny _ A.in1 ((pyIter (.ref it)).tryCatch _ >>= fun it => collect it >>= fun items => joinTail x items) _ _ s
  refine wpAny_bind (wpAny_tryCatch (wpAny_pyIter_revIter hit ?_))
  have hh1 : A.in1.handled = none := hh
  refine wpAny_bind (collect_rev (A := A.in1) hh1 hit hl hne hn fun h' tk acc hk hacc => ?_)
  obtain ⟨ls, hv, ht⟩ := strsAre_values (hs acc hacc)
  rw [hv]
  have hok' := joinOk_of hok
  rw [← ht] at hok'
  have hok2 := hok'
  unfold JoinOk at hok2
  rw [Bool.not_eq_true'] at hok2
  have g : Gives (joinTail x (strValues ls)) (joinMade x ls) := by
    have g0 := gives_joinTail x ls hok2
    cases ls with
    | nil => exact g0
    | cons p r => cases r with
      | nil => exact g0
      | cons q r' => exact g0
  refine g prog w A (wants Q E) _ (post_join ls ⟨joinFit_length hok2, fun t' k => ?_⟩)
  rw [ht]
  exact h h' k t' hk
end
section
variable {X : Cx} {o e : Expr} {to te : TE}
def tJoinRev (K : PySem.W.Frag) (to te : TE) : TE := fun σ H Q => to σ H fun v H1 => ∃ sep : Str, v = .str sep ∧ te σ H1 fun u H2 => ∃ (a : Addr) (ys : List Str), u = .ref a ∧ SqL K H2 a (ys.map V.str) ∧ (ys.map (·.length)).sum + ys.length * sep.length ≤ 16777216 ∧ Q (.str (Txt.join sep ys.reverse)) H2
theorem pe_joinRev {p2 apos pos pos2 : Pos} (hc : X.calm = true) (ho : PE X o to) (hg2 : Gl X "reversed") (hm2 : X.mg "reversed" = none) (he : PE X e te)
    (hs : starEach [.Call (.Name "reversed" p2) [e] [] pos2] X.env = [(false, eval (.Call (.Name "reversed" p2) [e] [] pos2) X.env)] := by rfl)
    (hs2 : starEach [e] X.env = (false, eval e X.env) :: starEach [] X.env := by rfl)
    (hbase : attributeBase o "join" X.env (eval o X.env) = eval o X.env := by rfl) (hline : (apos.endLine == pos.line) = true := by rfl) :
    PE X (.Call (.Attribute o "join" apos) [.Call (.Name "reversed" p2) [e] [] pos2] [] pos) (tJoinRev X.K to te) := by
  refine ⟨fun pins s σ H Q I h => ?_⟩
  refine PySem.Call_method1 hbase hs hline (thn (ho.run pins s σ H _ I h) fun v s1 ⟨x, H1, I1, r1, q1⟩ => ?_)
  obtain ⟨sep, rfl, q1⟩ := q1
  obtain ⟨t, rfl⟩ := _root_.id r1
  refine ⟨"str", _, F.plainAttrs_str, F.slot_str_join, F.type_str_join, typeIs_str _ _ _, (fun _ e => nomatch e), Calls.callWith_builtin rfl (Calls.evalArgs_plain (Calls.spliced_cons ?_))⟩
  refine Call_ (ld_blt I1 hg2 hm2 PyProof.Rows.boot_reversed (PyProof.Rows.callWith_type1 (args_cons (thn (he.run pins s1 σ H1 _ I1 q1) fun u s2 ⟨v, H2, I2, r2, q2⟩ => args_nil ?_) hs2) hs2 (by rfl)))
  obtain ⟨a, ys, ev, hq, hz2, q⟩ := q2
  subst ev
  obtain rfl : u = Value.ref a := r2
  obtain ⟨its, rv, p', hz⟩ := I2.list hq
  refine call_reversed_list p'.isList (Calls.spliced_nil ?_)
  have k0 : ∀ b o, s2.heap.get? b = some o → (s2.heap.push (revObj a ((its.toArray.size : Int) - 1))).get? b = some o := fun b o e => Heap.get?_push_of_some _ e
  have I3 : Inv X pins σ H2 { s2 with heap := s2.heap.push (revObj a ((its.toArray.size : Int) - 1)) } := I2.kept (t' := s2.toks) k0
  obtain ⟨f0, f1, f2, f3, f4, f5⟩ := I2.fpOk (H' := H2) (b := s2.heap.objs.size) (Nat.le_refl _) (I2.hok.fresh (Nat.le_refl _))
  have hl := p'.isList
  obtain ⟨ol, hol, _⟩ := _root_.id hl
  have hne : a ≠ s2.heap.objs.size := Nat.ne_of_lt (Heap.lt_size hol)
  have hn : its.toArray.size ≤ sizeLine := by rw [List.size_toArray, ← rv.length]; exact hz
  have e1 : (ys.reverse.map (·.length)).sum = (ys.map (·.length)).sum := by
    rw [List.map_reverse]
    exact List.sum_reverse _
  refine join_rev (s := { s2 with heap := s2.heap.push (revObj a ((its.toArray.size : Int) - 1)) }) (ys := ys.reverse) (I2.ok.hd hc) ⟨_, Heap.get?_push_size _ rfl, rfl, rfl⟩ (hl.push _) hne hn (by rw [e1, List.length_reverse]; exact hz2) (fun acc hi => ?_) fun h' tk t' hk => ?_
  · have := vals_rev rv hi
    rw [← List.map_reverse] at this
    exact strs_of_vals this
  · have I4 : Inv X pins σ H2 { s2 with heap := h', toks := tk } := I3.turned (t' := tk) (fun b o hb e => hk b o hb e) f0 f1 f3 f4 f5
    exact ⟨.str _, H2, I4, ⟨t', rfl⟩, q⟩
theorem elt_in {prog : Program} {w : World} {scope : Scope} {x k : Str} {j : Nat} {p1 p2 p3 : Pos} (hk : scope.kind = .function) (hl : scope.names.lookup x = some .local) (hd : (x == ("__debug__" : Str)) = false := by decide) :
    EltP prog w scope x (.Compare (.Name x p1) [.In] [.Constant (.str k) j p2] p3) (fun c => decide (c ∈ k.cps.toList)) := by
  intro cenv A' E' c t s₂ m₂ hs hn hm
  refine wpAny_Compare1 ?_
  refine wpAny_Name (wpAny_loadName_local (by rw [hs]; exact hk) (show cenv.scope.names.lookup x = some .local by rw [hs]; exact hl) hn hm ?_) hd
  refine Calls.Constant_str ?_
  exact PyProof.Rows.in_str ⟨by rw [PySem.StrLaws.found_one], keeps_tok _ _⟩
end
end HwT

/-! ### operations that the layer lacks -/
namespace HwG
open PySem PySem.Spec PyProof.Rows L2 RZ
theorem tuple_mul1 (l : Addr) (items : Array Value) (n : Nat) (dd : Option Addr) (sl : Array (Option Value)) (x : Int) (u : Tok) (c0 : (decide (x < -(2 ^ 63)) || decide (x ≥ 2 ^ 63)) = false) (c1 : (items.isEmpty || x == 1) = true) :
    Meets (Builtin.«tuple.__mul__» ⟨[.ref l, .int x u], []⟩) (fun _ R s => s.heap.get? l = some { cls := .type "tuple", dict := dd, data := .seq items n, slots := sl } ∧
      R (.ok (.ret (Value.ref l))) s) :=
  .of_wp fun prog w A R s h => by
    obtain ⟨hp, g, d, tk, os⟩ := s
    obtain ⟨hl, h⟩ := h
    have f1 := AutoSeq1.idx_int
    wp_walk using wpAny_loadPart' hl
    repeat (first
      | (refine wpAny_ite_false (decide_eq_false (by rw [c0]; exact Bool.false_ne_true)) ?_; wp_walk using wpAny_loadPart' hl)
      | (refine wpAny_ite_true (decide_eq_true c1) ?_; wp_walk using wpAny_loadPart' hl))
    exact ⟨_, rfl, h⟩
def rRepT1 (K : PySem.W.Frag) : R2 := fun x y H Q => ∃ l xs, x = .ref l ∧ y = .int 1 ∧ SqT K H l xs ∧ Q (.ref l) H
section
variable {X : Cx}
theorem op_repT1 : OpR X (binaryOp .Mult) (rRepT1 X.K) := by
  intro pins s σ H x y v u Q I rx ry h
  obtain ⟨l, xs, rfl, rfl, hT, q⟩ := h
  cases rx
  obtain ⟨t, rfl⟩ := ry
  obtain ⟨its, r, ⟨⟨cls, dd, data, sl⟩, ho, hc, n, hd⟩, hs⟩ := I.tuple hT
  simp only at hc hd
  subst hc hd
  have c0 : (decide ((1 : Int) < -(2 ^ 63)) || decide ((1 : Int) ≥ 2 ^ 63)) = false := by decide
  have c1 : (its.toArray.isEmpty || (1 : Int) == 1) = true := by
    rw [show ((1 : Int) == 1) = true by decide, Bool.or_true]
  exact wpAny_binaryOp_repeat_ref (T := "tuple") (U := "int") (by decide) ⟨_, ho, rfl⟩ (fun s' => typeIs_int s' 1 t) noFill_tuple_mul F.fills_int_mul F.slot_int_rmul repeat_tuple F.slot_int_index.lookup
    (call_meets F.slot_int_rmul (typeIs_int s 1 t) F.entry_int_rmul (F.args_int_rmul_2 _ _) (int_rmul_tuple 1 t l its.toArray n dd sl)
      ⟨ho, rfl, ⟨_, ho, rfl⟩, call_meets F.slot_tuple_mul ⟨_, ho, rfl⟩ F.entry_tuple_mul (F.args_tuple_mul_2 _ _) (tuple_mul1 l its.toArray n dd sl 1 t c0 c1) ⟨ho, .ref l, H, I, rfl, q⟩⟩)
def rRepA (K : PySem.W.Frag) : R2 := fun x y H Q => rRepT K x y H Q ∨ rRepT1 K x y H Q
/-- a tuple times 1 .. 1000 -/
theorem op_repA : OpR X (binaryOp .Mult) (rRepA X.K) := by
  intro pins s σ H x y v u Q I rx ry q
  rcases q with q | q
  · exact op_repT pins s σ H x y v u Q I rx ry q
  · exact op_repT1 pins s σ H x y v u Q I rx ry q
/-- // by a divisor of any sign -/
def CDivA (_ j : Int) : Prop := j ≠ 0 ∧ j.natAbs.log2 < 9000
theorem op_fdivA : OpR X (binaryOp .FloorDiv) (rI CDivA fun i j => .int (i.fdiv j)) := opI fun i j _ _ _ _ _ hc q => floordiv_int hc.1 q (.inl (PyProof.noPylong_of_log2 hc.2))
end
/-- zip of two tuples, walked -/
theorem walk_zipT {K : PySem.W.Frag} {a b : Addr} {xs ys : List V} {n : Nat} (h1 : xs.length = n) (h2 : ys.length = n) : Walk (ItzT K a b) n (fun H => SqT K H a xs ∧ SqT K H b ys) (YPair (fun i => xs[i]?) (fun i => ys[i]?)) :=
  ⟨fun i H hi hG => ⟨xs, ys, xs[i], ys[i], hG.1, hG.2, List.getElem?_eq_getElem (by omega), List.getElem?_eq_getElem (by omega)⟩, fun H hG => ⟨xs, ys, hG.1, hG.2, .inl (by omega)⟩,
    fun i H x H' hi hG y => by
      obtain ⟨T, u, v, e1, e2, e3, e4, e5⟩ := y
      exact ⟨T, u, v, e1, e2, e3, e4 _ hG.1, e5 _ hG.2⟩⟩
end HwG

/-! ### zip of a list or tuple with a list or tuple -/
namespace HwZ
open PySem PySem.Spec PyProof.Rows L2 RZ
/-- at a stands a sequence: a tuple (true) or a list -/
def Sk (K : PySem.W.Frag) (k : Bool) (H : Hp) (a : Addr) (xs : List V) : Prop := match k with
  | true => SqT K H a xs
  | false => SqL K H a xs
def AtK (k : Bool) (h : Heap) (it a : Addr) (i : Nat) : Prop := match k with
  | true => h.IsTupleIter it a i
  | false => h.IsListIter it a i
def SeqK (k : Bool) (h : Heap) (a : Addr) (its : Array Value) : Prop := match k with
  | true => h.IsTuple a its
  | false => h.IsList a its
def begK (k : Bool) (a : Addr) : Obj := match k with
  | true => { cls := .type "tuple_iterator", data := .fields #[.ref a, .int 0 0] }
  | false => { cls := .type "list_iterator", data := .fields #[.ref a, .int 0 0] }
theorem drawsK (k : Bool) {prog : Program} {w : World} {A : Around} (hh : A.handled = none) (it a : Addr) (ne : a ≠ it) (its : Array Value) :
    Draws prog w A it [it, a] its.size (fun i v => its[i]? = some v) (fun i h => AtK k h it a i ∧ SeqK k h a its) := by
  cases k with
  | true => exact Draws.tuple hh it a ne its
  | false => exact Draws.list hh it a ne its
theorem beginsK (k : Bool) (a : Addr) (its : Array Value) : Begins (.ref a) (begK k a) fun h => SeqK k h a its := by
  cases k with
  | true => exact begins_tuple a its
  | false => exact begins_list a its
theorem atK_beg {k : Bool} {h : Heap} {it a : Addr} (e : h.get? it = some (begK k a)) : AtK k h it a 0 := by
  cases k with
  | true => exact ⟨_, e, rfl, rfl⟩
  | false => exact ⟨_, e, rfl, rfl⟩
theorem atK_at {k : Bool} {h h' : Heap} {it a : Addr} {i : Nat} (x : AtK k h it a i) (f : ∀ o, h.get? it = some o → h'.get? it = some o) : AtK k h' it a i := by
  cases k with
  | true => exact Heap.IsTupleIter.at x f
  | false => exact Heap.IsListIter.at x f
theorem atK_obj {k : Bool} {h : Heap} {it a : Addr} {i : Nat} (x : AtK k h it a i) : ∃ o, h.get? it = some o ∧ ∀ v, o.data ≠ .cell v := by
  cases k with
  | true =>
    obtain ⟨o, e, _, d⟩ := x
    exact ⟨o, e, fun v q => by rw [d] at q; cases q⟩
  | false =>
    obtain ⟨o, e, _, d⟩ := x
    exact ⟨o, e, fun v q => by rw [d] at q; cases q⟩
section
variable {X : Cx} {pins : List (Addr × Obj)} {σ : L2.St} {H : Hp} {s : Shared}
theorem sk_read {k : Bool} {a : Addr} {xs : List V} (I : Inv X pins σ H s) (h : Sk X.K k H a xs) : ∃ its : List Value, Vals xs its ∧ SeqK k s.heap a its.toArray := by
  cases k with
  | true =>
    obtain ⟨its, r, p, _⟩ := I.tuple h
    exact ⟨its, r, p⟩
  | false =>
    obtain ⟨its, r, p, _⟩ := I.list h
    exact ⟨its, r, p.isList⟩
theorem sk_inj {k : Bool} {a : Addr} {xs ys : List V} (I : Inv X pins σ H s) (h : Sk X.K k H a xs) (h' : Sk X.K k H a ys) : xs = ys := by
  cases k with
  | true => exact I.tuple_inj h h'
  | false => exact I.list_inj h h'
theorem seqK_lt {k : Bool} {h : Heap} {a : Addr} {its : Array Value} (x : SeqK k h a its) : a < h.objs.size := by
  cases k with
  | true =>
    obtain ⟨o, e, _⟩ := x
    exact Heap.lt_size e
  | false =>
    obtain ⟨o, e, _⟩ := x
    exact Heap.lt_size e
end
/-- what the loop sees: new pairs -/
def ItzK (K : PySem.W.Frag) (k1 k2 : Bool) (a b : Addr) : It :=
  ⟨fun i H => ∃ (xs ys : List V) (x y : V), Sk K k1 H a xs ∧ Sk K k2 H b ys ∧ xs[i]? = some x ∧ ys[i]? = some y,
    fun i H v H' => ∃ T x y, v = .ref T ∧ H T = none ∧ H' = upd H T (.tup [x, y]) ∧ (∀ xs, Sk K k1 H a xs → xs[i]? = some x) ∧ ∀ ys, Sk K k2 H b ys → ys[i]? = some y,
    fun i H => ∃ xs ys : List V, Sk K k1 H a xs ∧ Sk K k2 H b ys ∧ xs.length = i ∧ ys.length = i⟩
/-- the cells of the zip at z -/
structure Cells (z TI TO i1 i2 a b : Addr) : Prop where
  sep : ZipSep2 z TI TO i1 i2 [i1, a] [i2, b]
  ai : a ≠ i1
  bi : b ≠ i2
theorem cells_of (N a b : Nat) (ha : a < N) (hb : b < N) : Cells (N + 4) (N + 2) (N + 3) N (N + 1) a b :=
  ⟨zip_sep2 (fun c h => by rw [List.mem_singleton.mp h]; exact ha) (fun c h => by rw [List.mem_singleton.mp h]; exact hb), show a ≠ N by omega, show b ≠ N + 1 by omega⟩
def Now (k1 k2 : Bool) (z TI TO i1 i2 a b : Addr) (i : Nat) (h : Heap) : Prop := IsZip h z TI TO .none ∧ IsTupOf2 h TI (.ref i1) (.ref i2) ∧ (∃ u v, IsTupOf2 h TO u v) ∧ AtK k1 h i1 a i ∧ AtK k2 h i2 b i
theorem five {z TI TO i1 i2 c : Addr} (h : c ∈ [z, TI, TO, i1, i2]) : c = z ∨ c = TI ∨ c = TO ∨ c = i1 ∨ c = i2 := by simpa using h
theorem turn_zipK {P : Program} {w : World} {K : PySem.W.Frag} {elts : List Expr} {kk : Nat} {tpos : Pos} {k1 k2 : Bool} {a b z TI TO i1 i2 : Addr} (D : Cells z TI TO i1 i2 a b) :
    Turn P w K (.Tuple elts kk tpos) (ItzK K k1 k2 a b) [z, TI, TO, i1, i2] z (Now k1 k2 z TI TO i1 i2 a b) where
  mem := by simp
  obj := fun i h st c hc => by
    obtain ⟨hz, hT, ⟨u, v, hO⟩, h1, h2⟩ := st
    rcases five hc with e | e | e | e | e <;> subst e
    · exact ⟨_, hz, fun v q => nomatch q⟩
    · exact ⟨_, hT, fun v q => nomatch q⟩
    · exact ⟨_, hO, fun v q => nomatch q⟩
    · exact atK_obj h1
    · exact atK_obj h2
  keep := fun i h h' st f => by
    obtain ⟨hz, hT, ⟨u, v, hO⟩, h1, h2⟩ := st
    have g : ∀ c ∈ [z, TI, TO, i1, i2], ∀ o, h.get? c = some o → h'.get? c = some o := f
    exact ⟨g z (by simp) _ hz, g TI (by simp) _ hT, ⟨u, v, g TO (by simp) _ hO⟩, atK_at h1 (g i1 (by simp)), atK_at h2 (g i2 (by simp))⟩
  item := by
    intro X hP hw hK hc i pins s σ H E I hf st go
    subst hP hw hK
    obtain ⟨hz, hT, ⟨u0, v0, hO⟩, h1, h2⟩ := st
    obtain ⟨xs, ys, x, y, qx, qy, ex, ey⟩ := go
    obtain ⟨its, r1, p1⟩ := sk_read I qx
    obtain ⟨jts, r2, p2⟩ := sk_read I qy
    have n1 : i < its.toArray.size := by rw [List.size_toArray, ← r1.length]; exact (List.getElem?_eq_some_iff.mp ex).1
    have n2 : i < jts.toArray.size := by rw [List.size_toArray, ← r2.length]; exact (List.getElem?_eq_some_iff.mp ey).1
    have hd : X.A.in1.handled = none := I.ok.hd hc
    have zlt : z < s.heap.objs.size := Heap.lt_size hz
    refine wpAny_pyNext_zipD2_item D.sep (drawsK k1 hd i1 a D.ai its.toArray) (drawsK k2 hd i2 b D.bi jts.toArray) hz hT hO ⟨h1, p1⟩ ⟨h2, p2⟩ n1 n2 fun u v h' tk eu ev z' O' t1 t2 nT sz kp => ?_
    obtain ⟨u', gu, ru⟩ := r1.get ex
    obtain ⟨v', gv, rv⟩ := r2.get ey
    have euu : u = u' := Option.some.inj (eu.symm.trans (by simpa using gu))
    have evv : v = v' := Option.some.inj (ev.symm.trans (by simpa using gv))
    subst euu evv
    refine ⟨_, rfl, wpAny_letOwnedTupleGo_zip (s := { s with heap := h', toks := tk }) z' fun h2' z2 sb => ?_⟩
    have other : ∀ c, c ≠ z → h2'.get? c = h'.get? c := fun c hc => sb.2 c hc
    have fresh : h2'.get? s.heap.objs.size = some { cls := .type "tuple", data := .seq #[u, v] } := (other _ (Nat.ne_of_gt zlt)).trans nT
    have ob : ObjOk X.prog X.w (upd H s.heap.objs.size (.tup [x, y])) h2' s.heap.objs.size (.tup [x, y]) :=
      ⟨Nat.le_of_lt (small1000 (show 2 ≤ 1000 by decide)), [u, v], .cons ru (.cons rv .nil), ⟨_, fresh, rfl, _, rfl⟩⟩
    have J : Inv X pins σ (upd H s.heap.objs.size (.tup [x, y])) { s with heap := h2', toks := tk } :=
      I.turnedNew (ch := [z, TI, TO, i1, i2]) (fun c o nc q => by
        have m : c ≠ z ∧ c ≠ TO ∧ c ≠ i1 ∧ c ≠ i2 := ⟨fun e => nc (by rw [e]; simp), fun e => nc (by rw [e]; simp), fun e => nc (by rw [e]; simp), fun e => nc (by rw [e]; simp)⟩
        exact (other c m.1).trans (kp c o m.1 m.2.1 m.2.2.1 m.2.2.2 q)) hf (Nat.le_refl _) ob
    have hTI1 : TI ≠ i1 := D.sep.TIi1
    refine ⟨.ref s.heap.objs.size, _, J, rfl, ⟨_, x, y, rfl, I.hok.fresh (Nat.le_refl _), rfl, fun l hl => by rw [sk_inj I hl qx]; exact ex, fun l hl => by rw [sk_inj I hl qy]; exact ey⟩, ⟨z2, ?_, ⟨u, v, ?_⟩, ?_, ?_⟩, fun c hcm => ?_⟩
    · exact (other _ D.sep.TIz).trans (kp _ _ D.sep.TIz D.sep.TITO D.sep.TIi1 D.sep.TIi2 hT)
    · exact (other _ D.sep.TOz).trans O'
    · exact atK_at t1.1 fun o q => (other _ D.sep.zi1.symm).trans q
    · exact atK_at t2.1 fun o q => (other _ D.sep.zi2.symm).trans q
    · have lt : c < s.heap.objs.size := by
        rcases five hcm with e | e | e | e | e <;> subst e
        · exact zlt
        · exact Heap.lt_size hT
        · exact Heap.lt_size hO
        · obtain ⟨o, e, _⟩ := atK_obj h1
          exact Heap.lt_size e
        · obtain ⟨o, e, _⟩ := atK_obj h2
          exact Heap.lt_size e
      rw [upd_ne (Nat.ne_of_lt lt)]
      exact (hf c hcm).1
  done := by
    intro X hP hw hK hc i pins s σ H E I hf st stop
    subst hP hw hK
    obtain ⟨hz, hT, ⟨u0, v0, hO⟩, h1, h2⟩ := st
    obtain ⟨xs, ys, qx, qy, ex, ey⟩ := stop
    obtain ⟨its, r1, p1⟩ := sk_read I qx
    obtain ⟨jts, r2, p2⟩ := sk_read I qy
    have n1 : i = its.toArray.size := by rw [List.size_toArray, ← r1.length]; exact ex.symm
    have n2 : i = jts.toArray.size := by rw [List.size_toArray, ← r2.length]; exact ey.symm
    have hd : X.A.in1.handled = none := I.ok.hd hc
    refine wpAny_pyNext_zipD2_end D.sep (drawsK k1 hd i1 a D.ai its.toArray) (drawsK k2 hd i2 b D.bi jts.toArray) hz hT hO ⟨h1, p1⟩ ⟨h2, p2⟩ (Nat.le_of_eq n1) (Nat.le_of_eq n2) (.inl n1) fun h' tk kp => ⟨rfl, ?_⟩
    exact I.turnedL (ch := [z, TI, TO, i1, i2]) (fun c o nc q => kp c o (fun e => nc (by rw [e]; simp)) (fun e => nc (by rw [e]; simp)) (fun e => nc (by rw [e]; simp)) (fun e => nc (by rw [e]; simp)) q) hf
  self := fun A i s Q E st h => wpAny_pyIter_zip st.1 h
def iZipK (K : PySem.W.Frag) (ta : TA) : TI := fun σ H R => ta σ H fun vs H1 => ∃ k1 k2 a b xs ys, vs = [.ref a, .ref b] ∧ Sk K k1 H1 a xs ∧ Sk K k2 H1 b ys ∧ R (ItzK K k1 k2 a b) H1
set_option maxHeartbeats 600000 in
theorem pi_zipK {X : Cx} {e e2 : Expr} {ta : TA} {p pos tpos : Pos} {elts : List Expr} {kk : Nat} (hg : Gl X "zip") (hm : X.mg "zip" = none) (ha : PA X [e, e2] ta)
    (hs : starEach [e, e2] X.env = (false, eval e X.env) :: starEach [e2] X.env := by rfl) (hpl : (backTo pos (starEach [e2] X.env)).any (·.1) = false := by rfl) :
    PI X (.Tuple elts kk tpos) (.Call (.Name "zip" p) [e, e2] [] pos) (iZipK X.K ta) := by
  constructor
  intro pins s σ H R I h
  refine Call_ (ld_blt I hg hm PyProof.Rows.boot_zip (PyProof.Rows.callWith_type1 (thn (ha.run pos pins s σ H _ I h) fun us s1 ⟨vs, H1, I1, r1, q1⟩ => ?_) hs hpl))
  obtain ⟨k1, k2, a, b, xs, ys, ev, qx, qy, q⟩ := q1
  subst ev
  obtain ⟨u1, u2, rfl, ra, rb⟩ := vals2 r1
  obtain rfl : u1 = Value.ref a := ra
  obtain rfl : u2 = Value.ref b := rb
  obtain ⟨its, _, p1⟩ := sk_read I1 qx
  obtain ⟨jts, _, p2⟩ := sk_read I1 qy
  refine zip_begins2 (beginsK k1 a its.toArray) (beginsK k2 b jts.toArray) p1 p2 fun h' hz hT hO g1 g2 _ kp => wpAny_pyIter_zip hz ?_
  have J : Inv X pins σ H1 { s1 with heap := h' } := I1.kept (t' := s1.toks) kp
  have D := cells_of s1.heap.objs.size a b (seqK_lt p1) (seqK_lt p2)
  have W : Now k1 k2 (s1.heap.objs.size + 4) (s1.heap.objs.size + 2) (s1.heap.objs.size + 3) s1.heap.objs.size (s1.heap.objs.size + 1) a b 0 h' := ⟨hz, hT, ⟨_, _, hO⟩, atK_beg g1, atK_beg g2⟩
  have F : ∀ c ∈ [s1.heap.objs.size + 4, s1.heap.objs.size + 2, s1.heap.objs.size + 3, s1.heap.objs.size, s1.heap.objs.size + 1], FpOk X pins H1 c := fun c hc => by
    have le : s1.heap.objs.size ≤ c := by
      rcases five hc with e | e | e | e | e
      · rw [e]; exact Nat.le_add_right _ _
      · rw [e]; exact Nat.le_add_right _ _
      · rw [e]; exact Nat.le_add_right _ _
      · rw [e]; exact Nat.le_refl _
      · rw [e]; exact Nat.le_add_right _ _
    exact I1.fpOk le (I1.hok.fresh le)
  exact ⟨_, _, _, _, H1, rfl, J, turn_zipK D, W, F, q⟩
theorem walk_zipK {K : PySem.W.Frag} {k1 k2 : Bool} {a b : Addr} {xs ys : List V} {n : Nat} (h1 : xs.length = n) (h2 : ys.length = n) : Walk (ItzK K k1 k2 a b) n (fun H => Sk K k1 H a xs ∧ Sk K k2 H b ys) (YPair (fun i => xs[i]?) (fun i => ys[i]?)) :=
  ⟨fun i H hi g => ⟨xs, ys, xs[i], ys[i], g.1, g.2, List.getElem?_eq_getElem (by omega), List.getElem?_eq_getElem (by omega)⟩, fun H g => ⟨xs, ys, g.1, g.2, h1, h2⟩,
    fun i H x H' _ g y => by
      obtain ⟨T, u, v, e1, e2, e3, e4, e5⟩ := y
      exact ⟨T, u, v, e1, e2, e3, e4 _ g.1, e5 _ g.2⟩⟩
end HwZ

/-! ### any of a tuple of ints; the least common multiple -/
namespace HwA
open PySem PySem.Spec PyProof.Rows L2
section
variable {X : Cx}
theorem any_bools (ns : List Int) : ∀ (bs : List Bool), bs = ns.map (fun n => n != 0) → (List.range ns.length).any (fun i => (ns.map fun n => n != 0).getD i false) = ns.any fun n => n != 0 := fun bs _ => by
  have h := any_range (ns.map fun n => n != 0)
  rw [List.length_map] at h
  rw [h, List.any_map]
  rfl
def rAnyT (K : PySem.W.Frag) : List V → Hp → VK → Prop := fun vs H Q => ∃ (a : Addr) (ns : List Int), vs = [V.ref a] ∧ SqT K H a (ns.map V.int) ∧ Q (.bl (ns.any fun n => n != 0)) H
theorem cr_anyT (hc : X.calm = true) : CallR X (.builtin "any") (rAnyT X.K) := by
  intro pins s σ H vs us Q I r h
  obtain ⟨a, ns, rfl, hs, q⟩ := h
  obtain ⟨its, rv, ht, _⟩ := I.tuple hs
  rw [Vals.ref1 r]
  have it : s.heap.IsTuple a its.toArray := ht
  have lt : a < s.heap.objs.size := by
    obtain ⟨_, e, _⟩ := it
    exact Heap.lt_size e
  refine call_any_walk (wpAny_pyIter_tuple it ⟨s.heap.objs.size, _, _, _, _, _, (fun i => (ns.map fun n => n != 0).getD i false), rfl, Walks.tuple (A := X.A.in1) (I.ok.hd hc) _ a (Nat.ne_of_lt lt) its.toArray, ⟨⟨_, Heap.get?_push_size _ rfl, rfl, rfl⟩, ?_⟩, ?_, fun h' tk hk => ?_⟩)
  · exact it.at fun o e => Heap.get?_push_of_some _ e
  · intro i v s' Q' E' hv hq
    have hv' : its[i]? = some v := by simpa using hv
    have lxs := rv.length
    have hi : i < ns.length := by
      have := (List.getElem?_eq_some_iff.mp hv').1
      rw [List.length_map] at lxs
      omega
    have g : (ns.map V.int)[i]? = some (.int ns[i]) := by
      rw [List.getElem?_map, List.getElem?_eq_getElem hi]
      rfl
    obtain ⟨u, hu, ru⟩ := rv.get g
    obtain ⟨t, eu⟩ := ru
    have ev : v = Value.int ns[i] t := (Option.some.inj (hv'.symm.trans hu)).trans eu
    subst ev
    have e2 : (ns.map fun n => n != 0).getD i false = (ns[i] != 0) := by
      rw [List.getD_eq_getElem?_getD, List.getElem?_map, List.getElem?_eq_getElem hi]
      rfl
    have hq2 : Q' ((ns.map fun n => n != 0).getD i false) s' := hq
    rw [e2] at hq2
    exact truthy_int hq2
  · refine ⟨.bl _, H, I.kept fun b o eo => hk b o (fun m => ?_) (Heap.get?_push_of_some _ eo), ?_, q⟩
    · rcases List.mem_cons.mp m with e1 | m
      · exact absurd (e1 ▸ Heap.lt_size eo) (Nat.lt_irrefl _)
      · cases m
    · show Value.bool _ = Value.bool _
      have l1 := rv.length
      rw [List.length_map] at l1
      rw [List.size_toArray, ← l1, any_bools ns _ rfl]
/-- the least common multiple -/
def rLcm : List V → Hp → VK → Prop := fun vs H Q => ∃ a b : Int, vs = [.int a, .int b] ∧ a.natAbs < 2 ^ 4000 ∧ b.natAbs < 2 ^ 4000 ∧ Q (.int ((Nat.lcm a.natAbs b.natAbs : Nat) : Int)) H
theorem lcm_lim {a b : Nat} (ha : a < 2 ^ 4000) (hb : b < 2 ^ 4000) : Nat.lcm a b < 2 ^ 8000 := by
  have h1 : Nat.lcm a b ≤ a * b := by
    unfold Nat.lcm
    exact Nat.div_le_self _ _
  have h2 : a * b < 2 ^ 4000 * 2 ^ 4000 := Nat.mul_lt_mul'' ha hb
  rw [← Nat.pow_add] at h2
  exact Nat.lt_of_le_of_lt h1 h2
theorem cr_lcm : CallR X (.builtin "math.lcm") rLcm := by
  intro pins s σ H vs us Q I r h
  obtain ⟨a, b, rfl, ha, hb, q⟩ := h
  obtain ⟨t, u, rfl⟩ := Vals.int2 r
  have lg : ∀ n : Nat, n < 2 ^ 4000 → n.log2 < 4000 := fun n hn => PySem.Flt.log2_lt_of (by decide) hn
  have one : (1 : Nat) < 2 ^ 4000 := Nat.one_lt_two_pow (by decide)
  have m1 : (max 1 a.natAbs).log2 < 4000 := lg _ (by rw [Nat.max_lt]; exact ⟨one, ha⟩)
  have m2 : (max a.natAbs b.natAbs).log2 < 4000 := lg _ (by rw [Nat.max_lt]; exact ⟨ha, hb⟩)
  have e : (Nat.lcm 1 a.natAbs).lcm b.natAbs = Nat.lcm a.natAbs b.natAbs := by rw [Nat.lcm_one_left]
  have sz : ((((Nat.lcm 1 a.natAbs).lcm b.natAbs : Nat) : Int)).natAbs.log2 < bitsLine := by
    rw [e, Int.natAbs_natCast]
    have : (Nat.lcm a.natAbs b.natAbs).log2 < 8000 := PySem.Flt.log2_lt_of (by decide) (lcm_lim ha hb)
    have b8 : (8000 : Nat) ≤ bitsLine := by decide
    omega
  refine PySem.call_function_meets PySem.W.MGF.kind_lcm PySem.W.MGF.plain_lcm PySem.W.MGF.entry_lcm (PySem.W.MGF.args_lcm _ _) (PySem.W.mg_run_lcm a t b u (by omega) (by omega) sz).meets ?_
  rw [e]
  exact ⟨.int _, H, I.tok _, ⟨_, rfl⟩, q⟩
end
end HwA

/-! ### an error that leaves a comprehension's block -/
namespace HwX
open PySem PySem.Spec PyProof.Rows L2
section
variable {X : Cx} {pins : List (Addr × Obj)} {σ : L2.St} {H : Hp} {s : Shared} {W : WX} {E : XK}
theorem hide_some {h : Heap} {C b : Addr} {o : Obj} (e : (PySem.W.hideAll h [C]).get? b = some o) : h.get? b = some o ∧ b ≠ C := by
  have e2 := PySem.W.of_hideAll _ e
  refine ⟨e2, fun z => ?_⟩
  rw [z] at e e2
  rw [PySem.W.hideAll_none _ List.mem_cons_self] at e
  cases e
theorem hide_keep {h : Heap} {C b : Addr} {o : Obj} (e : h.get? b = some o) (n : b ≠ C) : (PySem.W.hideAll h [C]).get? b = some o :=
  PySem.W.hideAll_get _ e (by rw [List.mem_singleton]; exact n)
theorem hide_free {h : Heap} {C b : Addr} (e : h.get? b = none) : (PySem.W.hideAll h [C]).get? b = none := by
  cases q : (PySem.W.hideAll h [C]).get? b with
  | none => rfl
  | some o =>
    have := PySem.W.of_hideAll _ q
    rw [e] at this
    cases this
theorem ff_but {base base' h h' : Heap} {C : Addr} (k : ∀ b, b ≠ C → h'.get? b = h.get? b) (q : ∀ b, base.get? b = none → base'.get? b = none) : ∀ {l : List Env}, h.FunFrames base l → C ∉ frs l → h'.FunFrames base' l
  | [], _, _ => trivial
  | env :: l, ⟨hk, ⟨L, o, hf, hn, ho, hd⟩, hr⟩, nC => by
    refine ⟨hk, ⟨L, o, hf, q L hn, (k L fun z => nC ?_).trans ho, hd⟩, ff_but k q hr fun z => nC ?_⟩
    · exact List.mem_filterMap.mpr ⟨env, List.mem_cons_self, by rw [hf, z]⟩
    · obtain ⟨e, he, r⟩ := List.mem_filterMap.mp z
      exact List.mem_filterMap.mpr ⟨e, List.mem_cons_of_mem _ he, r⟩
theorem fails_of {C : Addr} {scope : Scope} {cl : List (Str × Addr)} {m : Str → Option Value} (hs : X.stack = X.env :: X.outer) (hf : X.env.frame = some X.env.locals) (hfr : X.A.frames = some X.stack) (tk : Takes X W) (I : Inv X pins σ H s) (hC : FpOk X pins H C)
    (nsC : s.heap.Ns C m) (hW : ∀ cls d H', E cls d H' → W cls d σ H') {u : Value} {s' : Shared} (c : L2.CX X.prog X.w X.stack H s E u s') :
    notedBy (model X.prog X.w) X.A (compEnvC scope cl C X.env) (CompFails (model X.prog X.w) X.A X.xe (compEnvC scope cl C X.env)) u s' := by
  obtain ⟨o, es, ep, hCo, hCd, hk, hfnd⟩ := nsC
  have nst : C ∉ frs X.stack := by
    rw [hs]
    intro z
    obtain ⟨e, he, q⟩ := List.mem_filterMap.mp z
    rcases List.mem_cons.mp he with r | r
    · rw [r, hf] at q
      exact hC.2.1 (Option.some.inj q).symm
    · exact hC.2.2.1 (List.mem_filterMap.mpr ⟨e, r, q⟩)
  have c2 : L2.CX X.prog X.w X.stack H s (fun cls d H' => E cls d H' ∧ H' C = none) u s' := by
    obtain ⟨a, B, H', cls, d, e, fl, hok, ub, na, os, ag, hE⟩ := c
    exact ⟨a, B, H', cls, d, e, fl, hok, ub, na, os, ag, hE, ub.free C o hCo hC.1⟩
  have atC : s'.heap.get? C = some o := by
    obtain ⟨a, B, H', cls, d, e, fl, hok, ub, na, os, ag, hE⟩ := c
    exact fl.1 C o (ub.keep C o hCo hC.1 nst)
  have x := XE.of_call (W := fun cls d σ' H' => W cls d σ' H' ∧ H' C = none) I (fun cls d H' h => ⟨hW cls d H' h.1, h.2⟩) c2
  obtain ⟨a, B, sI, pins', σ', H', cls, d, rfl, I', nb, up, sky, na, os, ag, hw, hn⟩ := x
  rw [hs] at sky
  have hfr' : X.A.frames = some (X.env :: X.outer) := hfr.trans (congrArg some hs)
  have nfld : ∀ vs, o.data ≠ .fields vs := fun vs z => by rw [hCd] at z; cases z
  have go : ∀ h1, HandSPX.HeldZ B (X.env :: X.outer) a (Zc cls d) X.env.locals h1 → s'.heap.UpToSlots h1 → CompFails (model X.prog X.w) X.A X.xe (compEnvC scope cl C X.env) (.ref a) { s' with heap := h1 } := fun h1 hh up1 => by
    obtain ⟨sl, e1⟩ := up1 C o atC nfld
    refine ⟨m, ⟨_, es, ep, e1, hCd, hk, hfnd⟩, fun h2 m2 hn2 sb => ?_⟩
    obtain ⟨st1, bn, ff, oe, vs, T, oT, ts, he, hz, hd, hv1, hnT, hTe, hT, hdT, h3⟩ := hh
    have aC : a ≠ C := fun z => by
      have he : h1.get? a = some oe := he
      have e1 : h1.get? C = some { o with slots := sl } := e1
      rw [z, e1] at he
      have := Option.some.inj he
      rw [← this] at hd
      exact nfld vs hd
    have TC : T ≠ C := fun z => by
      have hT : h1.get? T = some oT := hT
      have e1 : h1.get? C = some { o with slots := sl } := e1
      rw [z, e1] at hT
      have := Option.some.inj hT
      rw [← this] at hdT
      exact nfld ts hdT
    have k2 : ∀ b, b ≠ C → h2.get? b = h1.get? b := fun b n => sb.2 b n
    have he2 : h2.get? a = some oe := (k2 a aC).trans he
    have held2 : HandSPX.HeldZ (PySem.W.hideAll B [C]) (X.env :: X.outer) a (Zc cls d) X.env.locals h2 := by
      refine ⟨fun b o' e => ?_, hide_free bn, ?_, oe, vs, T, oT, ts, he2, hz, hd, hv1, hide_free hnT, hTe, (k2 T TC).trans hT, hdT, h3⟩
      · obtain ⟨e2, n⟩ := hide_some e
        exact (k2 b n).trans (st1 b o' e2)
      · exact ff_but k2 (fun b => hide_free) ff (by rw [← hs]; exact nst)
    have hfr2 : (compEnvC scope cl C X.env).frame = some X.env.locals := hf
    unfold PySem.passOn
    refine wpAny_bind (wpAny_field he2 hd hv1 ?_)
    rw [if_neg (show ¬ ((Value.ref T == Value.none) = true) from by simp)]
    rw [hfr2]
    refine wpAny_bind (HandSPX.setFlight_onZ held2 fun h3 hh3 up3 => wpAny_throw (tk _ _ ?_))
    refine ⟨a, PySem.W.hideAll B [C], { sI with heap := PySem.W.hideAll sI.heap [C] }, [], σ', H', cls, d, rfl, ?_, fun b o e hb => ?_, fun b o e nf => ?_, ?_, na, os, ag, hw⟩
    · have I2 : Inv X [] σ' H' sI := Inv.unpinned (pins := []) (pl := pins') I'
      exact I2.turned (it := C) (t' := sI.toks) (fun b o n e => hide_keep e n) hn hC.2.1 hC.2.2.2.1 hC.2.2.2.2.1 (fun p hp => hC.2.2.2.2.2 p (by
        rw [List.append_nil] at hp
        exact List.mem_append_left _ hp))
    · obtain ⟨e2, n⟩ := hide_some e
      exact hide_keep (nb b o e2 hb) n
    · obtain ⟨e2, n⟩ := hide_some e
      obtain ⟨sl2, e3⟩ := (up.trans up1) b o e2 nf
      obtain ⟨sl3, e4⟩ := up3 b _ ((k2 b n).trans e3) nf
      exact ⟨sl3, e4⟩
    · rw [hs]
      exact .inr (.inr hh3)
  show wpAny (model X.prog X.w) X.A (noteFrame (.ref a) X.env) (fun _ s'' => CompFails (model X.prog X.w) X.A X.xe (compEnvC scope cl C X.env) (.ref a) s'') _ s'
  rcases sky with ⟨hB, hn2, hl, oe, vs, he, hz, hd, h1⟩ | fl | hh
  · exact HandSPX.look_newZ Zc.steady hfr' hl hf he hB hn2 hd h1 hz go
  · exact HandSPX.looks_onZ Zc.steady hfr' hf fl go
  · exact HandSPX.againZ hf hh.2.2.2 (go s'.heap hh (Heap.UpToSlots.refl _))
end
end HwX

namespace HwX
open PySem PySem.Spec PyProof.Rows L2
/-- the context of a block whose errors go on as xe says -/
abbrev Xb (X : Cx) (s : Shared) (H : Hp) (scope : Scope) (C : Addr) (xe : Value → Shared → Prop) : Cx := { X.blk s H scope (compEnvC scope [] C X.env) [] with xe := xe }
section
variable {X : Cx} {pins : List (Addr × Obj)} {σ : L2.St} {H : Hp} {s : Shared} {W : WX} {E : XK} {scope : Scope}
theorem no_kind (hl : ∀ y ∈ scope.names, y.2 ≠ .cell ∧ y.2 ≠ .free) {y : Str} {k : NameKind} {C : Addr} (e : (compEnvC scope [] C X.env).scope.names.lookup y = some k) : k ≠ .cell ∧ k ≠ .free ∧ scope.names.lookup y = some k := by
  obtain ⟨k', e', r⟩ := lookup_relS e
  have m := hl _ (PySem.mem_of_lookup e')
  rcases r with rfl | ⟨rfl, _⟩
  · exact ⟨m.1, m.2, e'⟩
  · exact absurd rfl m.2
theorem start_inv {own : List (Str × Nat)} {D C : Addr} {s3 : Shared} (xe : Value → Shared → Prop) (hN : X.N.Nodup) (I : Inv X pins σ H s) (ok : BlkOk X.N X.env.scope scope own) (hl : ∀ y ∈ scope.names, y.2 ≠ .cell ∧ y.2 ≠ .free) (b : CompBegins s D C s3) :
    Inv (Xb X s H scope C xe) [] (wipe σ (own.map (·.2))) H s3 := by
  obtain ⟨⟨h, tk, rfl⟩, old, nD, nC, nDC, ns⟩ := b
  have okB : (Xb X s H scope C xe).Ok := by
    refine ⟨I.ok.mod, ok.kind, I.ok.glob, I.ok.blt, nC, fun y z c e1 e2 => ?_, fun y hy => ?_, fun y c z e => ?_, I.ok.hd, I.ok.frames, .inl rfl, fun b hb => ?_, I.bs, Nat.le_trans I.ok.bsz I.sz, fun b o e hb => ?_, fun b hb => ?_, I.stack, I.stkFree⟩
    · cases e1
    · exfalso
      rcases hy with hy | hy
      · exact (no_kind hl hy).1 rfl
      · exact (no_kind hl hy).2.1 rfl
    · cases e
    · cases hb
    · cases hb
    · cases hb
  refine ⟨okB, rfl, I.bare, Un.kept old, ⟨fun _ => none, ns, fun i y av e1 e2 e3 => ?_⟩, fun y c e => ?_, I.hok.fresh nC, fun y c e => ?_, fun p hp => ?_, I.hok.kept old, by rw [wipe_length]; exact I.len⟩
  · obtain ⟨e2, hne⟩ := wipe_some e2
    exfalso
    have key : scope.names.lookup y = some .local := by
      rcases e3 with e3 | e3 | e3
      · exact (no_kind hl e3).2.2
      · exact absurd rfl (no_kind hl e3).1
      · exact absurd rfl (no_kind hl e3).2.1
    have hm := PySem.mem_of_lookup key
    rcases ok.own _ hm (.inl rfl) with h1 | h1
    · obtain ⟨p, hp, ep⟩ := List.mem_map.mp h1
      have hi := ok.ix p hp
      rw [ep] at hi
      have ej := (List.getElem?_inj (List.getElem?_eq_some_iff.mp e1).1 hN).mp (e1.trans hi.symm)
      exact hne (List.mem_map.mpr ⟨p, hp, ej.symm⟩)
    · exact h1 (List.mem_of_getElem? e1)
  · cases e
  · cases e
  · cases hp
/-- a call's error within the block -/
theorem blk_passes {C : Addr} (hs : X.stack = X.env :: X.outer) (hf : X.env.frame = some X.env.locals) (tk : Takes X W) (I2 : Inv X pins σ H s) (nC : s.heap.objs.size ≤ C) (hW : ∀ cls d H', E cls d H' → W cls d σ H') :
    Passes (L2.CX X.prog X.w) (Xb X s H scope C (notedBy (model X.prog X.w) X.A (compEnvC scope [] C X.env) (CompFails (model X.prog X.w) X.A X.xe (compEnvC scope [] C X.env)))) E := by
  intro pb σb Hb sb e s' Ib c
  have I0 : Inv X pins σ Hb sb := I2.call' (ch := []) Ib.os Ib.base Ib.hok Ib.bare (fun _ z => nomatch z)
  obtain ⟨m, hn, _⟩ := Ib.loc
  exact fails_of (scope := scope) (cl := []) hs hf I2.ok.frames tk I0 (I2.fpOk nC Ib.free) hn hW c
/-- a list that is walked, its values told by what they stand for -/
theorem goes_vals {prog : Program} {w : World} {A : Around} {target : Expr} (hh : A.handled = none) (I l : Addr) (hne : l ≠ I) (xs : List V) :
    Goes prog w A target I [I, l] [I] xs.length (fun i v _ => ∃ x, xs[i]? = some x ∧ RelV x v) (fun i h => h.IsListIter I l i ∧ ∃ items : Array Value, h.IsList l items ∧ Vals xs items.toList) where
  sub := fun b hb => by rw [List.mem_singleton.mp hb]; exact List.mem_cons_self
  frame := fun i h h' st k => by
    obtain ⟨a, items, b, r⟩ := st
    obtain ⟨a', b'⟩ := (Goes.list (prog := prog) (w := w) (target := target) hh I l hne items).frame i h h' ⟨a, b⟩ k
    exact ⟨a', items, b', r⟩
  goes := fun i s Q E hi st hQ => by
    obtain ⟨a, items, b, r⟩ := st
    have hz : xs.length = items.size := by rw [r.length, Array.length_toList]
    refine (Goes.list (prog := prog) (w := w) (target := target) hh I l hne items).goes i s Q E (by omega) ⟨a, b⟩ fun v h' tk hv st' hk ht => hQ v h' tk ?_ ⟨st'.1, items, st'.2, r⟩ hk ht
    have hx : xs[i]? = some (xs[i]'hi) := List.getElem?_eq_getElem hi
    obtain ⟨u, hu, ru⟩ := r.get hx
    have hv : items[i]? = some v := hv
    rw [Array.getElem?_toList, hv] at hu
    cases hu
    exact ⟨_, hx, ru⟩
  stops := fun s Q E st hQ => by
    obtain ⟨a, items, b, r⟩ := st
    have hz : xs.length = items.size := by rw [r.length, Array.length_toList]
    rw [hz] at a
    exact (Goes.list (prog := prog) (w := w) (target := target) hh I l hne items).stops s Q E ⟨a, b⟩ hQ
  self := fun i s Q E st q => by
    obtain ⟨a, items, b, r⟩ := st
    exact (Goes.list (prog := prog) (w := w) (target := target) hh I l hne items).self i s Q E ⟨a, b⟩ q
/-- a finished list of ours is told from now on -/
theorem adopt {C D : Addr} {ys : List Value} {vs : List V} {h' : Heap} (I : Inv X pins σ H s) (fC : FpOk X pins H C) (fD : FpOk X pins H D) (ne : D ≠ C) (pl : s.heap.PlainList D ys.toArray) (r : Vals vs ys) (hz : vs.length ≤ sizeLine) (sb : Heap.SameBut C s.heap h') :
    Inv X pins σ (upd H D (.lst vs)) { s with heap := h' } := by
  have nt : ∀ b u, H b = some u → b ≠ D := fun b u e z => by rw [z, fD.1] at e; cases e
  have ntC : ∀ b u, H b = some u → b ≠ C := fun b u e z => by rw [z, fC.1] at e; cases e
  refine I.step (g' := s.gens) (d' := s.drawn) (t' := s.toks) (ch := [D, C]) (fun b hb => ?_) (fun b o _ _ hc e _ => (sb.2 b fun z => hc (by simp [z])).trans e) (fun b o _ _ hc e _ => ⟨o.slots, (sb.2 b fun z => hc (by simp [z])).trans e⟩)
    (fun b o hc e n => by rw [upd_ne (fun z => hc (by simp [z]))]; exact n) (fun b o hc e => ⟨o, (sb.2 b fun z => hc (by simp [z])).trans e⟩) (fun b xs e => by rw [upd_ne (nt b _ e)]; exact e) (fun b o u e => by rw [upd_ne (nt b _ e)]; exact e) (fun b ps e => ⟨#[], by rw [upd_ne (nt b _ e), e]; simp⟩) (fun m hm => ?_) (fun b u e => ?_) I.bare
  · rcases List.mem_cons.mp hb with z | z
    · rw [z]; exact ⟨fD.2.2.2.1, fD.2.1, fD.2.2.2.2.1, fD.2.2.2.2.2⟩
    · rw [List.mem_singleton.mp z]; exact ⟨fC.2.2.2.1, fC.2.1, fC.2.2.2.2.1, fC.2.2.2.2.2⟩
  · obtain ⟨o, es, ep, ho, q⟩ := hm
    exact ⟨o, es, ep, (sb.2 _ fun z => fC.2.1 z.symm).trans ho, q⟩
  · by_cases hb : b = D
    · subst hb
      rw [upd_same] at e
      cases e
      obtain ⟨n, e2⟩ := pl
      exact ⟨hz, ys, _, r, (sb.2 _ ne).trans e2⟩
    · rw [upd_ne hb] at e
      refine (I.hok b u e).stay (fun c v hc q => (sb.2 c ?_).trans q) (fun c q => by rw [upd_ne (nt c _ q)]; exact q) fun c xs q => by rw [upd_ne (nt c _ q)]; exact q
      rcases hc with z | z
      · rw [z]; exact ntC b u e
      · exact ntC c _ z
end
end HwX

namespace HwX
open PySem PySem.Spec PyProof.Rows L2
section
variable {X : Cx} {W : WX} {E : XK} {scope : Scope}
theorem clo_nil {cells : List (Str × Addr)} : ∀ {names : List (Str × NameKind)}, (∀ y ∈ names, y.2 ≠ .free) → cloFrom cells names [] = []
  | [], _ => rfl
  | (n, k) :: r, h => by
    have h0 : k ≠ .free := h (n, k) List.mem_cons_self
    have e : (k == NameKind.free) = false := by
      cases k <;> first | rfl | exact absurd rfl h0
    show (if (k == NameKind.free) = true then _ else cloFrom cells r []) = []
    rw [e]
    exact clo_nil fun y hy => h y (List.mem_cons_of_mem _ hy)
def tLcF (K : PySem.W.Frag) (ti : TE) (i : Nat) (te : TE) : TE := fun σ H Q => ti σ H fun v H1 => ∃ (l : Addr) (xs : List V), v = .ref l ∧ SqL K H1 l xs ∧ ∃ Pv : Nat → List V → Hp → Prop, Pv 0 [] H1 ∧ (∀ k acc H2, Pv k acc H2 → SqL K H2 l xs) ∧
  (∀ k x acc H2, xs[k]? = some x → acc.length = k → Pv k acc H2 → te (σ.set i (some x)) H2 fun y H3 => Pv (k + 1) (acc ++ [y]) H3) ∧ ∀ acc H2, acc.length = xs.length → Pv xs.length acc H2 → ∀ D, H2 D = none → Q (.ref D) (upd H2 D (.lst acc))
/-- [f(x) for x in a list], where the element may raise -/
theorem pe_lcF {elt iter : Expr} {x : Str} {px pos : Pos} {i : Nat} {ti te : TE} (hs : X.stack = X.env :: X.outer) (hf : X.env.frame = some X.env.locals) (tk : Takes X W) (hc : X.calm = true) (hN : X.N.Nodup) (hi : X.N[i]? = some x) (ok : BlkOk X.N X.env.scope scope [(x, i)])
    (hl : ∀ y ∈ scope.names, y.2 ≠ .cell ∧ y.2 ≠ .free) (hx : scope.names.lookup x = some .local) (hit : PE X iter ti) (hW : ∀ σ cls d H', E cls d H' → W cls d σ H')
    (hel : ∀ s H C xe, Passes (L2.CX X.prog X.w) (Xb X s H scope C xe) E → PE (Xb X s H scope C xe) elt te) (hs0 : ∀ v, foldedSetIterable iter X.env v = pure v := by intro _; rfl) :
    PE X (.ListComp elt [⟨.Name x px, iter, [], 0⟩] scope pos) (tLcF X.K ti i te) := by
  refine ⟨fun pins s σ H Q I h => ?_⟩
  refine ListComp_goes (cl := []) ?_ (fun y hy => (hl y hy).1) ok.kind (fun y hy e => by rw [ok.uniq y hy, e]) ?_ hs0
  · rw [closure_ok fun y hy e => absurd e (hl y hy).2, clo_nil fun y hy => (hl y hy).2]
  refine thn (hit.run pins s σ H _ I h) fun xv s1 h1 => ?_
  obtain ⟨v, H1, I1, r1, l, xs, rfl, hq, Pv, p0, pl, pstep, pend⟩ := h1
  obtain rfl : xv = Value.ref l := r1
  obtain ⟨its, rv, p', hz⟩ := I1.list hq
  refine wpAny_pyIter_list p'.isList ?_
  generalize hIt : s1.heap.objs.size = It
  have hlt : l ≠ It := by
    obtain ⟨ol, n, ho, _⟩ := p'
    rw [← hIt]
    exact Nat.ne_of_lt (Heap.lt_size ho)
  have k01 : ∀ b o, s1.heap.get? b = some o → (s1.heap.push { cls := .type "list_iterator", data := .fields #[.ref l, .int 0 0] }).get? b = some o := fun b o e => Heap.get?_push_of_some _ e
  have itAt : (s1.heap.push { cls := .type "list_iterator", data := .fields #[.ref l, .int 0 0] }).get? It = some { cls := .type "list_iterator", data := .fields #[.ref l, .int 0 0] } := by
    rw [← hIt]
    exact Heap.get?_push_size _ rfl
  have sIt : s1.heap.objs.size ≤ It := Nat.le_of_eq hIt
  refine ⟨It, [It, l], [It], xs.length, _, _, rfl, goes_vals (I1.ok.hd hc) It l hlt xs, hz, ⟨⟨_, itAt, rfl, rfl⟩, its.toArray, ?_, by rw [List.toList_toArray]; exact rv⟩, fun b hb => ?_, fun D C s3 bg => ?_⟩
  · obtain ⟨ol, ho, hr⟩ := p'.isList
    exact ⟨ol, k01 _ _ ho, hr⟩
  · rcases List.mem_cons.mp hb with z | z
    · rw [z]; exact Heap.lt_size itAt
    · rw [List.mem_singleton.mp z]
      obtain ⟨ol, ho, hr⟩ := p'.isList
      exact Heap.lt_size (k01 _ _ ho)
  have bg1 : CompBegins s1 D C s3 := by
    obtain ⟨⟨h3, tk3, e3⟩, old, nD, nC, nDC, ns⟩ := bg
    have sz : s1.heap.objs.size ≤ (s1.heap.push { cls := .type "list_iterator", data := .fields #[.ref l, .int 0 0] }).objs.size := by rw [Heap.size_push]; exact Nat.le_succ _
    exact ⟨⟨h3, tk3, e3⟩, fun b o e => old b o (k01 b o e), Nat.le_trans sz nD, Nat.le_trans sz nC, nDC, ns⟩
  have szp : (s1.heap.push { cls := .type "list_iterator", data := .fields #[.ref l, .int 0 0] }).objs.size = It + 1 := by rw [Heap.size_push, hIt]
  have DI : D ≠ It := fun z => by
    have h2 : (s1.heap.push { cls := .type "list_iterator", data := .fields #[.ref l, .int 0 0] }).objs.size ≤ D := bg.newD
    rw [szp, z] at h2
    exact absurd h2 (Nat.not_succ_le_self _)
  have CI : It ≠ C := fun z => by
    have h2 : (s1.heap.push { cls := .type "list_iterator", data := .fields #[.ref l, .int 0 0] }).objs.size ≤ C := bg.newC
    rw [szp, z] at h2
    exact absurd h2 (Nat.not_succ_le_self _)
  have nD := bg1.newD
  have nC := bg1.newC
  have DC := bg1.ne
  generalize hxe : notedBy (model X.prog X.w) X.A (compEnvC scope [] C X.env) (CompFails (model X.prog X.w) X.A X.xe (compEnvC scope [] C X.env)) = xe
  have pas : Passes (L2.CX X.prog X.w) (Xb X s1 H1 scope C xe) E := by
    rw [← hxe]
    intro pb σb Hb sb e s' Ib c
    exact blk_passes hs hf tk I1 nC (hW σ) pb σb Hb sb e s' Ib c
  have PEl := hel s1 H1 C xe pas
  have Ist := start_inv xe hN I1 ok hl bg1
  have nst : ∀ b, s1.heap.objs.size ≤ b → b ∉ frs X.stack := fun b hb z => by
    have f := I1.fpOk (H' := fun _ => none) hb rfl
    rw [hs] at z
    obtain ⟨e, he, q⟩ := List.mem_filterMap.mp z
    rcases List.mem_cons.mp he with r | r
    · rw [r, hf] at q
      exact f.2.1 (Option.some.inj q).symm
    · exact f.2.2.1 (List.mem_filterMap.mpr ⟨e, r, q⟩)
  have fpB : ∀ (H' : Hp) (b : Addr), s1.heap.objs.size ≤ b → b ≠ C → H' b = none → FpOk (Xb X s1 H1 scope C xe) [] H' b := fun H' b hb hne hn => ⟨hn, hne, nst b hb, .inr hb, fun x c e => (by cases e), fun p hp => (by cases hp)⟩
  have hx' : (compEnvC scope [] C X.env).scope.names.lookup x = some .local := lookup_relS_keep (by decide) hx
  refine ⟨fun k ys sx => ∃ (o : Option V) (H2 : Hp) (acc : List V), Inv (Xb X s1 H1 scope C xe) [] (σ.set i o) H2 sx ∧ Vals acc ys ∧ acc.length = k ∧ Pv k acc H2 ∧ H2 D = none ∧ H2 It = none, ⟨none, H1, [], Ist, .nil, rfl, p0, I1.hok.fresh nD, I1.hok.fresh sIt⟩, fun k ys sx h' tk hG hk ht => ?_, fun k v ys sx hkn hY hSt hG plD => ?_, fun ys sx hG plD => ?_⟩
  · obtain ⟨o, H2, acc, Ib, rva, la, pv, zD, zI⟩ := hG
    exact ⟨o, H2, acc, Ib.turnedL (ch := [D, It]) (t' := tk) (fun b ob hb e => hk b ob hb e) (fun b hb => by
      rcases List.mem_cons.mp hb with z | z
      · rw [z]; exact fpB H2 D nD DC zD
      · rw [List.mem_singleton.mp z]; exact fpB H2 It sIt CI zI), rva, la, pv, zD, zI⟩
  · obtain ⟨o, H2, acc, Ib, rva, la, pv, zD, zI⟩ := hG
    obtain ⟨y, hy, ry⟩ := hY
    obtain ⟨oI, hoI, cI, dI⟩ := hSt.1
    obtain ⟨nl, hoD⟩ := plD
    have Ip := Ib.pinned (fp := [D, It]) (fun b hb => by
      rcases List.mem_cons.mp hb with z | z
      · rw [z]; exact fpB H2 D nD DC zD
      · rw [List.mem_singleton.mp z]; exact fpB H2 It sIt CI zI) (fun b hb => by
      rcases List.mem_cons.mp hb with z | z
      · rw [z]; exact ⟨_, hoD, fun v z => nomatch z⟩
      · rw [List.mem_singleton.mp z]; exact ⟨_, hoI, fun v z => by rw [dI] at z; cases z⟩)
    have pg := (pg_name (X := Xb X s1 H1 scope C xe) (pos := px) hN hi (.inl hx') (.inr hx')).run _ sx _ H2 y v (fun σ' H' => σ' = σ.set i (some y) ∧ H' = H2) Ip ry ⟨List.set_set .., rfl⟩
    refine thn pg fun _ s4 ⟨σ4, H4, I4, e4, e5⟩ => ?_
    subst e4 e5
    refine wpAny_pure ?_
    rw [if_pos rfl]
    refine thn (PEl.run _ s4 _ H4 _ I4 (pstep k y acc H4 hy la pv)) fun yv s6 ⟨w, H6, I6, r6, pv6⟩ => ?_
    have pD := I6.pin (D, _) (List.mem_append_right _ (List.mem_append_right _ (mem_pinsAt List.mem_cons_self hoD)))
    have pI := I6.pin (It, _) (List.mem_append_right _ (List.mem_append_right _ (mem_pinsAt (List.mem_cons_of_mem _ List.mem_cons_self) hoI)))
    obtain ⟨its6, rv6, p6, _⟩ := I6.list (pl _ _ _ pv6)
    refine ⟨⟨some y, H6, acc ++ [w], I6.unpinned (pins := []), rva.append (.cons r6 .nil), by rw [List.length_append, la]; rfl, pv6, pD.2.1, pI.2.1⟩, ⟨⟨oI, pI.1, cI, dI⟩, its6.toArray, p6.isList, by rw [List.toList_toArray]; exact rv6⟩, ⟨nl, pD.1⟩⟩
  · obtain ⟨o, H2, acc, Ib, rva, la, pv, zD, zI⟩ := hG
    obtain ⟨m, hn, _⟩ := Ib.loc
    have I0 : Inv X pins σ H2 sx := I1.call' (ch := []) Ib.os Ib.base Ib.hok Ib.bare (fun _ z => nomatch z)
    refine ⟨m, hn, fun h' sb => ?_⟩
    exact ⟨.ref D, _, adopt I0 (I1.fpOk nC Ib.free) (I1.fpOk nD zD) DC plD rva (by rw [la]; exact hz) sb, rfl, pend acc H2 la pv D zD⟩
end
end HwX

namespace HwP
open PySem PySem.Spec PyProof.Rows L2 Hw
open C8 (pss_cut tCut)
open HwG RZ HwZ HwA HwT GxR RT
def topS (i : Nat) : Stmt := PySem.Challenge.pw_hullwright_k11_texts_of_points_and_inequ.main.body.getD i (.Pass ⟨0, 0, 0, 0⟩)
/-- the built-in names that the text leaves as they are, and gcd -/
structure Glb (mg : Str → Option Value) : Prop where
  m_len : mg "len" = none
  m_range : mg "range" = none
  m_int : mg "int" = none
  m_list : mg "list" = none
  m_tuple : mg "tuple" = none
  m_bool : mg "bool" = none
  m_isinstance : mg "isinstance" = none
  m_abs : mg "abs" = none
  m_sum : mg "sum" = none
  m_zip : mg "zip" = none
  m_str : mg "str" = none
  m_any : mg "any" = none
  m_all : mg "all" = none
  m_reversed : mg "reversed" = none
  m_divmod : mg "divmod" = none
  m_gcd : mg "gcd" = some (.builtin "math.gcd")
  m_lcm : mg "lcm" = some (.builtin "math.lcm")
  m_most : ∃ t, mg "MOST_DIGITS" = some (.int 60 t)
/-- what a body that calls a def wants of it -/
structure Call (P : Program) (w : World) (K : PySem.W.Frag) (mg : Str → Option Value) (base : Heap) (k : Nat) (nm : Str) (ps : List Str) (sp : Sp) where
  g : Addr
  gd : FuncData
  G : FnOk P w K mg base CX0 k g gd ps sp
  m : mg nm = some (.ref g)
  kp : PySem.W.keepIn K (.ref g) = true
  b : Binds K gd ps []
section
variable {P : Program} {w : World} {K : PySem.W.Frag} {mg : Str → Option Value} {base : Heap}

/-! ### own error classes over ValueError -/
abbrev VE : List Value := [.type "ValueError", .type "Exception", .type "BaseException", .type "object"]
/-- what the written part says of the class nm at C -/
structure Er (K : PySem.W.Frag) (mg : Str → Option Value) (nm : Str) (C : Addr) : Prop where
  g : mg nm = some (.ref C)
  x : PySem.W.excIn K C VE "ValueError.__new__" = true
  k : PySem.W.keepIn K (.ref C) = true
  b : PySem.W.subIn K (.ref C) (.type "BaseException") = some true
  t : PySem.W.typeIn K (.ref C) = some (.type "type")
  d : PySem.W.hasDictIn K C = true
  s : PySem.W.subIn K (.ref C) (.ref C) = some true
theorem Er.em {K : PySem.W.Frag} {mg : Str → Option Value} {nm : Str} {C : Addr} (T : Er K mg nm C) : PySem.W.exmOne K (.ref C) (.ref C) = some true := PySem.W.exm_ref T.b T.d T.t T.s
def rE (K : PySem.W.Frag) (D a : Addr) (cls : Value) (d : Option Addr) : List V → Hp → VK → Prop := fun xs H Q => cls = .ref D ∧ d = none ∧ rIsE K D a xs H Q
section
variable {X : Cx}
/-- raise nm('..') -/
theorem raiseE {W : WX} {nm : Str} {C : Addr} {m : Str} {j : Nat} {p p2 pos pos2 : Pos} (T : Er X.K X.mg nm C) (hc : X.calm = true) (tk : Takes X W) (hg : Gl X nm) (hdb : (nm == ("__debug__" : Str)) = false := by decide) :
    PS X (.Raise (some (.Call (.Name nm p) [.Constant (.str m) j p2] [] pos)) none pos2) (fun _ σ H => W (.ref C) none σ H) :=
  ps_raise hc tk (pmk_own PySem.F.excBase_ValueError T.x T.g T.k (raises_own T.b T.t) hg hdb)
/-- isinstance of the error that the suite holds -/
theorem call_isE2 {a D : Addr} {cls : Value} {d : Option Addr} {oe : Obj} {pn : List (Addr × Obj)} (C : ExcC X.K D) (hz : Zc cls d oe) (hf : ∃ vs, oe.data = .fields vs) : CallR (X.suite a ((a, oe) :: pn)) (.builtin "isinstance") (rE X.K D a cls d) := by
  intro pins s σ H xs us Q I r h
  obtain ⟨rfl, rfl, h⟩ := h
  exact call_isE C hz hf pins s σ H xs us Q I r h
end

/-! ### Euclid's loop, by Fibonacci's numbers -/
def fb : Nat → Nat
  | 0 => 0
  | 1 => 1
  | n + 2 => fb (n + 1) + fb n
theorem fb_mono (n : Nat) : fb n ≤ fb (n + 1) ∨ n = 0 := by
  cases n with
  | zero => exact .inr rfl
  | succ n => left; rw [fb]; omega
theorem fb_grow : ∀ n : Nat, 3 * 4 ^ n ≤ fb (3 * n + 4)
  | 0 => by decide
  | n + 1 => by
    have ih := fb_grow n
    have e1 : fb (3 * (n + 1) + 4) = fb (3 * n + 6) + fb (3 * n + 5) := by rw [show 3 * (n + 1) + 4 = (3 * n + 5) + 2 by omega, fb]
    have e2 : fb (3 * n + 6) = fb (3 * n + 5) + fb (3 * n + 4) := by rw [show 3 * n + 6 = (3 * n + 4) + 2 by omega, fb]
    have e3 : fb (3 * n + 5) = fb (3 * n + 4) + fb (3 * n + 3) := by rw [show 3 * n + 5 = (3 * n + 3) + 2 by omega, fb]
    have e4 : fb (3 * n + 4) = fb (3 * n + 3) + fb (3 * n + 2) := by rw [show 3 * n + 4 = (3 * n + 2) + 2 by omega, fb]
    have e5 := (fb_mono (3 * n + 2)).resolve_right (by omega)
    have e5 : fb (3 * n + 2) ≤ fb (3 * n + 3) := e5
    rw [Nat.pow_succ]
    omega
theorem fb_600 : 2 ^ 397 ≤ fb 600 := by
  have h := fb_grow 198
  have e : fb (3 * 198 + 4) = fb 598 := rfl
  rw [e] at h
  have h1 : fb 598 ≤ fb 599 := (fb_mono 598).resolve_right (by decide)
  have h2 : fb 599 ≤ fb 600 := (fb_mono 599).resolve_right (by decide)
  have h3 : (2 : Nat) ^ 397 ≤ 3 * 4 ^ 198 := by decide +kernel
  omega
def Fit2 (i A B : Nat) : Prop := (i = 0 ∧ B < 2 ^ 395) ∨ ∃ j, i = j + 1 ∧ B < A ∧ fb (j + 1) * A + fb j * B < 2 ^ 395
theorem fit2_step {i A B : Nat} (h : Fit2 i A B) (hb : B ≠ 0) : Fit2 (i + 1) B (A % B) := by
  have hr : A % B < B := Nat.mod_lt _ (Nat.pos_of_ne_zero hb)
  rcases h with ⟨rfl, h⟩ | ⟨j, rfl, hlt, h⟩
  · refine .inr ⟨0, rfl, hr, ?_⟩
    show 1 * B + 0 * (A % B) < _
    omega
  · refine .inr ⟨j + 1, rfl, hr, ?_⟩
    have h2 : B + A % B ≤ A := by
      have e : B * (A / B) + A % B = A := Nat.div_add_mod A B
      have q : 1 ≤ A / B := Nat.div_pos (Nat.le_of_lt hlt) (Nat.pos_of_ne_zero hb)
      have m : B * 1 ≤ B * (A / B) := Nat.mul_le_mul_left _ q
      omega
    have h3 := Nat.mul_le_mul_left (fb (j + 1)) h2
    have e : fb (j + 1 + 1) * B + fb (j + 1) * (A % B) = fb (j + 1) * (B + A % B) + fb j * B := by
      rw [show fb (j + 1 + 1) = fb (j + 1) + fb j from rfl, Nat.add_mul, Nat.mul_add]
      omega
    rw [e]
    omega
theorem fit2_end {A B : Nat} (h : Fit2 600 A B) : B = 0 := by
  rcases h with ⟨h, _⟩ | ⟨j, hj, hlt, h⟩
  · omega
  · by_cases hb : B = 0
    · exact hb
    · exfalso
      have : j = 599 := by omega
      subst this
      have h1 : fb 600 * 1 ≤ fb (599 + 1) * A := Nat.mul_le_mul_left _ (by omega)
      have h2 := fb_600
      have h3 : (2 : Nat) ^ 395 < 2 ^ 397 := Nat.pow_lt_pow_right (by decide) (by decide)
      generalize fb (599 + 1) * A = X at *
      generalize fb 600 = Y at *
      generalize fb 599 * B = W at *
      omega
/-! ### the law's greatest common divisor -/
abbrev s__law_gcd : Stmt := topS 33
theorem sc__law_gcd : FnScope ["a", "b", "k", "hold"] ["a", "b"] (defScope s__law_gcd) := ⟨rfl, rfl, rfl, by decide +kernel, rfl, by decide +kernel, by decide +kernel⟩
def spGcd : Sp := fun vs H Q _ => ∃ a b : Int, vs = [.int a, .int b] ∧ b.natAbs < 2 ^ 395 ∧ Q (.int (g2 a b)) H
theorem abs_of (a : Int) : (if a < 0 then -a else a) = ((a.natAbs : Nat) : Int) := by
  split <;> omega
theorem ok_gcd {f : Addr} {fd : FuncData} {k : Nat} (F : Fun K "_law_gcd" "_law_gcd" s__law_gcd f fd) (Z : Glb mg) : FnOk P w K mg base CX0 (k + 1) f fd ["a", "b"] spGcd := by
  refine F.ok sc__law_gcd (fun vs H Q E h => ?_) (fun cdv A outer s H vs Q E hr h => ?_)
  · obtain ⟨a, b, rfl, _⟩ := h
    rfl
  · obtain ⟨a, b, rfl, hb, q⟩ := h
    refine ⟨_, (pss_cons (ps_set (i := 0) sc__law_gcd.nd rfl (.inl rfl) (pe_callB call_abs (by rfl) Z.m_abs (by decide +kernel) (pa_cons (pv 0) pa_nil)))
      (pss_cons (ps_set (i := 1) sc__law_gcd.nd rfl (.inl rfl) (pe_callB call_abs (by rfl) Z.m_abs (by decide +kernel) (pa_cons (pv 1) pa_nil)))
      (pss_cons (ps_for PassesOwn.never rfl (pi_range1 rfl Z.m_range (pa_cons pe_int pa_nil)) (pg_name (i := 2) sc__law_gcd.nd rfl (.inl rfl)) (pss_cons (ps_if (pt_cmpR op_eq (pv 1) pe_int (nomark _)) (pss_one ps_break) pss_nil)
      (pss_cons (ps_set (i := 3) sc__law_gcd.nd rfl (.inl rfl) (pe_op op_modN (pe_callTy call_int1 (by rfl) Z.m_int (by decide +kernel) (pa_cons (pv 0) pa_nil)) (pv 1)))
      (pss_cons (ps_set (i := 0) sc__law_gcd.nd rfl (.inl rfl) (pv 1))
      (pss_one (ps_set (i := 1) sc__law_gcd.nd rfl (.inl rfl) (pv 3)))))))
      (pss_one (ps_ret (pv 0)))))), ?_⟩
    refine ⟨_, rfl, a, rfl, _, rfl, b, rfl, 600, rfl, by decide, by decide, ?_⟩
    rw [abs_of, abs_of]
    refine for_range (lo := 0) (n := 600) (fun i σ H' => H' = H ∧ ∃ (A B : Nat) (y2 y3 : Option V), σ = [some (.int A), some (.int B), y2, y3] ∧ Nat.gcd A B = Nat.gcd a.natAbs b.natAbs ∧ Fit2 i A B) ⟨rfl, _, _, _, _, rfl, rfl, .inl ⟨rfl, hb⟩⟩ (fun i σ H' hi hP => ?_) (fun σ H' hP => ?_)
    · obtain ⟨rfl, A', B', y2, y3, rfl, hg, hf⟩ := hP
      refine ⟨_, rfl, rfl, _, rfl, ite2 (fun e => ?_) (fun e => ?_)⟩
      · have e0 : B' = 0 := by
          have := V.int.inj (of_decide_eq_true e)
          omega
        subst e0
        refine ⟨_, rfl, ?_⟩
        rw [Nat.gcd_zero_right] at hg
        rw [hg]
        exact q
      · have e0 : B' ≠ 0 := fun z => e (by subst z; exact decide_eq_true rfl)
        refine ⟨_, rfl, .inl ⟨_, rfl, _, rfl, _, _, rfl, rfl, by omega, ?_⟩⟩
        have em : ((A' : Int).fmod (B' : Int)) = ((A' % B' : Nat) : Int) := by
          rw [Int.fmod_eq_emod_of_nonneg _ (by omega)]
          rfl
        refine ⟨_, rfl, _, rfl, rfl, B', A' % B', some (.int (0 + (i : Int))), some (.int ((A' % B' : Nat) : Int)), ?_, ?_, fit2_step hf e0⟩
        · rw [← em]
          rfl
        · rw [gcd_turn, hg]
    · obtain ⟨rfl, A', B', y2, y3, rfl, hg, hf⟩ := hP
      have e0 := fit2_end hf
      subst e0
      rw [Nat.gcd_zero_right] at hg
      refine ⟨_, rfl, ?_⟩
      rw [hg]
      exact q

/-! ### the law's draws: what they leave is told by bounds alone -/
abbrev s__law_spread : Stmt := topS 30
theorem sc__law_spread : FnScope ["cell", "mixed", "total", "k"] ["cell"] (defScope s__law_spread) := ⟨rfl, rfl, rfl, by decide +kernel, rfl, by decide +kernel, by decide +kernel⟩
def spSpread : Sp := fun vs H Q _ => ∃ c : Int, vs = [.int c] ∧ ∀ t : Int, Q (.int t) H
theorem ok_spread {f : Addr} {fd : FuncData} {k : Nat} (F : Fun K "_law_spread" "_law_spread" s__law_spread f fd) (Z : Glb mg) : FnOk P w K mg base CX0 (k + 1) f fd ["cell"] spSpread := by
  refine F.ok sc__law_spread (fun vs H Q E h => ?_) (fun cdv A outer s H vs Q E hr h => ?_)
  · obtain ⟨c, rfl, _⟩ := h
    rfl
  · obtain ⟨c, rfl, q⟩ := h
    refine ⟨_, (pss_cons (ps_set (i := 1) sc__law_spread.nd rfl (.inl rfl) (pe_op op_modN (pe_callTy call_int1 (by rfl) Z.m_int (by decide +kernel) (pa_cons (pv 0) pa_nil)) pe_int))
      (pss_cons (ps_set (i := 2) sc__law_spread.nd rfl (.inl rfl) pe_int)
      (pss_cons (ps_for PassesOwn.never rfl (pi_range1 rfl Z.m_range (pa_cons pe_int pa_nil)) (pg_name (i := 3) sc__law_spread.nd rfl (.inl rfl)) (pss_cons (ps_set (i := 1) sc__law_spread.nd rfl (.inl rfl) (pe_op op_modN (pe_callTy call_int1 (by rfl) Z.m_int (by decide +kernel) (pa_cons (pe_op op_add (pe_op op_add (pe_op op_mul (pv 1) pe_int) pe_int) (pv 3)) pa_nil)) pe_int))
      (pss_one (ps_set (i := 2) sc__law_spread.nd rfl (.inl rfl) (pe_op op_add (pe_op op_mul (pv 2) pe_int) (pv 1))))))
      (pss_one (ps_ret (pv 2)))))), ?_⟩
    refine ⟨_, rfl, .inl ⟨_, rfl, _, _, rfl, rfl, (by show (2147483647 : Int) ≠ 0; decide), 4, rfl, by decide, by decide, ?_⟩⟩
    refine for_range (lo := 0) (n := 4) (fun i σ H' => H' = H ∧ ∃ (m t : Int) (y3 : Option V), σ = [some (.int c), some (.int m), some (.int t), y3]) ⟨rfl, _, _, _, rfl⟩ (fun i σ H' hi hP => ?_) (fun σ H' hP => ?_)
    · obtain ⟨rfl, m, t, y3, rfl⟩ := hP
      refine ⟨_, rfl, _, _, rfl, rfl, .inr ⟨by decide, by decide⟩, _, _, rfl, rfl, _, rfl, _, _, rfl, rfl, .inl ⟨_, rfl, _, _, rfl, rfl, (by show (2147483647 : Int) ≠ 0; decide), ?_⟩⟩
      exact ⟨_, rfl, _, _, rfl, rfl, .inr ⟨by decide, by decide⟩, _, rfl, _, _, rfl, rfl, rfl, _, _, _, rfl⟩
    · obtain ⟨rfl, m, t, y3, rfl⟩ := hP
      exact ⟨_, rfl, q t⟩
/-- a pool: its script's ints, then four ints -/
def Pl (H : Hp) (p : Addr) : Prop := ∃ (q : Addr) (ns : List Int) (a : Nat) (b c d : Int), H p = some (.lst [.ref q, .int a, .int b, .int c, .int d]) ∧ H q = some (.lst (ns.map V.int)) ∧ q ≠ p
/-- the head of the list at p -/
def Hd (H : Hp) (p q : Addr) : Prop := ∃ l, H p = some (.lst (.ref q :: l))
/-- all but p is as it was, and p has its head -/
def But (p : Addr) (H H' : Hp) : Prop := (∀ x, x ≠ p → H' x = H x) ∧ ∀ q, Hd H p q → Hd H' p q
theorem But.refl (p : Addr) (H : Hp) : But p H H := ⟨fun _ _ => rfl, fun _ h => h⟩
theorem But.trans {p : Addr} {H H1 H2 : Hp} (a : But p H H1) (b : But p H1 H2) : But p H H2 := ⟨fun x h => (b.1 x h).trans (a.1 x h), fun q h => b.2 q (a.2 q h)⟩
theorem But.upd {p q : Addr} {H : Hp} {l l' : List V} (hp : H p = some (.lst (.ref q :: l))) : But p H (upd H p (.lst (.ref q :: l'))) :=
  ⟨fun _ h => upd_ne h, fun q' h => by
    obtain ⟨l2, e⟩ := h
    have := hp.symm.trans e
    injection this with this
    injection this with this
    injection this with this
    injection this with this
    subst this
    exact ⟨l', upd_same⟩⟩
theorem pl_upd {H : Hp} {p q : Addr} {ns : List Int} (a : Nat) (b c d : Int) (hq : H q = some (.lst (ns.map V.int))) (ne : q ≠ p) : Pl (upd H p (.lst [.ref q, .int a, .int b, .int c, .int d])) p :=
  ⟨q, ns, a, b, c, d, upd_same, by rw [upd_ne ne]; exact hq, ne⟩
abbrev s__law_draw : Stmt := topS 31
theorem sc__law_draw : FnScope ["pool", "many", "cell", "mixed", "value"] ["pool", "many"] (defScope s__law_draw) := ⟨rfl, rfl, rfl, by decide +kernel, rfl, by decide +kernel, by decide +kernel⟩
def spDraw : Sp := fun vs H Q _ => ∃ (p : Addr) (m : Int), vs = [.ref p, .int m] ∧ 0 < m ∧ m.natAbs < 2 ^ 8000 ∧ Pl H p ∧ ∀ (v : Int) (H' : Hp), 0 ≤ v → v < m → Pl H' p → But p H H' → Q (.int v) H'
theorem ok_draw {f : Addr} {fd : FuncData} {k : Nat} (F : Fun K "_law_draw" "_law_draw" s__law_draw f fd) (Z : Glb mg)
    (C_law_spread : Call P w K mg base k "_law_spread" ["cell"] spSpread) : FnOk P w K mg base CX0 (k + 1) f fd ["pool", "many"] spDraw := by
  refine F.ok sc__law_draw (fun vs H Q E h => ?_) (fun cdv A outer s H vs Q E hr h => ?_)
  · obtain ⟨p, m, rfl, _⟩ := h
    rfl
  · obtain ⟨p, m, rfl, hm, hb, hP, q⟩ := h
    refine ⟨_, (pss_cut (ps_if (PW.pt (pw_and (pt_cmpR op_le (pe_ix (r := rIxL K) ix_list (pv 0) pe_int (fun _ _ => rfl)) pe_int (nomark _)) (pw_and1 (pt_cmpR op_lt (pe_ix (r := rIxL K) ix_list (pv 0) pe_int (fun _ _ => rfl)) (pe_callB call_len_seq (by rfl) Z.m_len PySem.boot_len (pa_cons (pe_ix (r := rIxL K) ix_list (pv 0) pe_int (fun _ _ => rfl)) pa_nil)) (nomark _))))) (pss_cons (ps_set (i := 2) sc__law_draw.nd rfl (.inl rfl) (pe_ix (r := rIxL K) ix_list (pe_ix (r := rIxL K) ix_list (pv 0) pe_int (fun _ _ => rfl)) (pe_ix (r := rIxL K) ix_list (pv 0) pe_int (fun _ _ => rfl)) (fun _ _ => rfl)))
      (pss_cons (ps_asg (pe_op op_add (pe_ix (r := rIxL K) ix_list (pv 0) pe_int (fun _ _ => rfl)) pe_int) (pg_sub (pv 0) pe_int set_list))
      (pss_cons (ps_asg (pv 2) (pg_sub (pv 0) pe_int set_list))
      (pss_one (ps_if (pt_cmpR op_lt (pv 2) pe_int (nomark _)) (pss_one (ps_asg (pe_call C_law_spread.G hr (by rfl) C_law_spread.m C_law_spread.kp C_law_spread.b .nil pass0 (pa_cons (pv 2) pa_nil)) (pg_sub (pv 0) pe_int set_list))) pss_nil))))) pss_nil)
      (pss_cons (ps_asg (pe_op op_add (pe_ix (r := rIxL K) ix_list (pv 0) pe_int (fun _ _ => rfl)) pe_int) (pg_sub (pv 0) pe_int set_list))
      (pss_cons (ps_if (pt_cmpR op_le (pe_ix (r := rIxL K) ix_list (pv 0) pe_int (fun _ _ => rfl)) pe_int (nomark _)) (pss_cons (ps_set (i := 3) sc__law_draw.nd rfl (.inl rfl) (pe_op op_modN (pe_callTy call_int1 (by rfl) Z.m_int (by decide +kernel) (pa_cons (pe_op op_add (pe_op op_add (pe_op op_mul (pe_ix (r := rIxL K) ix_list (pv 0) pe_int (fun _ _ => rfl)) pe_int) (pe_op op_mul (pe_ix (r := rIxL K) ix_list (pv 0) pe_int (fun _ _ => rfl)) pe_int)) pe_int) pa_nil)) pe_int))
      (pss_cons (ps_set (i := 3) sc__law_draw.nd rfl (.inl rfl) (pe_op op_modN (pe_callTy call_int1 (by rfl) Z.m_int (by decide +kernel) (pa_cons (pe_op op_add (pe_op op_mul (pv 3) pe_int) (pe_ix (r := rIxL K) ix_list (pv 0) pe_int (fun _ _ => rfl))) pa_nil)) pe_int))
      (pss_one (ps_ret (pe_op op_modN (pe_op op_fdivN (pv 3) pe_int) (pv 1)))))) pss_nil)
      (pss_cons (ps_set (i := 4) sc__law_draw.nd rfl (.inl rfl) (pe_op op_modN (pe_callTy call_int1 (by rfl) Z.m_int (by decide +kernel) (pa_cons (pe_ix (r := rIxL K) ix_list (pv 0) pe_int (fun _ _ => rfl)) pa_nil)) (pv 1)))
      (pss_cons (ps_asg (pe_op op_fdivW (pe_ix (r := rIxL K) ix_list (pv 0) pe_int (fun _ _ => rfl)) (pv 1)) (pg_sub (pv 0) pe_int set_list))
      (pss_one (ps_ret (pv 4)))))))), ?_⟩
    refine ⟨fun σ H' => ∃ y2 : Option V, σ = [some (.ref p), some (.int m), y2, none, none] ∧ Pl H' p ∧ But p H H', ?_, ?_⟩
    · obtain ⟨q', ns, a, b, c, d, hp, hq, ne⟩ := hP
      refine ⟨_, rfl, _, _, _, _, rfl, rfl, SqL.of hp, atI_nat (j := 2) rfl, _, _, rfl, rfl, _, rfl, ite2 (fun e1 => ?_) (fun e1 => ?_)⟩
      · refine ⟨_, rfl, _, _, _, _, rfl, rfl, SqL.of hp, atI_nat (j := 1) rfl, _, rfl, _, _, _, _, rfl, rfl, SqL.of hp, atI_nat (j := 0) rfl, _, _, rfl, .inl (SqL.of hq), _, _, rfl, rfl, _, rfl, ite2 (fun e2 => ?_) (fun e2 => ?_)⟩
        · have e3 : a < ns.length := by
            have := of_decide_eq_true e2
            rw [List.length_map] at this
            omega
          have g1 : (ns.map V.int)[a]? = some (.int ns[a]) := by
            rw [List.getElem?_map, List.getElem?_eq_getElem e3]
            rfl
          -- cell = pool[0][pool[1]]
          refine ⟨_, rfl, _, _, _, _, rfl, rfl, SqL.of hp, atI_nat (j := 0) rfl, _, rfl, _, _, _, _, rfl, rfl, SqL.of hp, atI_nat (j := 1) rfl, _, _, _, _, rfl, rfl, SqL.of hq, atI_nat g1, ?_⟩
          -- pool[1] = pool[1] + 1
          refine ⟨_, rfl, _, _, _, _, rfl, rfl, SqL.of hp, atI_nat (j := 1) rfl, _, _, rfl, rfl, _, rfl, _, _, _, 1, rfl, rfl, hp, rfl, ?_⟩
          -- pool[2] = cell
          refine ⟨_, rfl, _, rfl, _, _, _, 2, rfl, rfl, upd_same, rfl, ?_⟩
          rw [upd_upd]
          refine ⟨_, rfl, _, _, rfl, rfl, _, rfl, ite2 (fun e4 => ?_) (fun e4 => ?_)⟩
          · refine ⟨_, rfl, _, rfl, fun t => ⟨_, rfl, _, _, _, 2, rfl, rfl, upd_same, rfl, ?_⟩⟩
            rw [upd_upd]
            exact ⟨some (.int ns[a]), rfl, pl_upd (a + 1) t c d hq ne, (But.upd hp)⟩
          · exact ⟨some (.int ns[a]), rfl, pl_upd (a + 1) ns[a] c d hq ne, (But.upd hp)⟩
        · exact ⟨none, rfl, ⟨q', ns, a, b, c, d, hp, hq, ne⟩, But.refl _ _⟩
      · exact iteF ⟨none, rfl, ⟨q', ns, a, b, c, d, hp, hq, ne⟩, But.refl _ _⟩
    · intro σ H1 hW
      obtain ⟨y2, rfl, ⟨q', ns, a, b, c, d, hp, hq, ne⟩, hB⟩ := hW
      -- pool[3] = pool[3] + 1
      refine ⟨_, rfl, _, _, _, _, rfl, rfl, SqL.of hp, atI_nat (j := 3) rfl, _, _, rfl, rfl, _, rfl, _, _, _, 3, rfl, rfl, hp, rfl, ?_⟩
      have h0 : (upd H1 p (.lst [.ref q', .int a, .int b, .int (c + 1), .int d])) p = some (.lst [.ref q', .int a, .int b, .int (c + 1), .int d]) := upd_same
      refine ⟨_, rfl, _, _, _, _, rfl, rfl, SqL.of h0, atI_nat (j := 2) rfl, _, _, rfl, rfl, _, rfl, ite2 (fun e1 => ?_) (fun e1 => ?_)⟩
      · refine ⟨_, rfl, _, _, _, _, rfl, rfl, SqL.of h0, atI_nat (j := 4) rfl, _, _, rfl, rfl, .inr ⟨by decide, by decide⟩, _, rfl, _, _, _, _, rfl, rfl, SqL.of h0, atI_nat (j := 3) rfl, _, _, rfl, rfl, .inr ⟨by decide, by decide⟩, _, _, rfl, rfl, _, _, rfl, rfl, .inl ⟨_, rfl, _, _, rfl, rfl, (by show (2147483647 : Int) ≠ 0; decide), ?_⟩⟩
        refine ⟨_, rfl, _, _, rfl, rfl, .inr ⟨by decide, by decide⟩, _, rfl, _, _, _, _, rfl, rfl, SqL.of h0, atI_nat (j := 3) rfl, _, _, rfl, rfl, .inl ⟨_, rfl, _, _, rfl, rfl, (by show (2147483629 : Int) ≠ 0; decide), ?_⟩⟩
        refine ⟨_, rfl, _, _, rfl, rfl, ⟨by decide, by decide⟩, _, rfl, _, _, rfl, rfl, (by show m ≠ 0; omega), ?_⟩
        exact q _ _ (Int.fmod_nonneg_of_pos _ hm) (Int.fmod_lt_of_pos _ hm) (pl_upd a b (c + 1) d hq ne) (hB.trans (But.upd hp))
      · refine ⟨_, rfl, _, _, _, _, rfl, rfl, SqL.of h0, atI_nat (j := 2) rfl, .inl ⟨_, rfl, _, rfl, _, _, rfl, rfl, (by show m ≠ 0; omega), ?_⟩⟩
        refine ⟨_, rfl, _, _, _, _, rfl, rfl, SqL.of h0, atI_nat (j := 2) rfl, _, rfl, _, _, rfl, rfl, wide_div hm hb (by decide) (by decide), _, rfl, _, _, _, 2, rfl, rfl, h0, rfl, ?_⟩
        rw [upd_upd]
        refine ⟨_, rfl, ?_⟩
        exact q _ _ (Int.fmod_nonneg_of_pos _ hm) (Int.fmod_lt_of_pos _ hm) (pl_upd a _ (c + 1) d hq ne) (hB.trans (But.upd hp))

/-! ### the law's pool -/
abbrev s__law_pool : Stmt := topS 29
theorem sc__law_pool : FnScope ["script", "salt", "cell"] ["script"] (defScope s__law_pool) := ⟨rfl, rfl, rfl, by decide +kernel, rfl, by decide +kernel, by decide +kernel⟩
theorem same_upd {H : Hp} {p : Addr} {o : HO} (h : H p = none) : Same H (upd H p o) := fun b x e => by
  rw [upd_ne (ne_of_none e h)]
  exact e
theorem cut_int {ns : List Int} {lo hi : Option Int} {i : Nat} {x : V} (h : (cutV (ns.map V.int) lo hi)[i]? = some x) : ∃ n : Int, x = .int n := by
  have m := List.mem_of_getElem? h
  unfold cutV at m
  have m2 := List.mem_of_mem_drop (List.mem_of_mem_take m)
  obtain ⟨n, _, e⟩ := List.mem_map.mp m2
  exact ⟨n, e.symm⟩
def spPool (K : PySem.W.Frag) : Sp := fun vs H Q _ => ∃ (a : Addr) (ns : List Int), vs = [.ref a] ∧ SqL K H a (ns.map V.int) ∧ ∀ (H' : Hp) (p : Addr), Same H H' → H p = none → Pl H' p → Q (.ref p) H'
theorem ok_pool {f : Addr} {fd : FuncData} {k : Nat} (F : Fun K "_law_pool" "_law_pool" s__law_pool f fd) (Z : Glb mg) : FnOk P w K mg base CX0 (k + 1) f fd ["script"] (spPool K) := by
  refine F.ok sc__law_pool (fun vs H Q E h => ?_) (fun cdv A outer s H vs Q E hr h => ?_)
  · obtain ⟨a, ns, rfl, _⟩ := h
    rfl
  · obtain ⟨a, ns, rfl, hS, q⟩ := h
    refine ⟨_, (pss_cons (ps_set (i := 1) sc__law_pool.nd rfl (.inl rfl) pe_int)
      (pss_cons (ps_for PassesOwn.never rfl (pi_list (pe_slice (r := rSlL K) sl_list (pv 0) po_none (po_some pe_int))) (pg_name (i := 2) sc__law_pool.nd rfl (.inl rfl)) (pss_one (ps_set (i := 1) sc__law_pool.nd rfl (.inl rfl) (pe_op op_modN (pe_callTy call_int1 (by rfl) Z.m_int (by decide +kernel) (pa_cons (pe_op op_add (pe_op op_mul (pv 1) pe_int) (pv 2)) pa_nil)) pe_int))))
      (pss_one (ps_ret (pe_lst (pa_cons (pe_callTy call_list_of (by rfl) Z.m_list (by decide +kernel) (pa_cons (pv 0) pa_nil)) (pa_cons pe_int (pa_cons pe_int (pa_cons pe_int (pa_cons (pv 1) pa_nil)))))))))), ?_⟩
    refine ⟨_, rfl, _, rfl, a, ns.map V.int, rfl, hS, fun c nc => ?_⟩
    have s1 : Same H (upd H c (.lst (cutV (ns.map V.int) none (some 63)))) := same_upd nc
    refine ⟨c, rfl, ⟨_, SqL.of upd_same⟩, ?_⟩
    refine for_list (xs := cutV (ns.map V.int) none (some 63)) (fun i σ H' => H' = upd H c (.lst (cutV (ns.map V.int) none (some 63))) ∧ ∃ (m : Int) (y2 : Option V), σ = [some (.ref a), some (.int m), y2]) ⟨rfl, _, _, rfl⟩ (fun i σ H' _ hP => by obtain ⟨rfl, _⟩ := hP; exact SqL.of upd_same) (fun i x σ H' hx hP => ?_) (fun σ H' hP => ?_)
    · obtain ⟨rfl, m, y2, rfl⟩ := hP
      obtain ⟨n, rfl⟩ := cut_int hx
      exact ⟨_, rfl, _, _, rfl, rfl, .inr ⟨by decide, by decide⟩, _, rfl, _, _, rfl, rfl, .inl ⟨_, rfl, _, _, rfl, rfl, (by show (1000003 : Int) ≠ 0; decide), rfl, _, _, rfl⟩⟩
    · obtain ⟨rfl, m, y2, rfl⟩ := hP
      refine ⟨_, rfl, a, ns.map V.int, rfl, .inl (s1.seq hS), fun l nl => ⟨_, rfl, ?_, fun p np => ?_⟩⟩
      · exact Nat.le_of_lt (small1000 (show 5 ≤ 1000 by decide))
      · have s2 : Same (upd H c (.lst (cutV (ns.map V.int) none (some 63)))) (upd (upd H c (.lst (cutV (ns.map V.int) none (some 63)))) l (.lst (ns.map V.int))) := same_upd nl
        have lp : l ≠ p := ne_of_none upd_same np
        refine q _ _ ((s1.trans s2).trans (same_upd np)) ((s1.trans s2).free np) ⟨l, ns, 0, 0, 0, m, upd_same, ?_, lp⟩
        rw [upd_ne lp]
        exact upd_same

/-! ### the law's comparison of two answers: alike data is told to be the same -/
inductive Alike (H : Hp) : Nat → V → V → Prop where
  | int (n : Nat) (i : Int) : Alike H n (.int i) (.int i)
  | bl (n : Nat) (b : Bool) : Alike H n (.bl b) (.bl b)
  | non (n : Nat) : Alike H n .non .non
  | str (n : Nat) (z : Str) : Alike H n (.str z) (.str z)
  | tup {n : Nat} {a b : Addr} {xs ys : List V} (ha : H a = some (.tup xs)) (hb : H b = some (.tup ys)) (hl : xs.length = ys.length) (hm : xs.length ≤ 1000000) (h : ∀ (i : Nat) (x y : V), xs[i]? = some x → ys[i]? = some y → Alike H n x y) : Alike H (n + 1) (.ref a) (.ref b)
  | lst {n : Nat} {a b : Addr} {xs ys : List V} (ha : H a = some (.lst xs)) (hb : H b = some (.lst ys)) (hl : xs.length = ys.length) (hm : xs.length ≤ 1000000) (h : ∀ (i : Nat) (x y : V), xs[i]? = some x → ys[i]? = some y → Alike H n x y) : Alike H (n + 1) (.ref a) (.ref b)
abbrev s__law_same : Stmt := topS 32
theorem sc__law_same : FnScope ["actual", "due", "k"] ["actual", "due"] (defScope s__law_same) := ⟨rfl, rfl, rfl, by decide +kernel, rfl, by decide +kernel, by decide +kernel⟩
def spSame (n : Nat) : Sp := fun vs H Q _ => ∃ x y : V, vs = [x, y] ∧ Alike H n x y ∧ Q (.bl true) H
structure SameG (mg : Str → Option Value) : Prop where
  mIs : mg "isinstance" = none
  mT : mg "tuple" = none
  mLi : mg "list" = none
  mL : mg "len" = none
  mR : mg "range" = none
  mB : mg "bool" = none
  mI : mg "int" = none
theorem ok_same {f : Addr} {fd : FuncData} {k n : Nat} (F : Fun K "_law_same" "_law_same" s__law_same f fd) (Z : Glb mg)
    (G : ∀ m, n = m + 1 → FnOk P w K mg base CX0 k f fd ["actual", "due"] (spSame m)) (gS : mg "_law_same" = some (.ref f)) (bS : Binds K fd ["actual", "due"] []) : FnOk P w K mg base CX0 (k + 1) f fd ["actual", "due"] (spSame n) := by
  refine F.ok sc__law_same (fun vs H Q E h => ?_) (fun cdv A outer s H vs Q E hr h => ?_)
  · obtain ⟨x, y, rfl, _⟩ := h
    rfl
  · obtain ⟨x, y, rfl, hA, q⟩ := h
    have nd := sc__law_same.nd
    cases hA with
    | int n i =>
      refine ⟨_, pss_cons (ps_if (PW.pt (pw_or (pt_val (pe_callB call_isi (by rfl) Z.m_isinstance (by decide +kernel) (pa_cons (pv 1) (pa_cons (pe_bltn (u := .type "tuple") (v := .ty "tuple") (by rfl) Z.m_tuple (by decide +kernel) rfl) pa_nil)))) (pw_or1 (pt_val (pe_callB call_isi (by rfl) Z.m_isinstance (by decide +kernel) (pa_cons (pv 1) (pa_cons (pe_bltn (u := .type "list") (v := .ty "list") (by rfl) Z.m_list (by decide +kernel) rfl) pa_nil))))))) (pss_cons ps_never (pss_cons ps_never (pss_cons ps_never (pss_one ps_never)))) pss_nil)
        (pss_cons (ps_if (pt_cmp (pc_isN (pv 1))) (pss_one ps_never) pss_nil)
        (pss_cons (ps_if (pt_val (pe_callB call_isi (by rfl) Z.m_isinstance (by decide +kernel) (pa_cons (pv 1) (pa_cons (pe_bltn (u := .type "bool") (v := .ty "bool") (by rfl) Z.m_bool (by decide +kernel) rfl) pa_nil)))) (pss_one ps_never) pss_nil)
        (pss_cons (ps_if (pt_val (pe_callB call_isi (by rfl) Z.m_isinstance (by decide +kernel) (pa_cons (pv 1) (pa_cons (pe_bltn (u := .type "int") (v := .ty "int") (by rfl) Z.m_int (by decide +kernel) rfl) pa_nil))))
          (pss_one (ps_ret (pe_and (pe_callB call_isi (by rfl) Z.m_isinstance (by decide +kernel) (pa_cons (pv 0) (pa_cons (pe_bltn (u := .type "int") (v := .ty "int") (by rfl) Z.m_int (by decide +kernel) rfl) pa_nil)))
            (pe_and (pe_not (pe_callB call_isi (by rfl) Z.m_isinstance (by decide +kernel) (pa_cons (pv 0) (pa_cons (pe_bltn (u := .type "bool") (v := .ty "bool") (by rfl) Z.m_bool (by decide +kernel) rfl) pa_nil))))
            (pe_one (pe_cmpR op_eq (pv 0) (pv 1) (nomark _))))))) pss_nil)
        (pss_one ps_never)))), ?_⟩
      have ty : TyX K H (.int i) (.type "int") := .base (.int i)
      refine ⟨_, rfl, _, _, _, _, _, rfl, ClsV.ty _, ty, kit_ty (by decide +kernel), false, rfl, iteF ⟨_, rfl, _, _, _, _, _, rfl, ClsV.ty _, ty, kit_ty (by decide +kernel), false, rfl, iteF ?_⟩⟩
      refine ⟨_, rfl, false, rfl, iteF ?_⟩
      refine ⟨_, rfl, _, _, _, _, _, rfl, ClsV.ty _, ty, kit_ty (by decide +kernel), false, rfl, iteF ?_⟩
      refine ⟨_, rfl, _, _, _, _, _, rfl, ClsV.ty _, ty, kit_ty (by decide +kernel), true, rfl, iteT ?_⟩
      refine ⟨_, rfl, _, _, _, _, _, rfl, ClsV.ty _, ty, kit_ty (by decide +kernel), true, rfl, iteT ?_⟩
      refine ⟨_, rfl, _, _, _, _, _, rfl, ClsV.ty _, ty, kit_ty (b := "bool") (r := false) (by decide +kernel), false, rfl, true, rfl, iteT ?_⟩
      refine ⟨_, rfl, _, rfl, rfl, ?_⟩
      rw [decide_eq_true rfl]
      exact q
    | str n z =>
      refine ⟨_, pss_cons (ps_if (PW.pt (pw_or (pt_val (pe_callB call_isi (by rfl) Z.m_isinstance (by decide +kernel) (pa_cons (pv 1) (pa_cons (pe_bltn (u := .type "tuple") (v := .ty "tuple") (by rfl) Z.m_tuple (by decide +kernel) rfl) pa_nil)))) (pw_or1 (pt_val (pe_callB call_isi (by rfl) Z.m_isinstance (by decide +kernel) (pa_cons (pv 1) (pa_cons (pe_bltn (u := .type "list") (v := .ty "list") (by rfl) Z.m_list (by decide +kernel) rfl) pa_nil))))))) (pss_cons ps_never (pss_cons ps_never (pss_cons ps_never (pss_one ps_never)))) pss_nil)
        (pss_cons (ps_if (pt_cmp (pc_isN (pv 1))) (pss_one ps_never) pss_nil)
        (pss_cons (ps_if (pt_val (pe_callB call_isi (by rfl) Z.m_isinstance (by decide +kernel) (pa_cons (pv 1) (pa_cons (pe_bltn (u := .type "bool") (v := .ty "bool") (by rfl) Z.m_bool (by decide +kernel) rfl) pa_nil)))) (pss_one ps_never) pss_nil)
        (pss_cons (ps_if (pt_val (pe_callB call_isi (by rfl) Z.m_isinstance (by decide +kernel) (pa_cons (pv 1) (pa_cons (pe_bltn (u := .type "int") (v := .ty "int") (by rfl) Z.m_int (by decide +kernel) rfl) pa_nil)))) (pss_one ps_never) pss_nil)
        (pss_one (ps_ret (pe_and (pe_callB call_isi (by rfl) Z.m_isinstance (by decide +kernel) (pa_cons (pv 0) (pa_cons (pe_bltn (u := .type "str") (v := .ty "str") (by rfl) Z.m_str (by decide +kernel) rfl) pa_nil)))
            (pe_one (pe_cmpR op_eq (pv 0) (pv 1) (nomark _))))))))), ?_⟩
      have ty : TyX K H (.str z) (.type "str") := .base (.str z)
      refine ⟨_, rfl, _, _, _, _, _, rfl, ClsV.ty _, ty, kit_ty (by decide +kernel), false, rfl, iteF ⟨_, rfl, _, _, _, _, _, rfl, ClsV.ty _, ty, kit_ty (by decide +kernel), false, rfl, iteF ?_⟩⟩
      refine ⟨_, rfl, false, rfl, iteF ?_⟩
      refine ⟨_, rfl, _, _, _, _, _, rfl, ClsV.ty _, ty, kit_ty (by decide +kernel), false, rfl, iteF ?_⟩
      refine ⟨_, rfl, _, _, _, _, _, rfl, ClsV.ty _, ty, kit_ty (by decide +kernel), false, rfl, iteF ?_⟩
      refine ⟨_, rfl, _, _, _, _, _, rfl, ClsV.ty _, ty, kit_ty (by decide +kernel), true, rfl, iteT ?_⟩
      refine ⟨_, rfl, _, rfl, rfl, ?_⟩
      rw [decide_eq_true rfl]
      exact q
    | bl n b =>
      refine ⟨_, pss_cons (ps_if (PW.pt (pw_or (pt_val (pe_callB call_isi (by rfl) Z.m_isinstance (by decide +kernel) (pa_cons (pv 1) (pa_cons (pe_bltn (u := .type "tuple") (v := .ty "tuple") (by rfl) Z.m_tuple (by decide +kernel) rfl) pa_nil)))) (pw_or1 (pt_val (pe_callB call_isi (by rfl) Z.m_isinstance (by decide +kernel) (pa_cons (pv 1) (pa_cons (pe_bltn (u := .type "list") (v := .ty "list") (by rfl) Z.m_list (by decide +kernel) rfl) pa_nil))))))) (pss_cons ps_never (pss_cons ps_never (pss_cons ps_never (pss_one ps_never)))) pss_nil)
        (pss_cons (ps_if (pt_cmp (pc_isN (pv 1))) (pss_one ps_never) pss_nil)
        (pss_cons (ps_if (pt_val (pe_callB call_isi (by rfl) Z.m_isinstance (by decide +kernel) (pa_cons (pv 1) (pa_cons (pe_bltn (u := .type "bool") (v := .ty "bool") (by rfl) Z.m_bool (by decide +kernel) rfl) pa_nil)))) (pss_one (ps_ret (pe_and (pe_callB call_isi (by rfl) Z.m_isinstance (by decide +kernel) (pa_cons (pv 0) (pa_cons (pe_bltn (u := .type "bool") (v := .ty "bool") (by rfl) Z.m_bool (by decide +kernel) rfl) pa_nil))) (pe_one (pe_cmpR op_eq (pv 0) (pv 1) (nomark _)))))) pss_nil)
        (pss_cons ps_never (pss_one ps_never)))), ?_⟩
      have ty : TyX K H (.bl b) (.type "bool") := .base (.bl b)
      refine ⟨_, rfl, _, _, _, _, _, rfl, ClsV.ty _, ty, kit_ty (by decide +kernel), false, rfl, iteF ⟨_, rfl, _, _, _, _, _, rfl, ClsV.ty _, ty, kit_ty (by decide +kernel), false, rfl, iteF ?_⟩⟩
      refine ⟨_, rfl, false, rfl, iteF ?_⟩
      refine ⟨_, rfl, _, _, _, _, _, rfl, ClsV.ty _, ty, kit_ty (by decide +kernel), true, rfl, iteT ?_⟩
      refine ⟨_, rfl, _, _, _, _, _, rfl, ClsV.ty _, ty, kit_ty (by decide +kernel), true, rfl, iteT ?_⟩
      refine ⟨_, rfl, _, rfl, rfl, ?_⟩
      rw [decide_eq_true rfl]
      exact q
    | non n =>
      refine ⟨_, pss_cons (ps_if (PW.pt (pw_or (pt_val (pe_callB call_isi (by rfl) Z.m_isinstance (by decide +kernel) (pa_cons (pv 1) (pa_cons (pe_bltn (u := .type "tuple") (v := .ty "tuple") (by rfl) Z.m_tuple (by decide +kernel) rfl) pa_nil)))) (pw_or1 (pt_val (pe_callB call_isi (by rfl) Z.m_isinstance (by decide +kernel) (pa_cons (pv 1) (pa_cons (pe_bltn (u := .type "list") (v := .ty "list") (by rfl) Z.m_list (by decide +kernel) rfl) pa_nil))))))) (pss_cons ps_never (pss_cons ps_never (pss_cons ps_never (pss_one ps_never)))) pss_nil)
        (pss_cons (ps_if (pt_cmp (pc_isN (pv 1))) (pss_one (ps_ret (pe_cmp (pc_isN (pv 0))))) pss_nil)
        (pss_cons ps_never (pss_cons ps_never (pss_one ps_never)))), ?_⟩
      have ty : TyX K H .non (.type "NoneType") := .base .non
      refine ⟨_, rfl, _, _, _, _, _, rfl, ClsV.ty _, ty, kit_ty (by decide +kernel), false, rfl, iteF ⟨_, rfl, _, _, _, _, _, rfl, ClsV.ty _, ty, kit_ty (by decide +kernel), false, rfl, iteF ?_⟩⟩
      refine ⟨_, rfl, true, rfl, iteT ?_⟩
      exact ⟨_, rfl, q⟩
    | @tup n a b xs ys ha hb hl hm hh =>
      refine ⟨_, pss_cons (ps_if (PW.pt (pw_or (pt_val (pe_callB call_isi (by rfl) Z.m_isinstance (by decide +kernel) (pa_cons (pv 1) (pa_cons (pe_bltn (u := .type "tuple") (v := .ty "tuple") (by rfl) Z.m_tuple (by decide +kernel) rfl) pa_nil)))) (pw_or1 (pt_val (pe_callB call_isi (by rfl) Z.m_isinstance (by decide +kernel) (pa_cons (pv 1) (pa_cons (pe_bltn (u := .type "list") (v := .ty "list") (by rfl) Z.m_list (by decide +kernel) rfl) pa_nil)))))))
        (pss_cons (ps_if (PW.pt (pw_or (pt_cmpR op_ne (pe_callB call_isi (by rfl) Z.m_isinstance (by decide +kernel) (pa_cons (pv 1) (pa_cons (pe_bltn (u := .type "tuple") (v := .ty "tuple") (by rfl) Z.m_tuple (by decide +kernel) rfl) pa_nil))) (pe_callB call_isi (by rfl) Z.m_isinstance (by decide +kernel) (pa_cons (pv 0) (pa_cons (pe_bltn (u := .type "tuple") (v := .ty "tuple") (by rfl) Z.m_tuple (by decide +kernel) rfl) pa_nil))) (nomark _)) (pw_or1 (pt_cmpR op_ne (pe_callB call_isi (by rfl) Z.m_isinstance (by decide +kernel) (pa_cons (pv 1) (pa_cons (pe_bltn (u := .type "list") (v := .ty "list") (by rfl) Z.m_list (by decide +kernel) rfl) pa_nil))) (pe_callB call_isi (by rfl) Z.m_isinstance (by decide +kernel) (pa_cons (pv 0) (pa_cons (pe_bltn (u := .type "list") (v := .ty "list") (by rfl) Z.m_list (by decide +kernel) rfl) pa_nil))) (nomark _))))) (pss_one ps_never) pss_nil)
          (pss_cons (ps_if (pt_cmpR op_ne (pe_callB call_len_seq (by rfl) Z.m_len PySem.boot_len (pa_cons (pv 0) pa_nil)) (pe_callB call_len_seq (by rfl) Z.m_len PySem.boot_len (pa_cons (pv 1) pa_nil)) (nomark _)) (pss_one ps_never) pss_nil)
          (pss_cons (ps_for PassesOwn.never rfl (pi_range1 rfl Z.m_range (pa_cons (pe_callB call_len_seq (by rfl) Z.m_len PySem.boot_len (pa_cons (pv 1) pa_nil)) pa_nil)) (pg_name (i := 2) nd rfl (.inl rfl))
            (pss_one (ps_if (pt_not (pt_val (pe_call (G _ rfl) hr (by rfl) gS F.kp bS .nil pass0 (pa_cons (pe_ix ix_tup (pv 0) (pv 2) (fun _ _ => rfl)) (pa_cons (pe_ix ix_tup (pv 1) (pv 2) (fun _ _ => rfl)) pa_nil))))) (pss_one ps_never) pss_nil)))
          (pss_one (ps_ret pe_bl))))) pss_nil)
        (pss_cons ps_never (pss_cons ps_never (pss_cons ps_never (pss_one ps_never)))), ?_⟩
      have ty0 : TyX K H (.ref a) (.type "tuple") := .base (.tup ha)
      have ty1 : TyX K H (.ref b) (.type "tuple") := .base (.tup hb)
      refine ⟨_, rfl, _, _, _, _, _, rfl, ClsV.ty _, ty1, kit_ty (b := "tuple") (r := true) (by decide +kernel), true, rfl, iteT ?_⟩
      refine ⟨_, rfl, _, _, _, _, _, rfl, ClsV.ty _, ty1, kit_ty (b := "tuple") (r := true) (by decide +kernel), _, rfl, _, _, _, _, _, rfl, ClsV.ty _, ty0, kit_ty (b := "tuple") (r := true) (by decide +kernel), rfl, false, rfl, iteF ⟨_, rfl, _, _, _, _, _, rfl, ClsV.ty _, ty1, kit_ty (b := "list") (r := false) (by decide +kernel), _, rfl, _, _, _, _, _, rfl, ClsV.ty _, ty0, kit_ty (b := "list") (r := false) (by decide +kernel), rfl, false, rfl, iteF ?_⟩⟩
      refine ⟨_, rfl, _, _, rfl, .inr (SqT.of ha), _, rfl, _, _, rfl, .inr (SqT.of hb), rfl, _, rfl, ?_⟩
      rw [hl, decide_eq_true rfl]
      refine iteF ⟨_, rfl, _, _, rfl, .inr (SqT.of hb), _, rfl, by omega, by omega, ?_⟩
      refine for_range (lo := 0) (n := ys.length) (fun i σ H' => H' = H ∧ ∃ y2 : Option V, σ = [some (.ref a), some (.ref b), y2]) ⟨rfl, _, rfl⟩ (fun i σ H' hi hP => ?_) (fun σ H' hP => ?_)
      · obtain ⟨rfl, y2, rfl⟩ := hP
        have g1 : xs[i]? = some xs[i] := List.getElem?_eq_getElem (by omega)
        have g2 : ys[i]? = some ys[i] := List.getElem?_eq_getElem hi
        have e0 : (0 : Int) + (i : Int) = ((i : Nat) : Int) := Int.zero_add _
        rw [e0]
        exact ⟨_, rfl, _, rfl, _, _, _, _, rfl, rfl, SqT.of ha, atI_nat g1, _, rfl, _, rfl, _, _, _, _, rfl, rfl, SqT.of hb, atI_nat g2, _, _, rfl, hh i _ _ g1 g2, true, rfl, iteF ⟨rfl, _, rfl⟩⟩
      · obtain ⟨rfl, y2, rfl⟩ := hP
        exact q
    | @lst n a b xs ys ha hb hl hm hh =>
      refine ⟨_, pss_cons (ps_if (PW.pt (pw_or (pt_val (pe_callB call_isi (by rfl) Z.m_isinstance (by decide +kernel) (pa_cons (pv 1) (pa_cons (pe_bltn (u := .type "tuple") (v := .ty "tuple") (by rfl) Z.m_tuple (by decide +kernel) rfl) pa_nil)))) (pw_or1 (pt_val (pe_callB call_isi (by rfl) Z.m_isinstance (by decide +kernel) (pa_cons (pv 1) (pa_cons (pe_bltn (u := .type "list") (v := .ty "list") (by rfl) Z.m_list (by decide +kernel) rfl) pa_nil)))))))
        (pss_cons (ps_if (PW.pt (pw_or (pt_cmpR op_ne (pe_callB call_isi (by rfl) Z.m_isinstance (by decide +kernel) (pa_cons (pv 1) (pa_cons (pe_bltn (u := .type "tuple") (v := .ty "tuple") (by rfl) Z.m_tuple (by decide +kernel) rfl) pa_nil))) (pe_callB call_isi (by rfl) Z.m_isinstance (by decide +kernel) (pa_cons (pv 0) (pa_cons (pe_bltn (u := .type "tuple") (v := .ty "tuple") (by rfl) Z.m_tuple (by decide +kernel) rfl) pa_nil))) (nomark _)) (pw_or1 (pt_cmpR op_ne (pe_callB call_isi (by rfl) Z.m_isinstance (by decide +kernel) (pa_cons (pv 1) (pa_cons (pe_bltn (u := .type "list") (v := .ty "list") (by rfl) Z.m_list (by decide +kernel) rfl) pa_nil))) (pe_callB call_isi (by rfl) Z.m_isinstance (by decide +kernel) (pa_cons (pv 0) (pa_cons (pe_bltn (u := .type "list") (v := .ty "list") (by rfl) Z.m_list (by decide +kernel) rfl) pa_nil))) (nomark _))))) (pss_one ps_never) pss_nil)
          (pss_cons (ps_if (pt_cmpR op_ne (pe_callB call_len_seq (by rfl) Z.m_len PySem.boot_len (pa_cons (pv 0) pa_nil)) (pe_callB call_len_seq (by rfl) Z.m_len PySem.boot_len (pa_cons (pv 1) pa_nil)) (nomark _)) (pss_one ps_never) pss_nil)
          (pss_cons (ps_for PassesOwn.never rfl (pi_range1 rfl Z.m_range (pa_cons (pe_callB call_len_seq (by rfl) Z.m_len PySem.boot_len (pa_cons (pv 1) pa_nil)) pa_nil)) (pg_name (i := 2) nd rfl (.inl rfl))
            (pss_one (ps_if (pt_not (pt_val (pe_call (G _ rfl) hr (by rfl) gS F.kp bS .nil pass0 (pa_cons (pe_ix ix_list (pv 0) (pv 2) (fun _ _ => rfl)) (pa_cons (pe_ix ix_list (pv 1) (pv 2) (fun _ _ => rfl)) pa_nil))))) (pss_one ps_never) pss_nil)))
          (pss_one (ps_ret pe_bl))))) pss_nil)
        (pss_cons ps_never (pss_cons ps_never (pss_cons ps_never (pss_one ps_never)))), ?_⟩
      have ty0 : TyX K H (.ref a) (.type "list") := .base (.lst ha)
      have ty1 : TyX K H (.ref b) (.type "list") := .base (.lst hb)
      refine ⟨_, rfl, _, _, _, _, _, rfl, ClsV.ty _, ty1, kit_ty (b := "tuple") (r := false) (by decide +kernel), false, rfl, iteF ⟨_, rfl, _, _, _, _, _, rfl, ClsV.ty _, ty1, kit_ty (b := "list") (r := true) (by decide +kernel), true, rfl, iteT ?_⟩⟩
      refine ⟨_, rfl, _, _, _, _, _, rfl, ClsV.ty _, ty1, kit_ty (b := "tuple") (r := false) (by decide +kernel), _, rfl, _, _, _, _, _, rfl, ClsV.ty _, ty0, kit_ty (b := "tuple") (r := false) (by decide +kernel), rfl, false, rfl, iteF ⟨_, rfl, _, _, _, _, _, rfl, ClsV.ty _, ty1, kit_ty (b := "list") (r := true) (by decide +kernel), _, rfl, _, _, _, _, _, rfl, ClsV.ty _, ty0, kit_ty (b := "list") (r := true) (by decide +kernel), rfl, false, rfl, iteF ?_⟩⟩
      refine ⟨_, rfl, _, _, rfl, .inl (SqL.of ha), _, rfl, _, _, rfl, .inl (SqL.of hb), rfl, _, rfl, ?_⟩
      rw [hl, decide_eq_true rfl]
      refine iteF ⟨_, rfl, _, _, rfl, .inl (SqL.of hb), _, rfl, by omega, by omega, ?_⟩
      refine for_range (lo := 0) (n := ys.length) (fun i σ H' => H' = H ∧ ∃ y2 : Option V, σ = [some (.ref a), some (.ref b), y2]) ⟨rfl, _, rfl⟩ (fun i σ H' hi hP => ?_) (fun σ H' hP => ?_)
      · obtain ⟨rfl, y2, rfl⟩ := hP
        have g1 : xs[i]? = some xs[i] := List.getElem?_eq_getElem (by omega)
        have g2 : ys[i]? = some ys[i] := List.getElem?_eq_getElem hi
        have e0 : (0 : Int) + (i : Int) = ((i : Nat) : Int) := Int.zero_add _
        rw [e0]
        exact ⟨_, rfl, _, rfl, _, _, _, _, rfl, rfl, SqL.of ha, atI_nat g1, _, rfl, _, rfl, _, _, _, _, rfl, rfl, SqL.of hb, atI_nat g2, _, _, rfl, hh i _ _ g1 g2, true, rfl, iteF ⟨rfl, _, rfl⟩⟩
      · obtain ⟨rfl, y2, rfl⟩ := hP
        exact q

/-- all but p is as it was, and there may be more -/
def Keep (p : Addr) (H H' : Hp) : Prop := ∀ x o, x ≠ p → H x = some o → H' x = some o
theorem But.keep {p : Addr} {H H' : Hp} (h : But p H H') : Keep p H H' := fun x o n e => (h.1 x n).trans e
theorem Keep.trans {p : Addr} {H H1 H2 : Hp} (a : Keep p H H1) (b : Keep p H1 H2) : Keep p H H2 := fun x o n e => b x o n (a x o n e)
theorem Keep.refl (p : Addr) (H : Hp) : Keep p H H := fun _ _ _ e => e
theorem Same.keep {p : Addr} {H H' : Hp} (h : Same H H') : Keep p H H' := fun x o _ e => h x o e
theorem Pl.lst {H : Hp} {p : Addr} (h : Pl H p) : ∃ xs, H p = some (.lst xs) := by
  obtain ⟨q, ns, a, b, c, d, e, _⟩ := h
  exact ⟨_, e⟩
theorem Pl.ne {H : Hp} {p x : Addr} {ys : List V} (h : Pl H p) (hx : H x = some (.tup ys)) : x ≠ p := by
  obtain ⟨xs, e⟩ := h.lst
  exact ne_of hx e (fun z => nomatch z)
theorem Pl.same {H H' : Hp} {p : Addr} (h : Pl H p) (s : Same H H') : Pl H' p := by
  obtain ⟨q, ns, a, b, c, d, e, e2, n⟩ := h
  exact ⟨q, ns, a, b, c, d, s _ _ e, s _ _ e2, n⟩
/-- a pool whose list stands at q -/
def Plq (H : Hp) (p q : Addr) : Prop := ∃ (ns : List Int) (a : Nat) (b c d : Int), H p = some (.lst [.ref q, .int a, .int b, .int c, .int d]) ∧ H q = some (.lst (ns.map V.int)) ∧ q ≠ p
theorem Pl.q {H : Hp} {p : Addr} (h : Pl H p) : ∃ q, Plq H p q := h
theorem Plq.pl {H : Hp} {p q : Addr} (h : Plq H p q) : Pl H p := ⟨q, h⟩
theorem Plq.but {H H' : Hp} {p q : Addr} (h : Plq H p q) (hB : But p H H') (h' : Pl H' p) : Plq H' p q := by
  obtain ⟨ns, a, b, c, d, e, e2, n⟩ := h
  obtain ⟨l, hl⟩ := hB.2 q ⟨_, e⟩
  obtain ⟨q2, ns2, a2, b2, c2, d2, f, f2, n2⟩ := h'
  have := hl.symm.trans f
  injection this with this
  injection this with this
  injection this with this
  injection this with this
  subst this
  exact ⟨ns2, a2, b2, c2, d2, f, f2, n2⟩
theorem Plq.upd {H : Hp} {p q D : Addr} {o : HO} (h : Plq H p q) (h1 : p ≠ D) (h2 : q ≠ D) : Plq (upd H D o) p q := by
  obtain ⟨ns, a, b, c, d, e, e2, n⟩ := h
  exact ⟨ns, a, b, c, d, by rw [upd_ne h1]; exact e, by rw [upd_ne h2]; exact e2, n⟩
theorem Plq.same {H H' : Hp} {p q : Addr} (h : Plq H p q) (s : Same H H') : Plq H' p q := by
  obtain ⟨ns, a, b, c, d, e, e2, n⟩ := h
  exact ⟨ns, a, b, c, d, s _ _ e, s _ _ e2, n⟩
theorem Plq.ne_free {H : Hp} {p q D : Addr} (h : Plq H p q) (n : H D = none) : p ≠ D ∧ q ≠ D := by
  obtain ⟨ns, a, b, c, d, e, e2, _⟩ := h
  exact ⟨ne_of_none e n, ne_of_none e2 n⟩

theorem cmul {x y : Int} {a b : Nat} (ha : x.natAbs < 2 ^ a) (hb : y.natAbs < 2 ^ b) (h0 : 0 < a := by decide) (h1 : 0 < b := by decide) (h : a + b ≤ 1000000 := by decide) : CMulW x y := wide_mul ha hb h0 h1 h

/-! ### vectors: tuples of ints -/
/-- the greatest common divisor of a list -/
def gl (ns : List Int) : Int := ns.foldl g2 0
theorem g2_max {c x : Int} {B : Nat} (hc : c.natAbs < B) (hx : x.natAbs < B) : (g2 c x).natAbs < B := by
  by_cases h : x = 0
  · subst h
    unfold g2
    rw [show (0 : Int).natAbs = 0 from rfl, Nat.gcd_zero_right]
    omega
  · exact Nat.lt_of_le_of_lt (g2_le h) hx
theorem g2_nn (a b : Int) : 0 ≤ g2 a b := by
  unfold g2
  omega
theorem gl_step {ns : List Int} {i : Nat} {x : Int} (h : ns[i]? = some x) : gl (ns.take (i + 1)) = g2 (gl (ns.take i)) x := by
  unfold gl
  rw [List.take_add_one, h, List.foldl_append]
  rfl
theorem gl_lim {ns : List Int} {B : Nat} (h0 : 0 < B) (h : ∀ n ∈ ns, n.natAbs < B) : (gl ns).natAbs < B := by
  unfold gl
  have : ∀ (l : List Int) (c : Int), c.natAbs < B → (∀ n ∈ l, n.natAbs < B) → (l.foldl g2 c).natAbs < B := by
    intro l
    induction l with
    | nil => intro c hc _; exact hc
    | cons x r ih =>
      intro c hc hl
      exact ih _ (g2_max hc (hl x List.mem_cons_self)) fun n hn => hl n (List.mem_cons_of_mem _ hn)
  exact this ns 0 (by show 0 < B; exact h0) h
theorem gl_nn (ns : List Int) : 0 ≤ gl ns := by
  unfold gl
  have : ∀ (l : List Int) (c : Int), 0 ≤ c → 0 ≤ l.foldl g2 c := by
    intro l
    induction l with
    | nil => intro c hc; exact hc
    | cons x r ih => intro c _; exact ih _ (g2_nn _ _)
  exact this ns 0 (Int.le_refl 0)
theorem gl_take_lim {ns : List Int} {B i : Nat} (h0 : 0 < B) (h : ∀ n ∈ ns, n.natAbs < B) : (gl (ns.take i)).natAbs < B := gl_lim h0 fun n hn => h n (List.mem_of_mem_take hn)
def prim (ns : List Int) : List Int := if gl ns = 0 then ns else ns.map (· / gl ns)
def dotz (ns ms : List Int) : List Int := (ns.zip ms).map fun p => p.1 * p.2
theorem prim_len (ns : List Int) : (prim ns).length = ns.length := by
  unfold prim
  split
  · rfl
  · rw [List.length_map]
theorem map_get {ns : List Int} {i : Nat} {x : V} (h : (ns.map V.int)[i]? = some x) : ∃ n, ns[i]? = some n ∧ x = .int n := by
  rw [List.getElem?_map] at h
  cases e : ns[i]? with
  | none => rw [e] at h; cases h
  | some n => rw [e] at h; exact ⟨n, rfl, (Option.some.inj h).symm⟩
theorem get_map {ns : List Int} {i : Nat} {n : Int} (h : ns[i]? = some n) : (ns.map V.int)[i]? = some (.int n) := by
  rw [List.getElem?_map, h]
  rfl
theorem lt_of_get {α : Type} {xs : List α} {i : Nat} {x : α} (h : xs[i]? = some x) : i < xs.length := (List.getElem?_eq_some_iff.mp h).1
/-- the vector at a -/
def Vc (H : Hp) (a : Addr) (ns : List Int) : Prop := H a = some (.tup (ns.map V.int))
theorem vc_alike {H : Hp} {a b : Addr} {ns : List Int} (n : Nat) (ha : Vc H a ns) (hb : Vc H b ns) (hl : ns.length ≤ 1000) : Alike H (n + 1) (.ref a) (.ref b) :=
  .tup ha hb rfl (by rw [List.length_map]; omega) fun i x y h1 h2 => by
    have e := Option.some.inj (h1.symm.trans h2)
    subst e
    obtain ⟨m, _, rfl⟩ := map_get h1
    exact .int n m
theorem Vc.ne {H : Hp} {p a : Addr} {ns : List Int} (h : Vc H a ns) (hp : Pl H p) : a ≠ p := hp.ne h
theorem Vc.keep {H H' : Hp} {p a : Addr} {ns : List Int} (h : Vc H a ns) (hp : Pl H p) (k : Keep p H H') : Vc H' a ns := k _ _ (h.ne hp) h
theorem Vc.same {H H' : Hp} {a : Addr} {ns : List Int} (h : Vc H a ns) (k : Same H H') : Vc H' a ns := k _ _ h
theorem dotz_get {ns ms : List Int} {i : Nat} {x y : Int} (h1 : ns[i]? = some x) (h2 : ms[i]? = some y) : (dotz ns ms)[i]? = some (x * y) := by
  unfold dotz
  rw [List.getElem?_map, List.getElem?_zip_eq_some (z := (x, y)) |>.mpr ⟨h1, h2⟩]
  rfl
theorem dotz_len {ns ms : List Int} (h : ns.length = ms.length) : (dotz ns ms).length = ns.length := by
  unfold dotz
  rw [List.length_map, List.length_zip, h, Nat.min_self]
theorem take_get {α : Type} {xs : List α} {i : Nat} {x : α} (h : xs[i]? = some x) : xs.take (i + 1) = xs.take i ++ [x] := by
  rw [List.take_add_one, h]
  rfl

/-! ### walks of a list or a tuple -/
section
variable {X : Cx}
theorem PI.or {tg iter : Expr} {w1 w2 : TI} (h1 : PI X tg iter w1) (h2 : PI X tg iter w2) : PI X tg iter (fun σ H R => w1 σ H R ∨ w2 σ H R) := ⟨fun pins s σ H R I h => by
  rcases h with h | h
  · exact h1.run pins s σ H R I h
  · exact h2.run pins s σ H R I h⟩
theorem OpR.or {f : Value → Value → Sem Value} {r1 r2 : R2} (h1 : OpR X f r1) (h2 : OpR X f r2) : OpR X f (fun x y H Q => r1 x y H Q ∨ r2 x y H Q) := by
  intro pins s σ H x y v u Q I rx ry q
  rcases q with q | q
  · exact h1 pins s σ H x y v u Q I rx ry q
  · exact h2 pins s σ H x y v u Q I rx ry q
end

/-- at a stands a tuple (true) or a list -/
def Tk (k : Bool) (H : Hp) (a : Addr) (xs : List V) : Prop := match k with
  | true => H a = some (.tup xs)
  | false => H a = some (.lst xs)
theorem Tk.same {k : Bool} {H H' : Hp} {a : Addr} {xs : List V} (h : Tk k H a xs) (s : Same H H') : Tk k H' a xs := by
  cases k <;> exact s _ _ h
theorem Tk.sk {K : PySem.W.Frag} {k : Bool} {H : Hp} {a : Addr} {xs : List V} (h : Tk k H a xs) : Sk K k H a xs := by
  cases k with
  | true => exact SqT.of h
  | false => exact SqL.of h
abbrev s__law_prim : Stmt := topS 35
theorem sc__law_prim : FnScope ["v", "common", "a"] ["v"] (defScope s__law_prim) := ⟨rfl, rfl, rfl, by decide +kernel, rfl, by decide +kernel, by decide +kernel⟩
def spPrimK : Sp := fun vs H Q _ => ∃ (k : Bool) (a : Addr) (ns : List Int), vs = [.ref a] ∧ Tk k H a (ns.map V.int) ∧ ns.length ≤ 1000 ∧ (∀ n ∈ ns, n.natAbs < 2 ^ 395) ∧ ∀ (H' : Hp) (r : Addr), Same H H' → Vc H' r (prim ns) → Q (.ref r) H'
theorem ok_lprimK {f : Addr} {fd : FuncData} {k : Nat} (F : Fun K "_law_prim" "_law_prim" s__law_prim f fd) (Z : Glb mg)
    (C_law_gcd : Call P w K mg base k "_law_gcd" ["a", "b"] spGcd) : FnOk P w K mg base CX0 (k + 1) f fd ["v"] spPrimK := by
  refine F.ok sc__law_prim (fun vs H Q E h => ?_) (fun cdv A outer s H vs Q E hr h => ?_)
  · obtain ⟨kd, a, ns, rfl, _⟩ := h
    rfl
  · obtain ⟨kd, a, ns, rfl, hv, hl, hB, q⟩ := h
    refine ⟨_, (pss_cons (ps_set (i := 1) sc__law_prim.nd rfl (.inr rfl) pe_int)
      (pss_cut (ps_for PassesOwn.never rfl (PI.or (pi_list (pv 0)) (pi_tup (pv 0))) (pg_name (i := 2) sc__law_prim.nd rfl (.inl rfl)) (pss_one (ps_set (i := 1) sc__law_prim.nd rfl (.inr rfl) (pe_call C_law_gcd.G hr (by rfl) C_law_gcd.m C_law_gcd.kp C_law_gcd.b .nil pass0 (pa_cons (pv 1) (pa_cons (pv 2) pa_nil))))))
      (pss_cons (ps_if (pt_cmpR op_eq (pv 1) pe_int (nomark _)) (pss_one (ps_ret (pe_callTy call_tuple_of (by rfl) Z.m_tuple (by decide +kernel) (pa_cons (pv 0) pa_nil)))) pss_nil)
      (pss_one (ps_ret (pe_callTy call_tuple_of (by rfl) Z.m_tuple (by decide +kernel) (pa_cons (pe_lc (own := [("a", 2)]) (g := gName 2) (tt := tYes) (by rfl) sc__law_prim.nd (PI.or (pi_list (pv 0)) (pi_tup (pv 0))) (blkOk_by (own := [("a", 2)]) (N := ["v", "common", "a"]) (sc := defScope s__law_prim) (by first | decide +kernel | kernel_rfl)) (fun _ _ _ _ _ => (pg_name (i := 2) sc__law_prim.nd rfl (.inl rfl))) (fun _ _ _ _ _ => pts_nil) (fun _ _ _ _ _ => (pe_op op_fdivW (pv 2) (pv 1)))) pa_nil))))))), ?_⟩
    -- common
    refine ⟨fun σ H' => ∃ y2 : Option V, H = H' ∧ σ = [some (.ref a), some (.int (gl ns)), y2], ?_, ?_⟩
    · cases kd with
      | true =>
        refine .inr ⟨_, rfl, a, rfl, ⟨_, SqT.of hv⟩, ?_⟩
        refine for_tup (xs := ns.map V.int) (fun i σ H' => H = H' ∧ ∃ y2 : Option V, σ = [some (.ref a), some (.int (gl (ns.take i))), y2]) ⟨rfl, _, rfl⟩ (fun i σ H' _ hP => by obtain ⟨rfl, _⟩ := hP; exact SqT.of hv) (fun i x σ H' hx hP => ?_) (fun σ H' hP => ?_)
        · obtain ⟨rfl, y2, rfl⟩ := hP
          obtain ⟨n, hn, rfl⟩ := map_get hx
          refine ⟨_, rfl, _, rfl, _, _, rfl, hB n (List.mem_of_getElem? hn), rfl, some (.int n), ?_⟩
          rw [gl_step hn]
          rfl
        · obtain ⟨rfl, y2, rfl⟩ := hP
          rw [List.length_map, List.take_length]
          exact ⟨_, rfl, rfl⟩
      | false =>
        refine .inl ⟨_, rfl, a, rfl, ⟨_, SqL.of hv⟩, ?_⟩
        refine for_list (xs := ns.map V.int) (fun i σ H' => H = H' ∧ ∃ y2 : Option V, σ = [some (.ref a), some (.int (gl (ns.take i))), y2]) ⟨rfl, _, rfl⟩ (fun i σ H' _ hP => by obtain ⟨rfl, _⟩ := hP; exact SqL.of hv) (fun i x σ H' hx hP => ?_) (fun σ H' hP => ?_)
        · obtain ⟨rfl, y2, rfl⟩ := hP
          obtain ⟨n, hn, rfl⟩ := map_get hx
          refine ⟨_, rfl, _, rfl, _, _, rfl, hB n (List.mem_of_getElem? hn), rfl, some (.int n), ?_⟩
          rw [gl_step hn]
          rfl
        · obtain ⟨rfl, y2, rfl⟩ := hP
          rw [List.length_map, List.take_length]
          exact ⟨_, rfl, rfl⟩
    intro σ H' hW
    obtain ⟨y2, rfl, rfl⟩ := hW
    refine ⟨_, rfl, rfl, _, rfl, ite2 (fun e => ?_) (fun e => ?_)⟩
    · have e0 : gl ns = 0 := V.int.inj (of_decide_eq_true e)
      have ep : prim ns = ns := if_pos e0
      refine ⟨_, rfl, a, ns.map V.int, rfl, ?_⟩
      cases kd with
      | true =>
        refine .inr ⟨SqT.of hv, q _ _ (Same.refl _) ?_⟩
        rw [ep]
        exact hv
      | false =>
        refine .inl ⟨SqL.of hv, fun l nl => q _ _ (same_upd nl) ?_⟩
        rw [ep]
        exact upd_same
    · have e0 : gl ns ≠ 0 := fun z => e (decide_eq_true (by rw [z]))
      have ep : prim ns = ns.map (· / gl ns) := if_neg e0
      have cd : ∀ x : Int, CDivW x (gl ns) := fun x => wide_div (by have := gl_nn ns; omega) (gl_lim (by decide) hB) (by decide) (by decide)
      have room : ∀ i, (((prim ns).take i).map V.int).length < sizeLine := fun i => by
        rw [List.length_map, List.length_take]
        exact Nat.lt_of_le_of_lt (Nat.min_le_right _ _) (small1000 (by rw [prim_len]; exact hl))
      have next : ∀ (i : Nat) (n : Int) (H0 : Hp) (D : Addr), ns[i]? = some n → upd (upd H0 D (.lst (((prim ns).take i).map V.int))) D (.lst (((prim ns).take i).map V.int ++ [.int (n / gl ns)])) = upd H0 D (.lst (((prim ns).take (i + 1)).map V.int)) := fun i n H0 D hn => by
        have hg : (prim ns)[i]? = some (n / gl ns) := by
          rw [ep, List.getElem?_map, hn]
          rfl
        rw [upd_upd, take_get hg, List.map_append]
        rfl
      have last : ∀ (D : Addr) (H' : Hp), (∃ H0, Same H H0 ∧ H0 D = none ∧ H' = upd H0 D (.lst (((prim ns).take (ns.map V.int).length).map V.int))) →
          ∃ p ys, [V.ref D] = [.ref p] ∧ ((SqL K H' p ys ∧ ∀ l, H' l = none → Q (.ref l) (upd H' l (.tup ys))) ∨ (SqT K H' p ys ∧ Q (.ref p) H')) := fun D H' h => by
        obtain ⟨H0, s0, n0, rfl⟩ := h
        rw [List.length_map, show ns.length = (prim ns).length from (prim_len ns).symm, List.take_length]
        exact ⟨D, _, rfl, .inl ⟨SqL.of upd_same, fun l nl => q _ _ ((s0.trans (same_upd n0)).trans (same_upd nl)) upd_same⟩⟩
      cases kd with
      | true =>
        refine .inr ⟨_, rfl, a, rfl, ⟨_, SqT.of hv⟩, fun D nD => ?_⟩
        refine lc_tup (xs := ns.map V.int) (fun i H' => ∃ H0, Same H H0 ∧ H0 D = none ∧ H' = upd H0 D (.lst (((prim ns).take i).map V.int))) ⟨H, Same.refl _, nD, rfl⟩ (fun i H' _ hP => ?_) (fun i x H' hx hP => ?_) (fun H' hP => ?_)
        · obtain ⟨H0, s0, n0, rfl⟩ := hP
          exact SqT.of ((s0.trans (same_upd n0)) _ _ hv)
        · obtain ⟨H0, s0, n0, rfl⟩ := hP
          obtain ⟨n, hn, rfl⟩ := map_get hx
          refine ⟨rfl, ?_⟩
          unfold tYes
          refine iteT ?_
          exact ⟨_, rfl, _, rfl, _, _, rfl, rfl, cd n, _, upd_same, room i, H0, s0, n0, next i n H0 D hn⟩
        · exact last D H' hP
      | false =>
        refine .inl ⟨_, rfl, a, rfl, ⟨_, SqL.of hv⟩, fun D nD => ?_⟩
        refine lc_list (xs := ns.map V.int) (fun i H' => ∃ H0, Same H H0 ∧ H0 D = none ∧ H' = upd H0 D (.lst (((prim ns).take i).map V.int))) ⟨H, Same.refl _, nD, rfl⟩ (fun i H' _ hP => ?_) (fun i x H' hx hP => ?_) (fun H' hP => ?_)
        · obtain ⟨H0, s0, n0, rfl⟩ := hP
          exact SqL.of ((s0.trans (same_upd n0)) _ _ hv)
        · obtain ⟨H0, s0, n0, rfl⟩ := hP
          obtain ⟨n, hn, rfl⟩ := map_get hx
          refine ⟨rfl, ?_⟩
          unfold tYes
          refine iteT ?_
          exact ⟨_, rfl, _, rfl, _, _, rfl, rfl, cd n, _, upd_same, room i, H0, s0, n0, next i n H0 D hn⟩
        · exact last D H' hP

/-! ### fractions with positive divisors -/
/-- r holds the pair n, d, d > 0, both below 2 ^ B -/
def Fr (H : Hp) (r : Addr) (n d : Int) (B : Nat) : Prop := H r = some (.tup [.int n, .int d]) ∧ 0 < d ∧ n.natAbs < 2 ^ B ∧ d.natAbs < 2 ^ B
theorem Fr.up {H : Hp} {r : Addr} {n d : Int} {B C : Nat} (h : Fr H r n d B) (l : B ≤ C) : Fr H r n d C := ⟨h.1, h.2.1, up_pow h.2.2.1 l, up_pow h.2.2.2 l⟩
theorem Fr.mk {H : Hp} {p : Addr} {a b : Int} {B : Nat} (hb : 0 < b) (ha : a.natAbs < 2 ^ B) (hb2 : b.natAbs < 2 ^ B) : Fr (upd H p (.tup [.int (frN a b), .int (frD a b)])) p (frN a b) (frD a b) B :=
  ⟨upd_same, frD_pos hb, Nat.lt_of_le_of_lt (frN_abs (by omega)) ha, Nat.lt_of_le_of_lt (frD_abs (by omega)) hb2⟩
theorem Fr.same {H H' : Hp} {r : Addr} {n d : Int} {B : Nat} (h : Fr H r n d B) (s : Same H H') : Fr H' r n d B := ⟨s _ _ h.1, h.2⟩
theorem ints2 (a b : Int) : [V.int a, V.int b].length ≤ sizeLine := Nat.le_of_lt (small1000 (show 2 ≤ 1000 by decide))
theorem g2_lim {a b : Int} (hb : 0 < b) (hb2 : b.natAbs < 2 ^ 299) : (g2 a b).natAbs < 2 ^ 299 := Nat.lt_of_le_of_lt (g2_le (by omega)) hb2
def spFr : Sp := fun vs H Q _ => ∃ a b : Int, vs = [.int a, .int b] ∧ 0 < b ∧ a.natAbs < 2 ^ 299 ∧ b.natAbs < 2 ^ 299 ∧ ∀ p, H p = none → Q (.ref p) (upd H p (.tup [.int (frN a b), .int (frD a b)]))

abbrev s__law_frac : Stmt := topS 34
theorem sc__law_frac : FnScope ["a", "b", "common"] ["a", "b"] (defScope s__law_frac) := ⟨rfl, rfl, rfl, by decide +kernel, rfl, by decide +kernel, by decide +kernel⟩
theorem ok_lfrac {f : Addr} {fd : FuncData} {k : Nat} (F : Fun K "_law_frac" "_law_frac" s__law_frac f fd) (Z : Glb mg)
    (C_law_gcd : Call P w K mg base k "_law_gcd" ["a", "b"] spGcd) : FnOk P w K mg base CX0 (k + 1) f fd ["a", "b"] spFr := by
  refine F.ok sc__law_frac (fun vs H Q E h => ?_) (fun cdv A outer s H vs Q E hr h => ?_)
  · obtain ⟨a, b, rfl, _⟩ := h
    rfl
  · obtain ⟨a, b, rfl, hp, ha, hb, q⟩ := h
    refine ⟨_, (pss_cons (ps_set (i := 2) sc__law_frac.nd rfl (.inl rfl) (pe_call C_law_gcd.G hr (by rfl) C_law_gcd.m C_law_gcd.kp C_law_gcd.b .nil pass0 (pa_cons (pv 0) (pa_cons (pv 1) pa_nil))))
      (pss_cons (ps_if (pt_cmpR op_lt (pv 1) pe_int (nomark _)) (pss_one ps_never) pss_nil)
      (pss_one (ps_ret (pe_tup (pa_cons (pe_op op_fdivW (pv 0) (pv 2)) (pa_cons (pe_op op_fdivW (pv 1) (pv 2)) pa_nil))))))), ?_⟩
    have cd : CDivW b (g2 a b) := wide_div (g2_pos (by omega)) (g2_lim hp hb) (by decide) (by decide)
    refine ⟨_, rfl, _, rfl, a, b, rfl, up_pow hb (by decide), _, rfl, _, _, rfl, rfl, _, rfl, ?_⟩
    rw [decide_eq_false (by omega)]
    exact iteF ⟨_, rfl, _, rfl, _, _, rfl, rfl, cd, _, rfl, _, rfl, _, _, rfl, rfl, cd, ints2 _ _, q⟩

/-- two fractions: what the function puts together of their entries -/
def spTwo (g : Int → Int → Int → Int → Int × Int) : Sp := fun vs H Q _ => ∃ (x y : Addr) (a b c d : Int), vs = [.ref x, .ref y] ∧ Fr H x a b 140 ∧ Fr H y c d 140 ∧
  ∀ p, H p = none → Q (.ref p) (upd H p (.tup [.int (frN (g a b c d).1 (g a b c d).2), .int (frD (g a b c d).1 (g a b c d).2)]))

/-- all but p stands, and p has its head -/
structure Kp (p : Addr) (H H' : Hp) : Prop where
  k : Keep p H H'
  h : ∀ q, Hd H p q → Hd H' p q
theorem But.kp {p : Addr} {H H' : Hp} (h : But p H H') : Kp p H H' := ⟨h.keep, h.2⟩
theorem Same.kp {p : Addr} {H H' : Hp} (h : Same H H') : Kp p H H' := ⟨Same.keep h, fun q ⟨l, e⟩ => ⟨l, h _ _ e⟩⟩
theorem Kp.trans {p : Addr} {H H1 H2 : Hp} (a : Kp p H H1) (b : Kp p H1 H2) : Kp p H H2 := ⟨a.k.trans b.k, fun q h => b.h q (a.h q h)⟩
theorem Plq.hd {H : Hp} {p q : Addr} (h : Plq H p q) : Hd H p q := by
  obtain ⟨ns, a, b, c, d, e, _⟩ := h
  exact ⟨_, e⟩
theorem hd_inj {H : Hp} {p q r : Addr} (h : Hd H p q) (h' : Hd H p r) : q = r := by
  obtain ⟨l, e⟩ := h
  obtain ⟨l', e'⟩ := h'
  have := e.symm.trans e'
  injection this with this
  injection this with this
  injection this with this
  injection this
theorem Plq.kp {H H' : Hp} {p q : Addr} (h : Plq H p q) (k : Kp p H H') (h' : Pl H' p) : Plq H' p q := by
  obtain ⟨q2, e⟩ := h'.q
  rw [hd_inj (k.h _ h.hd) e.hd]
  exact e
/-- a comprehension over range whose turn draws: what it leaves -/
def Dr (p : Addr) (H : Hp) (D : Addr) (B : Nat) (i : Nat) (H' : Hp) : Prop := (∃ q, Plq H p q ∧ Plq H' p q ∧ q ≠ D) ∧ Keep p H H' ∧ ∃ ns : List Int, H' D = some (.lst (ns.map V.int)) ∧ ns.length = i ∧ ∀ n ∈ ns, n.natAbs < 2 ^ B
theorem dr0 {p D : Addr} {H : Hp} {B : Nat} (hp : Pl H p) (nD : H D = none) : Dr p H D B 0 (upd H D (.lst [])) := by
  obtain ⟨q, hq⟩ := hp.q
  exact ⟨⟨q, hq, hq.same (same_upd nD), (hq.ne_free nD).2⟩, Same.keep (same_upd nD), [], upd_same, rfl, fun n h => nomatch h⟩
theorem dr_step {p D : Addr} {H H' H2 : Hp} {B i : Nat} {n : Int} (nD : H D = none) (hP : Pl H p) (h : Dr p H D B i H') (hB : But p H' H2) (P2 : Pl H2 p) (hn : n.natAbs < 2 ^ B) :
    ∃ acc, H2 D = some (.lst acc) ∧ acc.length = i ∧ Dr p H D B (i + 1) (upd H2 D (.lst (acc ++ [.int n]))) := by
  obtain ⟨⟨q, hq0, hq, qD⟩, K1, ns, e, hl, hb⟩ := h
  have ne : D ≠ p := by
    obtain ⟨q0, h0⟩ := hP.q
    exact (h0.ne_free nD).1.symm
  refine ⟨ns.map V.int, (hB.1 D ne).trans e, by rw [List.length_map]; exact hl, ⟨q, hq0, (hq.but hB P2).upd ne.symm qD, qD⟩, ?_, ns ++ [n], ?_, ?_, ?_⟩
  · intro x o hx ho
    have hxD : x ≠ D := ne_of_none ho nD
    rw [upd_ne hxD]
    exact hB.keep _ _ hx (K1 _ _ hx ho)
  · rw [upd_same, List.map_append]
    rfl
  · rw [List.length_append, hl]
    rfl
  · intro m hm
    rcases List.mem_append.mp hm with h | h
    · exact hb m h
    · rw [List.mem_singleton.mp h]
      exact hn
theorem Dr.kp {p D : Addr} {H H' : Hp} {B i : Nat} (h : Dr p H D B i H') : Kp p H H' := by
  obtain ⟨⟨q, h1, h2, _⟩, k, _⟩ := h
  exact ⟨k, fun q' hq => by rw [hd_inj hq h1.hd]; exact h2.hd⟩

abbrev s__law_point : Stmt := topS 36
theorem sc__law_point : FnScope ["pool", "d", "most", "below", "k"] ["pool", "d", "most"] (defScope s__law_point) := ⟨rfl, rfl, rfl, by decide +kernel, rfl, by decide +kernel, by decide +kernel⟩
theorem gl_dvd {ns : List Int} {n : Int} (h : n ∈ ns) : gl ns ∣ n := by
  unfold gl
  have : ∀ (l : List Int) (c : Int), (l.foldl g2 c) ∣ c ∧ ∀ n ∈ l, (l.foldl g2 c) ∣ n := by
    intro l
    induction l with
    | nil => intro c; exact ⟨Int.dvd_refl _, fun n h => nomatch h⟩
    | cons x r ih =>
      intro c
      obtain ⟨h1, h2⟩ := ih (g2 c x)
      refine ⟨Int.dvd_trans h1 (g2_dvd_l c x), fun n hn => ?_⟩
      rcases List.mem_cons.mp hn with rfl | hn
      · exact Int.dvd_trans h1 (g2_dvd_r c n)
      · exact h2 n hn
  exact (this ns 0).2 n h
theorem gl_pos {ns : List Int} {n : Int} (h : n ∈ ns) (hn : n ≠ 0) : 0 < gl ns := by
  have h1 := gl_nn ns
  have h2 : gl ns ≠ 0 := fun z => by
    have := gl_dvd h
    rw [z] at this
    exact hn (Int.zero_dvd.mp this)
  omega
theorem prim_get {ns : List Int} {i : Nat} {n : Int} (h : ns[i]? = some n) (g : 0 < gl ns) : (prim ns)[i]? = some (n / gl ns) := by
  unfold prim
  rw [if_neg (by omega), List.getElem?_map, h]
  rfl
theorem prim_small {ns : List Int} {B : Nat} (h : ∀ n ∈ ns, n.natAbs ≤ B) : ∀ n ∈ prim ns, n.natAbs ≤ B := by
  unfold prim
  split
  · exact h
  · rename_i g
    intro n hn
    obtain ⟨m, hm, rfl⟩ := List.mem_map.mp hn
    exact Nat.le_trans (ediv_abs (by have := gl_nn ns; omega)) (h m hm)
theorem gl_cons (x : Int) (ns : List Int) : gl (x :: ns) = ((Nat.gcd x.natAbs (gl ns).natAbs : Nat) : Int) := by
  have key : ∀ (l : List Int) (c : Int), 0 ≤ c → l.foldl g2 c = ((Nat.gcd c.natAbs (l.foldl g2 0).natAbs : Nat) : Int) := by
    intro l
    induction l with
    | nil =>
      intro c hc
      show c = ((Nat.gcd c.natAbs 0 : Nat) : Int)
      rw [Nat.gcd_zero_right]
      omega
    | cons y r ih =>
      intro c hc
      show r.foldl g2 (g2 c y) = ((Nat.gcd c.natAbs (r.foldl g2 (g2 0 y)).natAbs : Nat) : Int)
      rw [ih _ (g2_nn c y), ih _ (g2_nn 0 y)]
      congr 1
      unfold g2
      simp only [Int.natAbs_natCast, Int.natAbs_zero, Nat.gcd_zero_left, Nat.gcd_assoc]
  unfold gl
  show ns.foldl g2 (g2 0 x) = _
  rw [key _ _ (g2_nn 0 x)]
  congr 1
  unfold g2
  simp only [Int.natAbs_natCast, Int.natAbs_zero, Nat.gcd_zero_left]
theorem gl_scale (a : Int) (ha : 0 ≤ a) : ∀ ns : List Int, gl (ns.map (a * ·)) = a * gl ns
  | [] => by
    show (0 : Int) = a * 0
    rw [Int.mul_zero]
  | n :: ns => by
    rw [List.map_cons, gl_cons, gl_cons, gl_scale a ha ns]
    have h := gl_nn ns
    rw [Int.natAbs_mul, Int.natAbs_mul, Nat.gcd_mul_left, Int.natCast_mul]
    rw [show ((a.natAbs : Nat) : Int) = a by omega]
theorem gl_prim {v : List Int} (g : gl v ≠ 0) : gl (prim v) = 1 := by
  have e : (prim v).map (gl v * ·) = v := by
    apply List.ext_getElem?
    intro i
    rw [List.getElem?_map]
    by_cases hi : i < v.length
    · have e1 : v[i]? = some v[i] := List.getElem?_eq_getElem hi
      have e2 : (prim v)[i]? = some (v[i] / gl v) := by
        rw [show prim v = v.map (· / gl v) from if_neg g, List.getElem?_map, e1]
        rfl
      rw [e2, e1]
      exact congrArg some (Int.mul_ediv_cancel' (gl_dvd (List.getElem_mem hi)))
    · rw [List.getElem?_eq_none (by rw [prim_len]; omega), List.getElem?_eq_none (by omega)]
      rfl
  have s := gl_scale (gl v) (gl_nn v) (prim v)
  rw [e] at s
  have n := gl_nn v
  have : gl v * (gl (prim v) - 1) = 0 := by rw [Int.mul_sub, ← s]; omega
  rcases Int.mul_eq_zero.mp this with h | h
  · exact absurd h g
  · omega
def spPoint : Sp := fun vs H Q _ => ∃ (p : Addr) (d : Nat) (m : Int), vs = [.ref p, .int d, .int m] ∧ d ≤ 10 ∧ 1 ≤ m ∧ m ≤ 5 ∧ Pl H p ∧ ∀ (H' : Hp) (r : Addr) (ns : List Int), Pl H' p → Kp p H H' → Vc H' r ns → ns.length = d + 1 → (∀ n ∈ ns, n.natAbs ≤ 3) → (∃ w, ns[0]? = some w ∧ 0 < w) → gl ns = 1 → Q (.ref r) H'
theorem ok_point {f : Addr} {fd : FuncData} {k : Nat} (F : Fun K "_law_point" "_law_point" s__law_point f fd) (Z : Glb mg)
    (C_law_draw : Call P w K mg base k "_law_draw" ["pool", "many"] spDraw)
    (C_law_prim : Call P w K mg base k "_law_prim" ["v"] spPrimK) : FnOk P w K mg base CX0 (k + 1) f fd ["pool", "d", "most"] spPoint := by
  refine F.ok sc__law_point (fun vs H Q E h => ?_) (fun cdv A outer s H vs Q E hr h => ?_)
  · obtain ⟨p, d, m, rfl, _⟩ := h
    rfl
  · obtain ⟨p, d, m, rfl, hd, m1, m5, hP, q⟩ := h
    refine ⟨_, (pss_cons (ps_set (i := 3) sc__law_point.nd rfl (.inl rfl) (pe_ix (r := rIxL K) ix_list (pe_lst (pa_cons pe_int (pa_cons pe_int (pa_cons pe_int (pa_cons pe_int (pa_cons pe_int pa_nil)))))) (pe_call C_law_draw.G hr (by rfl) C_law_draw.m C_law_draw.kp C_law_draw.b .nil pass0 (pa_cons (pv 0) (pa_cons (pv 2) pa_nil))) (fun _ _ => rfl)))
      (pss_one (ps_ret (pe_call C_law_prim.G hr (by rfl) C_law_prim.m C_law_prim.kp C_law_prim.b .nil pass0 (pa_cons (pe_op op_cat (pe_lst (pa_cons (pv 3) pa_nil)) (pe_lc (own := [("k", 4)]) (g := gName 4) (tt := tYes) (by rfl) sc__law_point.nd (pi_range1 rfl Z.m_range (pa_cons (pv 1) pa_nil)) (blkOk_by (own := [("k", 4)]) (N := ["pool", "d", "most", "below", "k"]) (sc := defScope s__law_point) (by first | decide +kernel | kernel_rfl)) (fun _ _ _ _ _ => (pg_name (i := 4) sc__law_point.nd rfl (.inl rfl))) (fun _ _ _ _ _ => pts_nil) (fun _ _ _ _ _ => (pe_op op_sub (pe_call C_law_draw.G hr (by rfl) C_law_draw.m C_law_draw.kp C_law_draw.b .nil pass0 (pa_cons (pv 0) (pa_cons pe_int pa_nil))) pe_int)))) pa_nil))))), ?_⟩
    refine ⟨Nat.le_of_lt (small1000 (show 5 ≤ 1000 by decide)), fun l nl => ?_⟩
    refine ⟨_, rfl, _, rfl, p, m, rfl, by omega, Nat.lt_of_le_of_lt (show m.natAbs ≤ 5 by omega) (by decide), hP.same (same_upd nl), fun v H1 l1 u1 P1 B1 => ?_⟩
    have lp : l ≠ p := by
      obtain ⟨q0, h0⟩ := hP.q
      exact (h0.ne_free nl).1.symm
    have hl := (B1.1 l lp).trans upd_same
    obtain ⟨b, hat, hb1, hb3⟩ : ∃ b : Int, atI [V.int 1, V.int 1, V.int 1, V.int 2, V.int 3] v = some (.int b) ∧ 0 < b ∧ b ≤ 3 := by
      have hv : v = 0 ∨ v = 1 ∨ v = 2 ∨ v = 3 ∨ v = 4 := by omega
      rcases hv with rfl | rfl | rfl | rfl | rfl
      · exact ⟨1, atI_nat (j := 0) rfl, by decide, by decide⟩
      · exact ⟨1, atI_nat (j := 1) rfl, by decide, by decide⟩
      · exact ⟨1, atI_nat (j := 2) rfl, by decide, by decide⟩
      · exact ⟨2, atI_nat (j := 3) rfl, by decide, by decide⟩
      · exact ⟨3, atI_nat (j := 4) rfl, by decide, by decide⟩
    refine ⟨_, _, _, _, rfl, rfl, SqL.of hl, hat, ?_⟩
    have K1 : Kp p H H1 := (Same.kp (same_upd nl)).trans B1.kp
    -- [below] + ..
    refine ⟨_, rfl, Nat.le_of_lt (small1000 (show 1 ≤ 1000 by decide)), fun l2 nl2 => ?_⟩
    have s2 := same_upd (o := .lst [.int b]) nl2
    have P2 := P1.same s2
    have l2p : l2 ≠ p := by
      obtain ⟨q0, h0⟩ := P1.q
      exact (h0.ne_free nl2).1.symm
    have hl2 : (upd H1 l2 (.lst [.int b])) l2 = some (.lst [.int b]) := upd_same
    generalize upd H1 l2 (.lst [.int b]) = H2 at *
    refine ⟨_, rfl, _, rfl, by omega, by omega, fun D nD => ?_⟩
    refine lc_range (lo := 0) (n := d) (Dr p H2 D 2) (dr0 P2 nD) (fun i H3 hi hW => ?_) (fun H3 hW => ?_)
    · refine ⟨rfl, ?_⟩
      unfold tYes
      refine iteT ?_
      obtain ⟨q0, _, hq0, _⟩ := hW.1
      refine ⟨_, rfl, p, _, rfl, by decide, by decide, hq0.pl, fun n H4 l4 u4 P4 B4 => ⟨_, _, rfl, rfl, ?_⟩⟩
      obtain ⟨acc, h1, h2, h3⟩ := dr_step (n := n - 3) nD P2 hW B4 P4 (by omega)
      exact ⟨acc, h1, small1000 (by omega), h3⟩
    have K3 := hW.kp
    obtain ⟨⟨q3, _, hq3, _⟩, _, xs, eD, hlen, hB⟩ := hW
    have hl3 := K3.k _ _ l2p hl2
    refine ⟨l2, D, _, _, rfl, rfl, hl3, eD, ?_, fun c nc => ?_⟩
    · rw [List.length_map]
      exact Nat.le_of_lt (small1000 (by show 1 + xs.length ≤ 1000; omega))
    have s4 := same_upd (o := .lst ([.int b] ++ xs.map V.int)) nc
    have hb2 : ∀ n ∈ b :: xs, n.natAbs ≤ 3 := fun n hn => by
      rcases List.mem_cons.mp hn with rfl | hn
      · omega
      · have := hB n hn
        omega
    refine ⟨false, c, b :: xs, rfl, upd_same, by rw [List.length_cons]; omega, fun n hn => Nat.lt_of_le_of_lt (hb2 n hn) (by decide), fun H5 r s5 R5 => ?_⟩
    have g := gl_pos (ns := b :: xs) List.mem_cons_self (show b ≠ 0 by omega)
    exact q H5 r _ ((hq3.pl.same s4).same s5) (((K1.trans (Same.kp s2)).trans K3).trans ((Same.kp s4).trans (Same.kp s5))) R5 (by rw [prim_len, List.length_cons, hlen]) (prim_small hb2)
      ⟨_, prim_get (i := 0) rfl g, Int.ediv_pos_of_pos_of_dvd hb1 (Int.le_of_lt g) (gl_dvd List.mem_cons_self)⟩ (gl_prim (by omega))

/-! ### the mathematics of points -/
theorem prim_zero {ns : List Int} (h : gl ns = 0) : ∀ n ∈ ns, n = 0 := fun n hn => by
  have := gl_dvd hn
  rw [h] at this
  exact Int.zero_dvd.mp this
/-- vectors in proportion have the same primitive one -/
theorem prim_prop {u v : List Int} {a b : Int} (ha : 0 < a) (hb : 0 < b) (h : u.map (a * ·) = v.map (b * ·)) : prim u = prim v := by
  have hg : a * gl u = b * gl v := by rw [← gl_scale a (by omega), ← gl_scale b (by omega), h]
  have hl : u.length = v.length := by
    have := congrArg List.length h
    rwa [List.length_map, List.length_map] at this
  have gu := gl_nn u
  have gv := gl_nn v
  apply List.ext_getElem?
  intro i
  by_cases hi : i < u.length
  · have e1 : u[i]? = some u[i] := List.getElem?_eq_getElem hi
    have e2 : v[i]? = some (v[i]'(by omega)) := List.getElem?_eq_getElem (by omega)
    have e3 : a * u[i] = b * v[i]'(by omega) := by
      have := congrArg (fun l => l[i]?) h
      simp only [List.getElem?_map, e1, e2, Option.map_some] at this
      exact Option.some.inj this
    by_cases h0 : gl u = 0
    · have h1 : gl v = 0 := by
        rw [h0, Int.mul_zero] at hg
        rcases Int.mul_eq_zero.mp hg.symm with z | z
        · omega
        · exact z
      rw [show prim u = u from if_pos h0, show prim v = v from if_pos h1, e1, e2, prim_zero h0 _ (List.mem_of_getElem? e1), prim_zero h1 _ (List.mem_of_getElem? e2)]
    · have h1 : gl v ≠ 0 := fun z => by
        rw [z, Int.mul_zero] at hg
        rcases Int.mul_eq_zero.mp hg with z | z
        · omega
        · exact h0 z
      rw [prim_get e1 (by omega), prim_get e2 (by omega)]
      congr 1
      have p1 : u[i] / gl u = (a * u[i]) / (a * gl u) := (Int.mul_ediv_mul_of_pos _ _ ha).symm
      have p2 : (v[i]'(by omega)) / gl v = (b * v[i]'(by omega)) / (b * gl v) := (Int.mul_ediv_mul_of_pos _ _ hb).symm
      rw [p1, p2, e3, hg]
  · rw [List.getElem?_eq_none (by rw [prim_len]; omega), List.getElem?_eq_none (by rw [prim_len]; omega)]
/-- lowest terms, a positive divisor -/
def Low (f : Int × Int) : Prop := 0 < f.2 ∧ Nat.gcd f.1.natAbs f.2.natAbs = 1
theorem low_fr {a b : Int} (hb : 0 < b) : Low (frN a b, frD a b) := by
  refine ⟨frD_pos hb, ?_⟩
  have g := g2_pos (a := a) (b := b) (by omega)
  have e : (g2 a b).natAbs = Nat.gcd a.natAbs b.natAbs := by
    unfold g2
    exact Int.natAbs_natCast _
  show Nat.gcd (a / g2 a b).natAbs (b / g2 a b).natAbs = 1
  rw [Int.natAbs_ediv_of_dvd (g2_dvd_l a b), Int.natAbs_ediv_of_dvd (g2_dvd_r a b), e]
  rw [Nat.gcd_div (Nat.gcd_dvd_left _ _) (Nat.gcd_dvd_right _ _)]
  exact Nat.div_self (Nat.gcd_pos_of_pos_right _ (by omega))
/-- the cross product of a fraction and what it comes from -/
theorem fr_cross {a b : Int} (hb : 0 < b) : frN a b * b = frD a b * a := by
  have g := g2_pos (a := a) (b := b) (by omega)
  obtain ⟨x, hx⟩ := g2_dvd_l a b
  obtain ⟨y, hy⟩ := g2_dvd_r a b
  unfold frN frD
  generalize hg : g2 a b = k at *
  have h1 : a / k = x := by rw [hx, Int.mul_ediv_cancel_left _ (by omega)]
  have h2 : b / k = y := by rw [hy, Int.mul_ediv_cancel_left _ (by omega)]
  rw [h1, h2, hx, hy]
  simp only [Int.mul_assoc, Int.mul_left_comm, Int.mul_comm]
/-- equal fractions in lowest terms -/
theorem low_eq {f g : Int × Int} (hf : Low f) (hg : Low g) (h : f.1 * g.2 = f.2 * g.1) : f = g := by
  obtain ⟨a, b⟩ := f
  obtain ⟨c, d⟩ := g
  obtain ⟨b0, h1⟩ := hf
  obtain ⟨d0, h2⟩ := hg
  simp only at *
  have hN : a.natAbs * d.natAbs = b.natAbs * c.natAbs := by rw [← Int.natAbs_mul, ← Int.natAbs_mul, h]
  have k1 : b.natAbs ∣ d.natAbs := by
    have : b.natAbs ∣ a.natAbs * d.natAbs := ⟨c.natAbs, hN⟩
    exact Nat.Coprime.dvd_of_dvd_mul_left (by rw [Nat.Coprime, Nat.gcd_comm]; exact h1) this
  have k2 : d.natAbs ∣ b.natAbs := by
    have : d.natAbs ∣ c.natAbs * b.natAbs := ⟨a.natAbs, by rw [Nat.mul_comm c.natAbs, ← hN, Nat.mul_comm]⟩
    exact Nat.Coprime.dvd_of_dvd_mul_left (by rw [Nat.Coprime, Nat.gcd_comm]; exact h2) this
  have e : b = d := by
    have := Nat.dvd_antisymm k1 k2
    omega
  subst e
  have : a * b = c * b := by rw [h, Int.mul_comm]
  rw [Int.eq_of_mul_eq_mul_right (by omega) this]
/-- the least common multiple of divisors, their product -/
def lcmD (fs : List (Int × Int)) : Int := fs.foldl (fun c f => ((Nat.lcm c.natAbs f.2.natAbs : Nat) : Int)) 1
def prodD (fs : List (Int × Int)) : Int := fs.foldl (fun c f => c * f.2) 1
/-- the coordinates over one divisor -/
def over1 (L : Int) (fs : List (Int × Int)) : List Int := L :: fs.map fun f => f.1 * (L / f.2)
theorem lcmD_facts : ∀ (fs : List (Int × Int)) (c : Int), 0 < c → (∀ f ∈ fs, 0 < f.2) →
    0 < fs.foldl (fun c f => ((Nat.lcm c.natAbs f.2.natAbs : Nat) : Int)) c ∧ c ∣ fs.foldl (fun c f => ((Nat.lcm c.natAbs f.2.natAbs : Nat) : Int)) c ∧ (∀ f ∈ fs, f.2 ∣ fs.foldl (fun c f => ((Nat.lcm c.natAbs f.2.natAbs : Nat) : Int)) c) ∧
    ∀ m : Int, c ∣ m → (∀ f ∈ fs, f.2 ∣ m) → fs.foldl (fun c f => ((Nat.lcm c.natAbs f.2.natAbs : Nat) : Int)) c ∣ m
  | [], c, hc, _ => ⟨hc, Int.dvd_refl _, fun f h => (nomatch h), fun m h _ => h⟩
  | f :: fs, c, hc, hf => by
    have f0 := hf f List.mem_cons_self
    have l0 : 0 < ((Nat.lcm c.natAbs f.2.natAbs : Nat) : Int) := by
      have : 0 < Nat.lcm c.natAbs f.2.natAbs := Nat.lcm_pos (by omega) (by omega)
      omega
    obtain ⟨h1, h2, h3, h4⟩ := lcmD_facts fs ((Nat.lcm c.natAbs f.2.natAbs : Nat) : Int) l0 fun g hg => hf g (List.mem_cons_of_mem _ hg)
    have d1 : c ∣ ((Nat.lcm c.natAbs f.2.natAbs : Nat) : Int) := Int.natAbs_dvd_natAbs.mp (by rw [Int.natAbs_natCast]; exact Nat.dvd_lcm_left _ _)
    have d2 : f.2 ∣ ((Nat.lcm c.natAbs f.2.natAbs : Nat) : Int) := Int.natAbs_dvd_natAbs.mp (by rw [Int.natAbs_natCast]; exact Nat.dvd_lcm_right _ _)
    refine ⟨h1, Int.dvd_trans d1 h2, fun g hg => ?_, fun m hm hg => h4 m ?_ fun g h => hg g (List.mem_cons_of_mem _ h)⟩
    · rcases List.mem_cons.mp hg with rfl | hg
      · exact Int.dvd_trans d2 h2
      · exact h3 g hg
    · exact Int.natAbs_dvd_natAbs.mp (by rw [Int.natAbs_natCast]; exact Nat.lcm_dvd (Int.natAbs_dvd_natAbs.mpr hm) (Int.natAbs_dvd_natAbs.mpr (hg f List.mem_cons_self)))
theorem prodD_facts : ∀ (fs : List (Int × Int)) (c : Int), 0 < c → (∀ f ∈ fs, 0 < f.2) → 0 < fs.foldl (fun c f => c * f.2) c ∧ c ∣ fs.foldl (fun c f => c * f.2) c ∧ ∀ f ∈ fs, f.2 ∣ fs.foldl (fun c f => c * f.2) c
  | [], c, hc, _ => ⟨hc, Int.dvd_refl _, fun f h => nomatch h⟩
  | f :: fs, c, hc, hf => by
    obtain ⟨h1, h2, h3⟩ := prodD_facts fs (c * f.2) (Int.mul_pos hc (hf f List.mem_cons_self)) fun g hg => hf g (List.mem_cons_of_mem _ hg)
    refine ⟨h1, Int.dvd_trans ⟨f.2, rfl⟩ h2, fun g hg => ?_⟩
    rcases List.mem_cons.mp hg with rfl | hg
    · exact Int.dvd_trans ⟨c, Int.mul_comm _ _⟩ h2
    · exact h3 g hg
theorem div_mul {L d : Int} (h : d ∣ L) : d * (L / d) = L := Int.mul_ediv_cancel' h
/-- two common divisors give vectors in proportion -/
theorem over1_prop {L M : Int} {fs : List (Int × Int)} (h0 : ∀ f ∈ fs, 0 < f.2) (hL : ∀ f ∈ fs, f.2 ∣ L) (hM : ∀ f ∈ fs, f.2 ∣ M) : (over1 L fs).map (M * ·) = (over1 M fs).map (L * ·) := by
  unfold over1
  rw [List.map_cons, List.map_cons, List.map_map, List.map_map]
  congr 1
  · exact Int.mul_comm _ _
  · apply List.map_congr_left
    intro f hf
    show M * (f.1 * (L / f.2)) = L * (f.1 * (M / f.2))
    have e1 := div_mul (hL f hf)
    have e2 := div_mul (hM f hf)
    have f0 := h0 f hf
    generalize L / f.2 = x at *
    generalize M / f.2 = y at *
    rw [← e1, ← e2]
    simp only [Int.mul_assoc, Int.mul_left_comm, Int.mul_comm]
/-- over the least common multiple the vector is primitive -/
theorem over1_prim {fs : List (Int × Int)} (h : ∀ f ∈ fs, Low f) : prim (over1 (lcmD fs) fs) = over1 (lcmD fs) fs := by
  obtain ⟨L0, _, hd, hm⟩ := lcmD_facts fs 1 (by decide) fun f hf => (h f hf).1
  have hg : gl (over1 (lcmD fs) fs) = 1 := by
    have gp := gl_pos (ns := over1 (lcmD fs) fs) (n := lcmD fs) List.mem_cons_self (by unfold lcmD; omega)
    have g1 : gl (over1 (lcmD fs) fs) ∣ lcmD fs := gl_dvd List.mem_cons_self
    have g2' : ∀ f ∈ fs, gl (over1 (lcmD fs) fs) ∣ f.1 * (lcmD fs / f.2) := fun f hf => gl_dvd (List.mem_cons_of_mem _ (List.mem_map.mpr ⟨f, hf, rfl⟩))
    generalize gl (over1 (lcmD fs) fs) = g at *
    have hL : lcmD fs = fs.foldl (fun c f => ((Nat.lcm c.natAbs f.2.natAbs : Nat) : Int)) 1 := rfl
    rw [← hL] at L0 hd hm
    generalize lcmD fs = L at *
    obtain ⟨t, ht⟩ := g1
    have t0 : 0 < t := by
      by_cases q : 0 < t
      · exact q
      · have : g * t ≤ 0 := Int.mul_nonpos_of_nonneg_of_nonpos (by omega) (by omega)
        omega
    have each : ∀ f ∈ fs, f.2 ∣ t := fun f hf => by
      obtain ⟨d0, cop⟩ := h f hf
      have e1 := div_mul (hd f hf)
      have k1 := g2' f hf
      generalize L / f.2 = q at *
      -- g divides d q and n q, so q
      have kq : g ∣ q := by
        have a1 : g.natAbs ∣ f.1.natAbs * q.natAbs := by rw [← Int.natAbs_mul]; exact Int.natAbs_dvd_natAbs.mpr k1
        have a2 : g.natAbs ∣ f.2.natAbs * q.natAbs := by rw [← Int.natAbs_mul, e1]; exact Int.natAbs_dvd_natAbs.mpr ⟨t, ht⟩
        have a3 := Nat.dvd_gcd a1 a2
        rw [Nat.gcd_mul_right, cop, Nat.one_mul] at a3
        exact Int.natAbs_dvd_natAbs.mp a3
      obtain ⟨s, rfl⟩ := kq
      refine ⟨s, ?_⟩
      have : g * t = g * (f.2 * s) := by
        rw [← ht, ← e1]
        simp only [Int.mul_assoc, Int.mul_left_comm, Int.mul_comm]
      exact Int.eq_of_mul_eq_mul_left (by omega) this
    obtain ⟨r, hr⟩ := hm t (Int.one_dvd t) each
    have : 1 * t = (g * r) * t := by
      rw [Int.one_mul]
      conv => lhs; rw [hr, ht]
      simp only [Int.mul_assoc, Int.mul_left_comm, Int.mul_comm]
    have e1 := Int.eq_of_mul_eq_mul_right (by omega) this
    have r0 : 0 < r := by
      by_cases q : 0 < r
      · exact q
      · have : g * r ≤ 0 := Int.mul_nonpos_of_nonneg_of_nonpos (by omega) (by omega)
        omega
    have : g * 1 ≤ g * r := Int.mul_le_mul_of_nonneg_left (by omega) (by omega)
    omega
  unfold prim
  rw [hg, if_neg (by decide)]
  have : (fun n : Int => n / 1) = id := by funext n; exact Int.ediv_one n
  rw [this, List.map_id]
/-- what the law makes of coordinates is what the program makes -/
theorem made_same {fs : List (Int × Int)} (h : ∀ f ∈ fs, Low f) : prim (over1 (prodD fs) fs) = over1 (lcmD fs) fs := by
  obtain ⟨L0, _, hd, _⟩ := lcmD_facts fs 1 (by decide) fun f hf => (h f hf).1
  obtain ⟨M0, _, hd2⟩ := prodD_facts fs 1 (by decide) fun f hf => (h f hf).1
  rw [← over1_prim h]
  exact prim_prop L0 M0 (over1_prop (fun f hf => (h f hf).1) hd2 hd)

abbrev s_common_divisor : Stmt := topS 19
theorem sc_common_divisor : FnScope ["v", "common", "entry"] ["v"] (defScope s_common_divisor) := ⟨rfl, rfl, rfl, by decide +kernel, rfl, by decide +kernel, by decide +kernel⟩
def spCd : Sp := fun vs H Q _ => ∃ (a : Addr) (ns : List Int), vs = [.ref a] ∧ Vc H a ns ∧ Q (.int (gl ns)) H
theorem ok_cd {f : Addr} {fd : FuncData} {k : Nat} (F : Fun K "common_divisor" "common_divisor" s_common_divisor f fd) (Z : Glb mg) : FnOk P w K mg base CX0 (k + 1) f fd ["v"] spCd := by
  refine F.ok sc_common_divisor (fun vs H Q E h => ?_) (fun cdv A outer s H vs Q E hr h => ?_)
  · obtain ⟨a, ns, rfl, _⟩ := h
    rfl
  · obtain ⟨a, ns, rfl, hv, q⟩ := h
    refine ⟨_, (pss_cons (ps_set (i := 1) sc_common_divisor.nd rfl (.inl rfl) pe_int)
      (pss_cons (ps_for PassesOwn.never rfl (pi_tup (pv 0)) (pg_name (i := 2) sc_common_divisor.nd rfl (.inl rfl)) (pss_one (ps_set (i := 1) sc_common_divisor.nd rfl (.inl rfl) (pe_callBfun cr_gcd (by rfl) Z.m_gcd (pa_cons (pv 1) (pa_cons (pv 2) pa_nil))))))
      (pss_one (ps_ret (pv 1))))), ?_⟩
    refine ⟨_, rfl, a, rfl, ⟨_, SqT.of hv⟩, ?_⟩
    refine for_tup (xs := ns.map V.int) (fun i σ H' => H' = H ∧ ∃ y2 : Option V, σ = [some (.ref a), some (.int (gl (ns.take i))), y2]) ⟨rfl, _, rfl⟩ (fun i σ H' _ hP => by obtain ⟨rfl, _⟩ := hP; exact SqT.of hv) (fun i x σ H' hx hP => ?_) (fun σ H' hP => ?_)
    · obtain ⟨rfl, y2, rfl⟩ := hP
      obtain ⟨n, hn, rfl⟩ := map_get hx
      refine ⟨_, rfl, _, rfl, _, _, rfl, rfl, some (.int n), ?_⟩
      rw [gl_step hn]
      rfl
    · obtain ⟨rfl, y2, rfl⟩ := hP
      rw [List.length_map, List.take_length]
      exact ⟨_, rfl, q⟩

/-! ### values of any kind -/
theorem cat_h {H : Hp} {a b : Addr} {xs ys : List V} {Q : VK} (ha : H a = some (.tup xs)) (hb : H b = some (.tup ys)) (hz : xs.length + ys.length ≤ 1000) (q : ∀ (H' : Hp) (r : Addr), Same H H' → H' r = some (.tup (xs ++ ys)) → Q (.ref r) H') : rCatA K (.ref a) (.ref b) H Q :=
  ⟨a, b, xs, ys, rfl, rfl, SqT.of ha, SqT.of hb, Nat.le_of_lt (small1000 hz), fun e => q _ _ (Same.refl _) (by rw [e]; exact hb), fun _ e => q _ _ (Same.refl _) (by rw [e, List.append_nil]; exact ha), fun _ _ p np => q _ _ (same_upd np) upd_same⟩
theorem cut_whole {xs : List V} {lo hi : Option Int} (h : HT.sIx xs.length 0 lo = 0 ∧ HT.sIx xs.length xs.length hi = xs.length) : cutV xs lo hi = xs := by
  unfold cutV
  rw [h.1, h.2]
  exact List.take_length
theorem sl_h {H : Hp} {a : Addr} {xs : List V} {lo hi : Option Int} {Q : VK} (ha : H a = some (.tup xs)) (q : ∀ (H' : Hp) (r : Addr), Same H H' → H' r = some (.tup (cutV xs lo hi)) → Q (.ref r) H') : rSlA K (.ref a) lo hi H Q :=
  ⟨a, xs, rfl, SqT.of ha, fun e => q _ _ (Same.refl _) (by rw [cut_whole e]; exact ha), fun _ p np => q _ _ (same_upd np) upd_same⟩
theorem cut_mem {xs : List V} {lo hi : Option Int} {x : V} (h : x ∈ cutV xs lo hi) : x ∈ xs := List.mem_of_mem_drop (List.mem_of_mem_take h)
theorem cut_take (xs : List V) (j : Nat) : cutV xs none (some (j : Int)) = xs.take j := by
  unfold cutV
  rw [HT.sIx_none, HT.sIx_nat, List.drop_zero, Nat.sub_zero]
  by_cases h : j ≤ xs.length
  · rw [Nat.min_eq_left h]
  · rw [Nat.min_eq_right (by omega), List.take_length, List.take_of_length_le (by omega)]
theorem cut_drop (xs : List V) (j : Nat) : cutV xs (some (j : Int)) none = xs.drop j := by
  unfold cutV
  rw [HT.sIx_none, HT.sIx_nat]
  by_cases h : j ≤ xs.length
  · rw [Nat.min_eq_left h]
    exact List.take_of_length_le (by rw [List.length_drop]; exact Nat.le_refl _)
  · rw [Nat.min_eq_right (by omega), Nat.sub_self, List.take_zero, List.drop_eq_nil_of_le (by omega)]
/-- a value of any kind, of depth n at most, its ints below 2 ^ B, its sequences not longer than B -/
inductive Dt (p : Addr) (H : Hp) (B : Nat) : Nat → V → Prop
  | non (n : Nat) : Dt p H B n .non
  | bl (n : Nat) (b : Bool) : Dt p H B n (.bl b)
  | int (n : Nat) (i : Int) (h : i.natAbs < 2 ^ B) : Dt p H B n (.int i)
  | str (n : Nat) (s : Str) : Dt p H B n (.str s)
  | tup {n : Nat} {a : Addr} {xs : List V} (h : H a = some (.tup xs)) (hl : xs.length ≤ B) (hx : ∀ x ∈ xs, Dt p H B n x) : Dt p H B (n + 1) (.ref a)
  | lst {n : Nat} {a : Addr} {xs : List V} (h : H a = some (.lst xs)) (np : a ≠ p) (hl : xs.length ≤ B) (hx : ∀ x ∈ xs, Dt p H B n x) : Dt p H B (n + 1) (.ref a)
theorem Dt.keep {p : Addr} {H H' : Hp} {B n : Nat} {v : V} (hP : Pl H p) (k : Keep p H H') (d : Dt p H B n v) : Dt p H' B n v := by
  induction d with
  | non n => exact .non n
  | bl n b => exact .bl n b
  | int n i h => exact .int n i h
  | str n s => exact .str n s
  | tup h hl _ ih => exact .tup (k _ _ (hP.ne h) h) hl ih
  | lst h np hl _ ih => exact .lst (k _ _ np h) np hl ih
theorem Dt.same {p : Addr} {H H' : Hp} {B n : Nat} {v : V} (k : Same H H') (d : Dt p H B n v) : Dt p H' B n v := by
  induction d with
  | non n => exact .non n
  | bl n b => exact .bl n b
  | int n i h => exact .int n i h
  | str n s => exact .str n s
  | tup h hl _ ih => exact .tup (k _ _ h) hl ih
  | lst h np hl _ ih => exact .lst (k _ _ h) np hl ih
theorem Dt.up {p : Addr} {H : Hp} {B C n m : Nat} {v : V} (hB : B ≤ C) (hn : n ≤ m) (d : Dt p H B n v) : Dt p H C m v := by
  induction d generalizing m with
  | non n => exact .non m
  | bl n b => exact .bl m b
  | int n i h => exact .int m i (up_pow h hB)
  | str n s => exact .str m s
  | tup h hl _ ih =>
    obtain ⟨j, rfl⟩ : ∃ j, m = j + 1 := ⟨m - 1, by omega⟩
    exact .tup h (Nat.le_trans hl hB) fun x hx => ih x hx (by omega)
  | lst h np hl _ ih =>
    obtain ⟨j, rfl⟩ : ∃ j, m = j + 1 := ⟨m - 1, by omega⟩
    exact .lst h np (Nat.le_trans hl hB) fun x hx => ih x hx (by omega)
/-- what isinstance tells of it: tuple, int, bool -/
structure Kd (K : PySem.W.Frag) (H : Hp) (v : V) (t i b : Bool) : Prop where
  ex : ∃ T : String, TyX K H v (.type T) ∧ kitB T "tuple" = some t ∧ kitB T "int" = some i ∧ kitB T "bool" = some b
/-- .. and goes on to tell while all but p stands -/
structure Ko (K : PySem.W.Frag) (p : Addr) (H : Hp) (v : V) (i b : Bool) : Prop where
  ex : ∃ T : String, (∀ H', Keep p H H' → TyX K H' v (.type T)) ∧ kitB T "tuple" = some false ∧ kitB T "int" = some i ∧ kitB T "bool" = some b
def isI : V → Bool
  | .int _ => true
  | _ => false
theorem kd_non {H : Hp} : Kd K H .non false false false := ⟨"NoneType", .base .non, by decide +kernel, by decide +kernel, by decide +kernel⟩
theorem kd_bl {H : Hp} (b : Bool) : Kd K H (.bl b) false true true := ⟨"bool", .base (.bl b), by decide +kernel, by decide +kernel, by decide +kernel⟩
theorem kd_int {H : Hp} (i : Int) : Kd K H (.int i) false true false := ⟨"int", .base (.int i), by decide +kernel, by decide +kernel, by decide +kernel⟩
theorem kd_str {H : Hp} (s : Str) : Kd K H (.str s) false false false := ⟨"str", .base (.str s), by decide +kernel, by decide +kernel, by decide +kernel⟩
theorem kd_tup {H : Hp} {a : Addr} {xs : List V} (h : H a = some (.tup xs)) : Kd K H (.ref a) true false false := ⟨"tuple", .base (.tup h), by decide +kernel, by decide +kernel, by decide +kernel⟩
theorem kd_lst {H : Hp} {a : Addr} {xs : List V} (h : H a = some (.lst xs)) : Kd K H (.ref a) false false false := ⟨"list", .base (.lst h), by decide +kernel, by decide +kernel, by decide +kernel⟩
/-- every such value is a tuple, an int, or neither -/
theorem Dt.kinds {p : Addr} {H : Hp} {B n : Nat} {v : V} (d : Dt p H B n v) :
    (∃ a xs m, v = .ref a ∧ H a = some (.tup xs) ∧ xs.length ≤ B ∧ n = m + 1 ∧ (∀ x ∈ xs, Dt p H B m x) ∧ Kd K H v true false false ∧ isI v = false) ∨ (∃ i, v = .int i ∧ i.natAbs < 2 ^ B ∧ Kd K H v false true false ∧ isI v = true) ∨
    (∃ i b, (i = true → b = true) ∧ Kd K H v false i b ∧ isI v = false ∧ (∀ a xs, v = .ref a → H a ≠ some (.tup xs)) ∧ Ko K p H v i b) := by
  cases d with
  | non n => exact .inr (.inr ⟨_, _, id, kd_non, rfl, (fun _ _ z => nomatch z), ⟨"NoneType", fun _ _ => .base .non, by decide +kernel, by decide +kernel, by decide +kernel⟩⟩)
  | bl n b => exact .inr (.inr ⟨_, _, id, kd_bl b, rfl, (fun _ _ z => nomatch z), ⟨"bool", fun _ _ => .base (.bl b), by decide +kernel, by decide +kernel, by decide +kernel⟩⟩)
  | int n i h => exact .inr (.inl ⟨i, rfl, h, kd_int i, rfl⟩)
  | str n s => exact .inr (.inr ⟨_, _, id, kd_str s, rfl, (fun _ _ z => nomatch z), ⟨"str", fun _ _ => .base (.str s), by decide +kernel, by decide +kernel, by decide +kernel⟩⟩)
  | tup h hl hx => exact .inl ⟨_, _, _, rfl, h, hl, rfl, hx, kd_tup h, rfl⟩
  | lst h np hl hx => exact .inr (.inr ⟨_, _, id, kd_lst h, rfl, (fun a' xs' e z => by cases e; rw [h] at z; cases z), ⟨"list", fun _ k => .base (.lst (k _ _ np h)), by decide +kernel, by decide +kernel, by decide +kernel⟩⟩)

/-! ### == of tuples of ints -/
theorem eqv_ints : ∀ ns ms : List Int, PyData.eqvAll (ns.map PyData.int) (ms.map PyData.int) = decide (ns = ms)
  | [], [] => by rw [List.map_nil, PyData.eqvAll]; rfl
  | [], m :: ms => by rw [List.map_nil, List.map_cons, PyData.eqvAll]; rfl
  | n :: ns, [] => by rw [List.map_nil, List.map_cons, PyData.eqvAll]; rfl
  | n :: ns, m :: ms => by
    rw [List.map_cons, List.map_cons, PyData.eqvAll, PyData.eqv, eqv_ints ns ms]
    by_cases h : n = m
    · subst h
      by_cases h2 : ns = ms <;> simp [h2]
    · simp [h]
theorem lay_ints : ∀ ns : List Int, PyData.canLayAll0 (ns.map PyData.int) = true
  | [] => by rw [List.map_nil, PyData.canLayAll0]
  | n :: ns => by
    rw [List.map_cons, PyData.canLayAll0, lay_ints ns]
    rfl
theorem depth_ints : ∀ ns : List Int, PyData.depthAll (ns.map PyData.int) ≤ 1
  | [] => by rw [List.map_nil, PyData.depthAll]; omega
  | n :: ns => by
    have := depth_ints ns
    rw [List.map_cons, PyData.depthAll, PyData.depth]
    omega
theorem shaped_ints (ns : List Int) (h : ns.length ≤ 1000) : SeqAt.shaped (.tuple (ns.map PyData.int)) = true := by
  unfold SeqAt.shaped
  rw [Bool.and_eq_true]
  refine ⟨?_, ?_⟩
  · rw [PyData.canLay0, lay_ints]
  · rw [decide_eq_true_iff, PyData.depth]
    have := depth_ints ns
    omega
theorem dp_ints {H : Hp} : ∀ ns : List Int, DpAll K H (ns.map V.int) (ns.map PyData.int)
  | [] => .nil
  | n :: ns => .cons (.int n) (dp_ints ns)

theorem Dt.isInt {p : Addr} {H : Hp} {B n : Nat} {v : V} (d : Dt p H B n v) : ∃ t i b, Kd K H v t i b ∧ isI v = (i && !b) := by
  rcases d.kinds with ⟨_, _, _, _, _, _, _, _, k, e⟩ | ⟨_, _, _, k, e⟩ | ⟨i, b, h, k, e, _, _⟩
  · exact ⟨_, _, _, k, e⟩
  · exact ⟨_, _, _, k, e⟩
  · refine ⟨_, _, _, k, ?_⟩
    rw [e]
    cases i <;> cases b <;> first | rfl | (exact absurd (h rfl) (by decide))
def spIsI (K : PySem.W.Frag) (arg : Str) : Sp := fun vs H Q _ => ∃ v : V, vs = [v] ∧ (∃ t i b, Kd K H v t i b ∧ isI v = (i && !b)) ∧ Q (.bl (isI v)) H

/-- a vector of so many ints -/
def VecOf (H : Hp) (v : V) (L : Nat) : Prop := ∃ a ns, v = .ref a ∧ Vc H a ns ∧ ns.length = L
theorem ints_of {xs : List V} (h : xs.all isI = true) : ∃ ns : List Int, xs = ns.map V.int := by
  induction xs with
  | nil => exact ⟨[], rfl⟩
  | cons x r ih =>
    rw [List.all_cons, Bool.and_eq_true] at h
    obtain ⟨ns, e⟩ := ih h.2
    cases x with
    | int i => exact ⟨i :: ns, by rw [e]; rfl⟩
    | _ => exact absurd h.1 Bool.false_ne_true
theorem all_ints (ns : List Int) : (ns.map V.int).all isI = true := by
  induction ns with
  | nil => rfl
  | cons n r ih =>
    rw [List.map_cons, List.all_cons, ih]
    rfl
theorem vec_iff {H : Hp} {a : Addr} {xs : List V} {L : Nat} (h : H a = some (.tup xs)) : VecOf H (.ref a) L ↔ (xs.length = L ∧ xs.all isI = true) := by
  constructor
  · rintro ⟨a', ns, e, hv, hl⟩
    cases e
    have := h.symm.trans hv
    injection this with this
    injection this with this
    subst this
    rw [List.length_map]
    exact ⟨hl, all_ints ns⟩
  · rintro ⟨h1, h2⟩
    obtain ⟨ns, rfl⟩ := ints_of h2
    rw [List.length_map] at h1
    exact ⟨a, ns, rfl, h, h1⟩
theorem vec_tup {H : Hp} {v : V} {L : Nat} (h : VecOf H v L) : ∃ a xs, v = .ref a ∧ H a = some (.tup xs) := by
  obtain ⟨a, ns, rfl, hv, _⟩ := h
  exact ⟨a, _, rfl, hv⟩
theorem not_vec {H : Hp} {v : V} {L : Nat} (k : ∀ a xs, v = .ref a → H a ≠ some (.tup xs)) : ¬ VecOf H v L := fun z => by
  obtain ⟨a, xs, e, h⟩ := vec_tup z
  exact k a xs e h
/-- a Bool that tells a proposition -/
def spIsVec (x y : Str) : Sp := fun vs H Q _ => ∃ (L : Nat) (v : V) (p : Addr) (B n : Nat), vs = [.int L, v] ∧ Dt p H B n v ∧ B ≤ 500 ∧ ∀ (H' : Hp) (b : Bool), Same H H' → (b = true ↔ VecOf H v L) → Q (.bl b) H'

/-! ### lists of fractions, lists of vectors -/
/-- a list of tuples that are told by R -/
def RL (H : Hp) (a : Addr) (n : Nat) (R : Nat → Addr → Prop) : Prop := ∃ rs : List Addr, H a = some (.lst (rs.map V.ref)) ∧ rs.length = n ∧ ∀ i r, rs[i]? = some r → R i r
def FL (H : Hp) (a : Addr) (fs : List (Int × Int)) (B : Nat) : Prop := RL H a fs.length fun i r => ∃ f, fs[i]? = some f ∧ Fr H r f.1 f.2 B
def VL (H : Hp) (a : Addr) (vs : List (List Int)) : Prop := RL H a vs.length fun i r => ∃ v, vs[i]? = some v ∧ Vc H r v
theorem FL.same {H H' : Hp} {a : Addr} {fs : List (Int × Int)} {B : Nat} (h : FL H a fs B) (s : Same H H') : FL H' a fs B := by
  obtain ⟨rs, e, l, g⟩ := h
  exact ⟨rs, s _ _ e, l, fun i r hr => by obtain ⟨f, h1, h2⟩ := g i r hr; exact ⟨f, h1, h2.same s⟩⟩
theorem VL.same {H H' : Hp} {a : Addr} {vs : List (List Int)} (h : VL H a vs) (s : Same H H') : VL H' a vs := by
  obtain ⟨rs, e, l, g⟩ := h
  exact ⟨rs, s _ _ e, l, fun i r hr => by obtain ⟨f, h1, h2⟩ := g i r hr; exact ⟨f, h1, h2.same s⟩⟩
theorem FL.kp {H H' : Hp} {a p : Addr} {fs : List (Int × Int)} {B : Nat} (h : FL H a fs B) (hP : Pl H p) (ne : a ≠ p) (s : Keep p H H') : FL H' a fs B := by
  obtain ⟨rs, e, l, g⟩ := h
  exact ⟨rs, s _ _ ne e, l, fun i r hr => by obtain ⟨f, h1, h2⟩ := g i r hr; exact ⟨f, h1, s _ _ (hP.ne h2.1) h2.1, h2.2⟩⟩
theorem VL.kp {H H' : Hp} {a p : Addr} {vs : List (List Int)} (h : VL H a vs) (hP : Pl H p) (ne : a ≠ p) (s : Keep p H H') : VL H' a vs := by
  obtain ⟨rs, e, l, g⟩ := h
  exact ⟨rs, s _ _ ne e, l, fun i r hr => by obtain ⟨f, h1, h2⟩ := g i r hr; exact ⟨f, h1, h2.keep hP s⟩⟩
theorem ref_get {rs : List Addr} {i : Nat} {x : V} (h : (rs.map V.ref)[i]? = some x) : ∃ r, rs[i]? = some r ∧ x = .ref r := by
  rw [List.getElem?_map] at h
  cases e : rs[i]? with
  | none => rw [e] at h; cases h
  | some r => rw [e] at h; exact ⟨r, rfl, (Option.some.inj h).symm⟩
theorem get_ref {rs : List Addr} {i : Nat} {r : Addr} (h : rs[i]? = some r) : (rs.map V.ref)[i]? = some (.ref r) := by
  rw [List.getElem?_map, h]
  rfl
theorem RL.at {H : Hp} {a : Addr} {n i : Nat} {R : Nat → Addr → Prop} (h : RL H a n R) (hi : i < n) : ∃ (rs : List Addr) (r : Addr), H a = some (.lst (rs.map V.ref)) ∧ rs[i]? = some r ∧ R i r := by
  obtain ⟨rs, e, l, g⟩ := h
  have : rs[i]? = some (rs[i]'(by omega)) := List.getElem?_eq_getElem (by omega)
  exact ⟨rs, _, e, this, g _ _ this⟩
/-- lists of alike tuples are alike -/
theorem fl_alike {H : Hp} {a b : Addr} {fs : List (Int × Int)} {B C : Nat} (ha : FL H a fs B) (hb : FL H b fs C) (hl : fs.length ≤ 1000) : Alike H 2 (.ref a) (.ref b) := by
  obtain ⟨rs, e, l, g⟩ := ha
  obtain ⟨ts, e', l', g'⟩ := hb
  refine .lst e e' (by rw [List.length_map, List.length_map]; omega) (by rw [List.length_map]; omega) fun i x y h1 h2 => ?_
  obtain ⟨r, h3, rfl⟩ := ref_get h1
  obtain ⟨t, h4, rfl⟩ := ref_get h2
  obtain ⟨f, k1, k2⟩ := g i r h3
  obtain ⟨f', k3, k4⟩ := g' i t h4
  have := Option.some.inj (k1.symm.trans k3)
  subst this
  refine .tup k2.1 k4.1 rfl (by show 2 ≤ 1000000; decide) fun j u v h5 h6 => ?_
  have := Option.some.inj (h5.symm.trans h6)
  subst this
  match j with
  | 0 => cases h5; exact .int 0 _
  | 1 => cases h5; exact .int 0 _
  | j + 2 => cases h5
/-! ### made_point, coordinates .. -/
theorem lcm_take {fs : List (Int × Int)} {i : Nat} {f : Int × Int} (h : fs[i]? = some f) : lcmD (fs.take (i + 1)) = ((Nat.lcm (lcmD (fs.take i)).natAbs f.2.natAbs : Nat) : Int) := by
  unfold lcmD
  rw [take_get h, List.foldl_append]
  rfl
theorem lcm_lim2 {fs : List (Int × Int)} {B : Nat} (hB : ∀ f ∈ fs, f.2.natAbs < 2 ^ B) : ∀ i, (lcmD (fs.take i)).natAbs < 2 ^ (B * i + 1)
  | 0 => by
    show 1 < 2 ^ (B * 0 + 1)
    rw [Nat.mul_zero]
    decide
  | i + 1 => by
    have ih := lcm_lim2 hB i
    cases e : fs[i]? with
    | none =>
      have : fs.take (i + 1) = fs.take i := by
        have := List.getElem?_eq_none_iff.mp e
        rw [List.take_of_length_le (by omega), List.take_of_length_le this]
      rw [this]
      exact up_pow ih (by rw [Nat.mul_succ]; omega)
    | some f =>
      rw [lcm_take e, Int.natAbs_natCast]
      have h1 : Nat.lcm (lcmD (fs.take i)).natAbs f.2.natAbs ≤ (lcmD (fs.take i)).natAbs * f.2.natAbs := by
        unfold Nat.lcm
        exact Nat.div_le_self _ _
      have h2 := Nat.mul_lt_mul'' ih (hB f (List.mem_of_getElem? e))
      rw [← Nat.pow_add] at h2
      exact up_pow (Nat.lt_of_le_of_lt h1 h2) (by rw [Nat.mul_succ]; omega)
theorem lcm_lim3 {fs : List (Int × Int)} {B : Nat} (hB : ∀ f ∈ fs, f.2.natAbs < 2 ^ B) : (lcmD fs).natAbs < 2 ^ (B * fs.length + 1) := by
  have := lcm_lim2 hB fs.length
  rwa [List.take_length] at this
abbrev s_made_point : Stmt := topS 22
theorem sc_made_point : FnScope ["coordinates", "common", "_", "b", "a"] ["coordinates"] (defScope s_made_point) := ⟨rfl, rfl, rfl, by decide +kernel, rfl, by decide +kernel, by decide +kernel⟩
def spMadePt : Sp := fun vs H Q _ => ∃ (a : Addr) (fs : List (Int × Int)), vs = [.ref a] ∧ FL H a fs 300 ∧ (∀ f ∈ fs, Low f) ∧ (∀ f ∈ fs, f.2.natAbs < 2 ^ 300) ∧ (∀ f ∈ fs, f.1.natAbs < 2 ^ 300) ∧ 1 ≤ fs.length ∧ fs.length ≤ 10 ∧ ∀ (H' : Hp) (r : Addr), Same H H' → Vc H' r (over1 (lcmD fs) fs) → Q (.ref r) H'
theorem ok_madept {f : Addr} {fd : FuncData} {k : Nat} (F : Fun K "made_point" "made_point" s_made_point f fd) (Z : Glb mg) : FnOk P w K mg base CX0 (k + 1) f fd ["coordinates"] spMadePt := by
  refine F.ok sc_made_point (fun vs H Q E h => ?_) (fun cdv A outer s H vs Q E hr h => ?_)
  · obtain ⟨a, fs, rfl, _⟩ := h
    rfl
  · obtain ⟨a, fs, rfl, hF, hlow, hB, hA, l1, l10, q⟩ := h
    obtain ⟨rs, ea, el, eg⟩ := hF
    refine ⟨_, (pss_cons (ps_set (i := 1) sc_made_point.nd rfl (.inr rfl) pe_int)
      (pss_cons (ps_for PassesOwn.never rfl (pi_list (pv 0)) (pg_tup rfl (pgs_cons (pg_name (i := 2) sc_made_point.nd rfl (.inl rfl)) (pgs_cons (pg_name (i := 3) sc_made_point.nd rfl (.inl rfl)) pgs_nil))) (pss_one (ps_set (i := 1) sc_made_point.nd rfl (.inr rfl) (pe_callBfun cr_lcm (by rfl) Z.m_lcm (pa_cons (pv 1) (pa_cons (pv 3) pa_nil))))))
      (pss_one (ps_ret (pe_op (r := rCatA K) op_catA (pe_tup (pa_cons (pv 1) pa_nil)) (pe_callTy call_tuple_of (by rfl) Z.m_tuple (by decide +kernel) (pa_cons (pe_lc (own := [("a", 4), ("b", 3)]) (g := gTup K 2 (gCons (gName 4) (gCons (gName 3) gNil))) (tt := tYes) (by rfl) sc_made_point.nd (pi_list (pv 0)) (blkOk_by (own := [("a", 4), ("b", 3)]) (N := ["coordinates", "common", "_", "b", "a"]) (sc := defScope s_made_point) (by first | decide +kernel | kernel_rfl)) (fun _ _ _ _ _ => (pg_tup rfl (pgs_cons (pg_name (i := 4) sc_made_point.nd rfl (.inl rfl)) (pgs_cons (pg_name (i := 3) sc_made_point.nd rfl (.inl rfl)) pgs_nil)))) (fun _ _ _ _ _ => pts_nil) (fun _ _ _ _ _ => (pe_op op_mulW (pv 4) (pe_op op_fdivW (pv 1) (pv 3))))) pa_nil))))))), ?_⟩
    refine ⟨_, rfl, a, rfl, ⟨_, SqL.of ea⟩, ?_⟩
    refine for_list (xs := rs.map V.ref) (fun i σ H' => H = H' ∧ ∃ y2 y3 : Option V, σ = [some (.ref a), some (.int (lcmD (fs.take i))), y2, y3, none]) ⟨rfl, _, _, rfl⟩ (fun i σ H' _ hP => by obtain ⟨rfl, _⟩ := hP; exact SqL.of ea) (fun i x σ H' hx hP => ?_) (fun σ H' hP => ?_)
    · obtain ⟨rfl, y2, y3, rfl⟩ := hP
      obtain ⟨r, hr, rfl⟩ := ref_get hx
      obtain ⟨f, hf, ff⟩ := eg i r hr
      have lim := lcm_lim2 hB i
      have hi : i < 10 := by
        have := lt_of_get hf
        omega
      refine ⟨r, [.int f.1, .int f.2], rfl, SqT.of ff.1, rfl, _, _, rfl, _, _, rfl, rfl, ?_⟩
      refine ⟨_, rfl, _, rfl, _, _, rfl, up_pow lim (by omega), up_pow ff.2.2.2 (by decide), rfl, some (.int f.1), some (.int f.2), ?_⟩
      rw [lcm_take hf]
      rfl
    · obtain ⟨rfl, y2, y3, rfl⟩ := hP
      rw [List.length_map, el, List.take_length]
      have lim := lcm_lim3 hB
      have lim2 : (lcmD fs).natAbs < 2 ^ 4000 := up_pow lim (by omega)
      refine ⟨_, rfl, Nat.le_of_lt (small1000 (show 1 ≤ 1000 by decide)), fun c nc => ?_⟩
      have s1 := same_upd (o := .tup [.int (lcmD fs)]) nc
      have hc : (upd H c (.tup [.int (lcmD fs)])) c = some (.tup [.int (lcmD fs)]) := upd_same
      generalize upd H c (.tup [.int (lcmD fs)]) = H1 at *
      refine ⟨_, rfl, a, rfl, ⟨_, SqL.of (s1 _ _ ea)⟩, fun D nD => ?_⟩
      refine lc_list (xs := rs.map V.ref) (fun i H' => Same H1 H' ∧ H' D = some (.lst (((fs.map fun f => f.1 * (lcmD fs / f.2)).take i).map V.int))) ⟨same_upd nD, upd_same⟩ (fun i H' _ hP => SqL.of (hP.1 _ _ (s1 _ _ ea))) (fun i x H' hx hP => ?_) (fun H' hP => ?_)
      · obtain ⟨r, hr, rfl⟩ := ref_get hx
        obtain ⟨f, hf, ff⟩ := eg i r hr
        have fr := hP.1 _ _ (s1 _ _ ff.1)
        refine ⟨r, [.int f.1, .int f.2], rfl, SqT.of fr, rfl, _, _, rfl, _, _, rfl, rfl, rfl, ?_⟩
        unfold tYes
        refine iteT ?_
        have dv := ediv_abs (a := lcmD fs) ff.2.1
        have hg : (fs.map fun f => f.1 * (lcmD fs / f.2))[i]? = some (f.1 * (lcmD fs / f.2)) := by
          rw [List.getElem?_map, hf]
          rfl
        refine ⟨_, rfl, _, rfl, _, rfl, _, _, rfl, rfl, wide_div ff.2.1 ff.2.2.2 (by decide) (by decide), _, _, rfl, rfl, cmul ff.2.2.1 (Nat.lt_of_le_of_lt dv lim2), _, hP.2, ?_, ?_, ?_⟩
        · rw [List.length_map, List.length_take]
          exact Nat.lt_of_le_of_lt (Nat.min_le_right _ _) (small1000 (by rw [List.length_map]; omega))
        · intro x o hxo
          have : x ≠ D := ne_of_none hxo nD
          rw [upd_ne this]
          exact hP.1 _ _ hxo
        · rw [upd_same, take_get hg, List.map_append]
          rfl
      · obtain ⟨sH, eD⟩ := hP
        rw [List.length_map, show rs.length = (fs.map fun f => f.1 * (lcmD fs / f.2)).length by rw [List.length_map, el], List.take_length] at eD
        refine ⟨D, _, rfl, .inl ⟨SqL.of eD, fun t nt => ?_⟩⟩
        refine cat_h ((same_upd nt) _ _ (sH _ _ hc)) upd_same (by rw [List.length_map, List.length_map]; show 1 + fs.length ≤ 1000; omega) fun H5 r5 s5 hr5 => ?_
        exact q _ _ (((s1.trans sH).trans (same_upd nt)).trans s5) hr5

theorem no_get {α : Type} {j : Nat} {r : α} {P : Prop} (h : ([] : List α)[j]? = some r) : P := by
  simp at h
def spCoord : Sp := fun vs H Q _ => ∃ (a : Addr) (w : Int) (xs : List Int), vs = [.ref a] ∧ Vc H a (w :: xs) ∧ 0 < w ∧ w.natAbs < 2 ^ 290 ∧ (∀ x ∈ xs, x.natAbs < 2 ^ 290) ∧ xs.length ≤ 100 ∧ ∀ (H' : Hp) (l : Addr), Same H H' → FL H' l (xs.map fun x => (frN x w, frD x w)) 290 → Q (.ref l) H'
abbrev s_coordinates : Stmt := topS 23
theorem sc_coordinates : FnScope ["point", "entry"] ["point"] (defScope s_coordinates) := ⟨rfl, rfl, rfl, by decide +kernel, rfl, by decide +kernel, by decide +kernel⟩
theorem ok_coord {f : Addr} {fd : FuncData} {k : Nat} (F : Fun K "coordinates" "coordinates" s_coordinates f fd) (Z : Glb mg)
    (Cfraction : Call P w K mg base k "fraction" ["a", "b"] spFr) : FnOk P w K mg base CX0 (k + 1) f fd ["point"] spCoord := by
  refine F.ok sc_coordinates (fun vs H Q E h => ?_) (fun cdv A outer s H vs Q E hr h => ?_)
  · obtain ⟨a, w, xs, rfl, _⟩ := h
    rfl
  · obtain ⟨a, w0, xs, rfl, hv, w1, hw, hB, hl, q⟩ := h
    refine ⟨_, (pss_one (ps_ret (pe_lc (own := [("entry", 1)]) (g := gName 1) (tt := tYes) (by rfl) sc_coordinates.nd (pi_tup (pe_slice sl_tupA (pv 0) (po_some pe_int) po_none)) (blkOk_by (own := [("entry", 1)]) (N := ["point", "entry"]) (sc := defScope s_coordinates) (by first | decide +kernel | kernel_rfl)) (fun _ _ _ _ _ => (pg_name (i := 1) sc_coordinates.nd rfl (.inl rfl))) (fun _ _ _ _ _ => pts_nil) (fun _ _ _ _ _ => (pe_call Cfraction.G hr (by rfl) Cfraction.m Cfraction.kp Cfraction.b .nil pass0 (pa_cons (pv 1) (pa_cons (pe_ix (r := rIxT K) ix_tup (pv 0) pe_int (fun _ _ => rfl)) pa_nil))))))), ?_⟩
    refine ⟨_, rfl, 1, rfl, ?_⟩
    unfold tNoPart
    refine sl_h hv fun H1 r1 s1 hr1 => ?_
    have e1 : cutV ((w0 :: xs).map V.int) (some 1) none = xs.map V.int := by rw [show (1 : Int) = ((1 : Nat) : Int) from rfl, cut_drop]; rfl
    rw [e1] at hr1
    refine ⟨r1, rfl, ⟨_, SqT.of hr1⟩, fun D nD => ?_⟩
    refine lc_tup (xs := xs.map V.int) (fun i H' => Same H1 H' ∧ ∃ rs : List Addr, H' D = some (.lst (rs.map V.ref)) ∧ rs.length = i ∧ ∀ j r, rs[j]? = some r → ∃ x, xs[j]? = some x ∧ Fr H' r (frN x w0) (frD x w0) 290) ⟨same_upd nD, [], upd_same, rfl, fun j r h => no_get h⟩ (fun i H' _ hP => SqT.of (hP.1 _ _ hr1)) (fun i x H' hx hP => ?_) (fun H' hP => ?_)
    · obtain ⟨sH, rs, eD, lr, gr⟩ := hP
      obtain ⟨n, hn, rfl⟩ := map_get hx
      have hi := lt_of_get hn
      refine ⟨rfl, ?_⟩
      unfold tYes
      refine iteT ?_
      have hn2 := hB n (List.mem_of_getElem? hn)
      refine ⟨_, rfl, _, rfl, _, _, _, _, rfl, rfl, SqT.of (sH _ _ (s1 _ _ hv)), atI_nat (j := 0) rfl, n, w0, rfl, w1, up_pow hn2 (by decide), up_pow hw (by decide), fun t nt => ?_⟩
      have st := same_upd (o := .tup [.int (frN n w0), .int (frD n w0)]) nt
      have Dt : D ≠ t := ne_of_none eD nt
      refine ⟨_, st _ _ eD, by rw [List.length_map]; exact small1000 (by omega), ?_, rs ++ [t], by rw [upd_same, List.map_append]; rfl, by rw [List.length_append, lr]; rfl, fun j r hr => ?_⟩
      · intro y o hy
        have : y ≠ D := ne_of_none hy nD
        rw [upd_ne this]
        exact st _ _ (sH _ _ hy)
      · rw [List.getElem?_append] at hr
        split at hr
        · obtain ⟨y, h1, h2⟩ := gr j r hr
          exact ⟨y, h1, by rw [upd_ne (ne_of h2.1 eD (fun z => nomatch z))]; exact st _ _ h2.1, h2.2⟩
        · rename_i h0
          have hj : j = i := by
            have := lt_of_get hr
            rw [List.length_singleton] at this
            omega
          subst hj
          rw [lr, Nat.sub_self] at hr
          cases hr
          exact ⟨n, hn, by rw [upd_ne Dt.symm]; exact upd_same, frD_pos w1, Nat.lt_of_le_of_lt (frN_abs (by omega)) hn2, Nat.lt_of_le_of_lt (frD_abs (by omega)) hw⟩
    · obtain ⟨sH, rs, eD, lr, gr⟩ := hP
      refine q _ _ (s1.trans sH) ⟨rs, eD, by rw [List.length_map]; rw [List.length_map] at lr; exact lr, fun i r hr => ?_⟩
      obtain ⟨x, h1, h2⟩ := gr i r hr
      exact ⟨(frN x w0, frD x w0), by rw [List.getElem?_map, h1]; rfl, h2⟩

abbrev s_fraction : Stmt := topS 15
theorem sc_fraction : FnScope ["a", "b", "common"] ["a", "b"] (defScope s_fraction) := ⟨rfl, rfl, rfl, by decide +kernel, rfl, by decide +kernel, by decide +kernel⟩
theorem ok_frac {f : Addr} {fd : FuncData} {k : Nat} (F : Fun K "fraction" "fraction" s_fraction f fd) (Z : Glb mg) : FnOk P w K mg base CX0 (k + 1) f fd ["a", "b"] spFr := by
  refine F.ok sc_fraction (fun vs H Q E h => ?_) (fun cdv A outer s H vs Q E hr h => ?_)
  · obtain ⟨a, b, rfl, _⟩ := h
    rfl
  · obtain ⟨a, b, rfl, hp, ha, hb, q⟩ := h
    refine ⟨_, (pss_cons (ps_if (pt_cmpR op_eq (pv 1) pe_int (nomark _)) (pss_one ps_never) pss_nil)
      (pss_cons (ps_set (i := 2) sc_fraction.nd rfl (.inl rfl) (pe_callBfun cr_gcd (by rfl) Z.m_gcd (pa_cons (pv 0) (pa_cons (pv 1) pa_nil))))
      (pss_cons (ps_if (pt_cmpR op_lt (pv 1) pe_int (nomark _)) (pss_one ps_never) pss_nil)
      (pss_one (ps_ret (pe_tup (pa_cons (pe_op op_fdivW (pv 0) (pv 2)) (pa_cons (pe_op op_fdivW (pv 1) (pv 2)) pa_nil)))))))), ?_⟩
    have cd : CDivW b (g2 a b) := wide_div (g2_pos (by omega)) (g2_lim hp hb) (by decide) (by decide)
    refine ⟨_, rfl, rfl, _, rfl, ?_⟩
    rw [decide_eq_false (fun z => by have := V.int.inj z; omega)]
    refine iteF ⟨_, rfl, _, rfl, a, b, rfl, _, rfl, _, _, rfl, rfl, _, rfl, ?_⟩
    rw [decide_eq_false (by omega)]
    exact iteF ⟨_, rfl, _, rfl, _, _, rfl, rfl, cd, _, rfl, _, rfl, _, _, rfl, rfl, cd, ints2 _ _, q⟩

/-- a call of a def that may raise -/
structure CallX (P : Program) (w : World) (K : PySem.W.Frag) (mg : Str → Option Value) (base : Heap) (k : Nat) (nm : Str) (ps : List Str) (sp : Sp) where
  g : Addr
  gd : FuncData
  G : FnOk P w K mg base (L2.CX P w) k g gd ps sp
  m : mg nm = some (.ref g)
  kp : PySem.W.keepIn K (.ref g) = true
  b : Binds K gd ps []

/-! ### texts of integers -/
structure FunC (K : PySem.W.Frag) (x qual : Str) (st : Stmt) (f : Addr) (fd : FuncData) (c : Addr) : Prop where
  ex : ∃ (oc : Value) (od : Option Addr) (kV doc pm : Value) (an : Option Addr) (ct : Value) (osl : Array (Option Value)),
    fd = PySem.W.fnOf x qual (defArgs st) (defBody st) (defScope st) .none kV doc pm an (.ref c) ct ∧ K.lookup f = some ⟨oc, od, .func fd, osl⟩ ∧ PySem.W.codeIn K (.ref c) qual = true
theorem FunC.ok {x qual : Str} {st : Stmt} {f c : Addr} {fd : FuncData} {N ps : List Str} {k : Nat} {sp : Sp} (F : FunC K x qual st f fd c) (S : FnScope N ps (defScope st)) (len : ∀ vs H Q E, sp vs H Q E → vs.length = ps.length)
    (hbody : ∀ (A : Around) (outer : List Env) (s : Shared) (H : Hp) (vs : List V) (Q : VK) (E : XK), Room k (A.deeper (envOfC qual (defScope st) s.heap.objs.size f (.ref c))) → sp vs H Q E →
      ∃ t, PSs (cxOf CX0 P w K mg base N qual (defScope st) f (.ref c) A outer s H E).nox (defBody st) t ∧ t { nx := fun _ H' => Q .non H', rt := Q } (L2.start N vs) H) : FnOk P w K mg base CX0 (k + 1) f fd ps sp := by
  obtain ⟨oc, od, kV, doc, pm, an, ct, osl, rfl, lk, hcd⟩ := F.ex
  refine fn_of lk hcd S len fun A outer s H vs Q E hr hsp => ?_
  obtain ⟨t, h, q⟩ := hbody A outer s H vs Q E hr hsp
  exact ⟨t, h.nox, q⟩
/-- the text of digits only, without a 0 too many -/
def isNum (z : Str) : Bool := !decide (z = ("" : Str)) && z.cps.toList.all (fun c => decide (c ∈ ("0123456789" : Str).cps.toList)) && (decide (z = ("0" : Str)) || decide (z.cps.toList.head? ≠ some 48))
abbrev s_is_number : Stmt := topS 10
theorem sc_is_number : FnScope ["digits", "digit"] ["digits"] (defScope s_is_number) := ⟨rfl, rfl, rfl, by decide +kernel, rfl, by decide +kernel, by decide +kernel⟩
def spIsNum (T : Addr) : Sp := fun vs H Q _ => ∃ z : Str, vs = [.str z] ∧ z.length ≤ 1000 ∧ TabG H T ∧ ∀ H', Tabbed T H H' → Q (.bl (isNum z)) H'
theorem ok_isnum {f c T : Addr} {fd : FuncData} {k : Nat} (F : FunC K "is_number" "is_number" s_is_number f fd c) (Z : Glb mg) (TB : TabB base mg c T) : FnOk P w K mg base CX0 (k + 1) f fd ["digits"] (spIsNum T) := by
  refine F.ok sc_is_number (fun vs H Q E h => ?_) (fun A outer s H vs Q E hr h => ?_)
  · obtain ⟨z, rfl, _⟩ := h
    rfl
  · obtain ⟨z, rfl, hl, hT, q⟩ := h
    refine ⟨_, (pss_cons (ps_if (PW.pt (pw_or (pt_cmpR op_eq (pv 0) pe_str (nomark _)) (pw_or1 (pt_not (pt_val (pe_allS hr (by rfl) Z.m_all PyProof.Rows.boot_all TB rfl ⟨rfl, rfl, by decide +kernel, rfl, rfl, fun y hy e => absurd e ((by decide +kernel : ∀ y ∈ _, y.2 ≠ NameKind.free) y hy)⟩ (pv 0) (elt_in rfl rfl) (fun _ => rfl))))))) (pss_one (ps_ret pe_bl)) pss_nil)
      (pss_one (ps_ret (pe_or (pe_cmpR op_eq (pv 0) pe_str (nomark _)) (pe_one (pe_cmpR op_ne (pe_ix ix_str (pv 0) pe_int (fun _ _ => rfl)) pe_str (nomark _))))))), ?_⟩
    refine ⟨_, rfl, rfl, _, rfl, ite2 (fun e => ?_) (fun e => ?_)⟩
    · have e0 : z = "" := V.str.inj (of_decide_eq_true e)
      have := q H ⟨hT, fun _ _ => rfl⟩
      unfold isNum at this
      rw [decide_eq_true e0] at this
      exact this
    have e0 : z ≠ "" := fun h => e (decide_eq_true (by rw [h]))
    refine ⟨_, rfl, _, rfl, hT, fun H1 t1 => ?_⟩
    have q := q H1 t1
    unfold isNum at q
    rw [decide_eq_false e0] at q
    refine ⟨_, rfl, ?_⟩
    cases hall : z.cps.toList.all (fun c => decide (c ∈ ("0123456789" : Str).cps.toList)) with
    | false =>
      rw [hall] at q
      exact iteT q
    | true =>
      rw [hall] at q
      refine iteF ?_
      refine ⟨_, rfl, rfl, _, rfl, ite2 (fun e => ?_) (fun e => ?_)⟩
      · have e1 : z = "0" := V.str.inj (of_decide_eq_true e)
        rw [decide_eq_true e1] at q
        exact q
      · have e1 : z ≠ "0" := fun h => e (decide_eq_true (by rw [h]))
        rw [decide_eq_false e1] at q
        have hp : 0 < z.cps.toList.length := by
          by_cases h : z.cps.toList = []
          · exfalso
            apply e0
            cases z with
            | mk c =>
              have : c = #[] := by
                have := congrArg List.toArray h
                simpa using this
              rw [this]
              rfl
          · exact List.length_pos_iff.mpr h
        have g0 : z.cps.toList[0]? = some (z.cps.toList[0]) := List.getElem?_eq_getElem hp
        refine ⟨_, rfl, _, _, _, rfl, rfl, Nat.le_of_lt (small1000 hl), atI_nat (j := 0) g0, rfl, ?_⟩
        have e2 : decide (z.cps.toList.head? ≠ some 48) = !decide (V.str ⟨#[z.cps.toList[0]]⟩ = V.str ("0" : Str)) := by
          rw [List.head?_eq_getElem?, g0]
          by_cases h : z.cps.toList[0] = 48
          · rw [h]
            decide
          · rw [show decide (some z.cps.toList[0] ≠ some 48) = true from decide_eq_true (fun z => h (Option.some.inj z)), decide_eq_false (fun x => h ?_)]
            · rfl
            · have : [z.cps.toList[0]] = [48] := congrArg (fun s : Str => s.cps.toList) (V.str.inj x)
              exact (List.cons.inj this).1
        rw [e2] at q
        exact q
def digs (z : Str) : Str := if Txt.startswith z "-" then cutS z (some 1) none else z
abbrev s_read_integer : Stmt := topS 9
theorem sc_read_integer : FnScope ["text", "most_digits", "digits"] ["text", "most_digits"] (defScope s_read_integer) := ⟨rfl, rfl, rfl, by decide +kernel, rfl, by decide +kernel, by decide +kernel⟩
def spRdI (T : Addr) : Sp := fun vs H Q _ => ∃ (z : Str) (n : Int), vs = [.str z, .int 60] ∧ z.length ≤ 640 ∧ TabG H T ∧ (digs z).length ≤ 60 ∧ isNum (digs z) = true ∧ z ≠ ("-0" : Str) ∧ PySem.intText? z = some n ∧ ∀ H', Tabbed T H H' → Q (.int n) H'
theorem digs_len (z : Str) : (digs z).length ≤ z.length := by
  unfold digs
  split
  · exact cutS_length z _ _
  · exact Nat.le_refl _
theorem ok_rdi {f T : Addr} {fd : FuncData} {k : Nat} (F : Fun K "read_integer" "read_integer" s_read_integer f fd) (Z : Glb mg)
    (Cis_number : Call P w K mg base k "is_number" ["digits"] (spIsNum T)) : FnOk P w K mg base CX0 (k + 1) f fd ["text", "most_digits"] (spRdI T) := by
  refine F.ok sc_read_integer (fun vs H Q E h => ?_) (fun cdv A outer s H vs Q E hr h => ?_)
  · obtain ⟨z, n, rfl, _⟩ := h
    rfl
  · obtain ⟨z, n, rfl, hl, hT, h60, hN, h0, hi, q⟩ := h
    refine ⟨_, (pss_cons (ps_set (i := 2) sc_read_integer.nd rfl (.inl rfl) (pe_ifExp (pt_val (pe_m1 PySem.F.slot_str_startswith PySem.F.type_str_startswith mt_startswith (pv 0) pe_str)) (pe_slice sl_str (pv 0) (po_some pe_int) po_none) (pv 0)))
      (pss_cons (ps_if (PW.pt (pw_or (pt_cmpR op_gt (pe_callB call_len_str (by rfl) Z.m_len PySem.boot_len (pa_cons (pv 2) pa_nil)) (pv 1) (nomark _)) (pw_or (pt_not (pt_val (pe_call Cis_number.G hr (by rfl) Cis_number.m Cis_number.kp Cis_number.b .nil pass0 (pa_cons (pv 2) pa_nil)))) (pw_or1 (pt_cmpR op_eq (pv 0) pe_str (nomark _)))))) (pss_one ps_never) pss_nil)
      (pss_one (ps_ret (pe_callTy call_int_str (by rfl) Z.m_int (by decide +kernel) (pa_cons (pv 0) pa_nil)))))), ?_⟩
    have dl := digs_len z
    refine ⟨_, rfl, ⟨z, rfl⟩, z, _, rfl, rfl, _, rfl, ite2 (fun e => ?_) (fun e => ?_)⟩
    · have ed : digs z = cutS z (some 1) none := if_pos e
      refine ⟨_, rfl, 1, rfl, ?_⟩
      unfold tNoPart
      refine ⟨z, rfl, Nat.le_of_lt (small1000 (by omega)), ?_⟩
      rw [← ed]
      refine ⟨_, rfl, digs z, rfl, Nat.le_of_lt (small1000 (by omega)), _, rfl, _, _, rfl, rfl, _, rfl, ite2 (fun e => absurd (of_decide_eq_true e) (by show ¬ ((60 : Int) < ((digs z).length : Nat)); omega)) (fun _ => ?_)⟩
      refine ⟨_, rfl, digs z, rfl, by omega, hT, fun H1 t1 => ?_⟩
      rw [hN]
      refine ⟨_, rfl, iteF ?_⟩
      refine ⟨_, rfl, rfl, _, rfl, ite2 (fun e => absurd (V.str.inj (of_decide_eq_true e)) h0) (fun _ => ?_)⟩
      exact ⟨_, rfl, z, n, rfl, hi, hl, q H1 t1⟩
    · have ed : digs z = z := if_neg e
      rw [ed] at h60 hN
      refine ⟨_, rfl, ?_⟩
      refine ⟨_, rfl, z, rfl, Nat.le_of_lt (small1000 (by omega)), _, rfl, _, _, rfl, rfl, _, rfl, ite2 (fun e => absurd (of_decide_eq_true e) (by show ¬ ((60 : Int) < (z.length : Nat)); omega)) (fun _ => ?_)⟩
      refine ⟨_, rfl, z, rfl, by omega, hT, fun H1 t1 => ?_⟩
      rw [hN]
      refine ⟨_, rfl, iteF ?_⟩
      refine ⟨_, rfl, rfl, _, rfl, ite2 (fun e => absurd (V.str.inj (of_decide_eq_true e)) h0) (fun _ => ?_)⟩
      exact ⟨_, rfl, z, n, rfl, hi, hl, q H1 t1⟩
/-- all that stood stands, but for the table at T, which may have grown -/
def SmT (T : Addr) (H H' : Hp) : Prop := TabG H' T ∧ ∀ x o, x ≠ T → H x = some o → H' x = some o
theorem SmT.refl {T : Addr} {H : Hp} (h : TabG H T) : SmT T H H := ⟨h, fun _ _ _ e => e⟩
theorem SmT.trans {T : Addr} {H H1 H2 : Hp} (a : SmT T H H1) (b : SmT T H1 H2) : SmT T H H2 := ⟨b.1, fun x o n e => b.2 x o n (a.2 x o n e)⟩
theorem smT_tab {T : Addr} {H H' : Hp} (h : Tabbed T H H') : SmT T H H' := ⟨h.1, fun x o n e => (h.2 x n).trans e⟩
theorem smT_same {T : Addr} {H H' : Hp} (h : TabG H T) (s : Same H H') : SmT T H H' := by
  obtain ⟨ps, e, k⟩ := h
  exact ⟨⟨ps, s _ _ e, k⟩, fun x o _ e => s _ _ e⟩
theorem tabG_ne {T a : Addr} {H : Hp} {xs : List V} (h : TabG H T) (e : H a = some (.tup xs)) : a ≠ T := by
  obtain ⟨ps, e', _⟩ := h
  intro z
  rw [z, e'] at e
  cases e
theorem tabG_neL {T a : Addr} {H : Hp} {xs : List V} (h : TabG H T) (e : H a = some (.lst xs)) : a ≠ T := by
  obtain ⟨ps, e', _⟩ := h
  intro z
  rw [z, e'] at e
  cases e
theorem Vc.smT {T a : Addr} {H H' : Hp} {v : List Int} (h : Vc H a v) (hT : TabG H T) (s : SmT T H H') : Vc H' a v := s.2 _ _ (tabG_ne hT h) h
/-- z is the text of n -/
def RdOk (z : Str) (n : Int) : Prop := z.length ≤ 640 ∧ (digs z).length ≤ 60 ∧ isNum (digs z) = true ∧ z ≠ ("-0" : Str) ∧ PySem.intText? z = some n
abbrev s_read_fraction : Stmt := topS 17
theorem sc_read_fraction : FnScope ["text", "top", "bar", "bottom", "a", "b"] ["text"] (defScope s_read_fraction) := ⟨rfl, rfl, rfl, by decide +kernel, rfl, by decide +kernel, by decide +kernel⟩
def spRdF (T : Addr) : Sp := fun vs H Q _ => ∃ (z : Str) (a b : Int), vs = [.str z] ∧ z.length ≤ 640 ∧ TabG H T ∧ RdOk (Txt.partition z "/").1 a ∧
  (((Txt.partition z "/").2.1 = "" ∧ b = 1) ∨ ((Txt.partition z "/").2.1 ≠ "" ∧ RdOk (Txt.partition z "/").2.2 b ∧ 2 ≤ b ∧ g2 a b = 1)) ∧ ∀ (H' : Hp) (r : Addr), SmT T H H' → Vc H' r [a, b] → Q (.ref r) H'
theorem ok_rdf {f T : Addr} {fd : FuncData} {k : Nat} (F : Fun K "read_fraction" "read_fraction" s_read_fraction f fd) (Z : Glb mg)
    (Cread_integer : Call P w K mg base k "read_integer" ["text", "most_digits"] (spRdI T)) : FnOk P w K mg base CX0 (k + 1) f fd ["text"] (spRdF T) := by
  refine F.ok sc_read_fraction (fun vs H Q E h => ?_) (fun cdv A outer s H vs Q E hr h => ?_)
  · obtain ⟨z, a, b, rfl, _⟩ := h
    rfl
  · obtain ⟨z, a, b, rfl, hl, hT, ha, hb, q⟩ := h
    refine ⟨_, (pss_cons (ps_asg (pe_partition (pv 0) pe_str) (pg_tup rfl (pgs_cons (pg_name (i := 1) sc_read_fraction.nd rfl (.inl rfl)) (pgs_cons (pg_name (i := 2) sc_read_fraction.nd rfl (.inl rfl)) (pgs_cons (pg_name (i := 3) sc_read_fraction.nd rfl (.inl rfl)) pgs_nil)))))
      (pss_cons (ps_set (i := 4) sc_read_fraction.nd rfl (.inl rfl) (pe_call Cread_integer.G hr (by rfl) Cread_integer.m Cread_integer.kp Cread_integer.b .nil pass0 (pa_cons (pv 1) (pa_cons (pe_glob (v := .int 60) (by rfl) (Z.m_most).choose_spec ⟨_, rfl⟩) pa_nil))))
      (pss_cons (ps_if (pt_cmpR op_eq (pv 2) pe_str (nomark _)) (pss_one (ps_ret (pe_tup (pa_cons (pv 4) (pa_cons pe_int pa_nil))))) pss_nil)
      (pss_cons (ps_set (i := 5) sc_read_fraction.nd rfl (.inl rfl) (pe_call Cread_integer.G hr (by rfl) Cread_integer.m Cread_integer.kp Cread_integer.b .nil pass0 (pa_cons (pv 3) (pa_cons (pe_glob (v := .int 60) (by rfl) (Z.m_most).choose_spec ⟨_, rfl⟩) pa_nil))))
      (pss_cons (ps_if (PW.pt (pw_or (pt_cmpR op_lt (pv 5) pe_int (nomark _)) (pw_or1 (pt_cmpR op_ne (pe_callBfun cr_gcd (by rfl) Z.m_gcd (pa_cons (pv 4) (pa_cons (pv 5) pa_nil))) pe_int (nomark _))))) (pss_one ps_never) pss_nil)
      (pss_one (ps_ret (pe_tup (pa_cons (pv 4) (pa_cons (pv 5) pa_nil)))))))))), ?_⟩
    refine ⟨_, rfl, ⟨z, rfl⟩, z, _, rfl, rfl, rfl, Nat.le_of_lt (small1000 (by omega)), fun p np => ?_⟩
    generalize Txt.partition z "/" = pt at *
    obtain ⟨top, bar, bottom⟩ := pt
    have s1 := same_upd (o := .tup [.str top, .str bar, .str bottom]) np
    have m1 := smT_same hT s1
    refine ⟨p, _, rfl, SqT.of upd_same, rfl, _, _, rfl, _, _, rfl, _, _, rfl, rfl, ?_⟩
    generalize upd H p (.tup [.str top, .str bar, .str bottom]) = H1 at *
    obtain ⟨a1, a2, a3, a4, a5⟩ := ha
    refine ⟨_, rfl, top, a, rfl, a1, m1.1, a2, a3, a4, a5, fun H2 t2 => ?_⟩
    have m2 := m1.trans (smT_tab t2)
    refine ⟨_, rfl, rfl, _, rfl, ite2 (fun e => ?_) (fun e => ?_)⟩
    · have e1 : bar = "" := V.str.inj (of_decide_eq_true e)
      have hb1 : b = 1 := by
        rcases hb with ⟨_, h⟩ | ⟨h, _⟩
        · exact h
        · exact absurd e1 h
      refine ⟨_, rfl, (show 2 ≤ sizeLine by decide), fun u nu => ?_⟩
      rw [hb1] at q
      exact q _ u (m2.trans (smT_same m2.1 (same_upd nu))) upd_same
    · have e1 : bar ≠ "" := fun h => e (decide_eq_true (by rw [h]))
      rcases hb with ⟨h, _⟩ | ⟨_, ⟨b1, b2, b3, b4, b5⟩, h2, hg⟩
      · exact absurd h e1
      refine ⟨_, rfl, bottom, b, rfl, b1, m2.1, b2, b3, b4, b5, fun H3 t3 => ?_⟩
      have m3 := m2.trans (smT_tab t3)
      refine ⟨_, rfl, _, _, rfl, rfl, _, rfl, ite2 (fun e => absurd (of_decide_eq_true e) (by show ¬ b < 2; omega)) (fun _ => ?_)⟩
      refine ⟨_, rfl, _, rfl, a, b, rfl, rfl, _, rfl, ite2 (fun e => ?_) (fun _ => ?_)⟩
      · exfalso
        have hg' : ((Nat.gcd a.natAbs b.natAbs : Nat) : Int) = 1 := hg
        rw [hg'] at e
        exact absurd e (by decide)
      · refine ⟨_, rfl, _, rfl, (show 2 ≤ sizeLine by decide), fun u nu => ?_⟩
        exact q _ u (m3.trans (smT_same m3.1 (same_upd nu))) upd_same

def dec (n : Int) : Str := Str.ofString (toString n)
def wI (n : Int) : Str := if n < 0 then ("-" : Str) ++ dec (-n) else dec n
theorem join_one (x : Str) : Txt.join "" [x] = x := rfl
abbrev s_write_integer : Stmt := topS 8
theorem sc_write_integer : FnScope ["number", "limit", "blocks", "block"] ["number"] (defScope s_write_integer) := ⟨rfl, rfl, rfl, by decide +kernel, rfl, by decide +kernel, by decide +kernel⟩
def spWI0 : Sp := fun vs H Q _ => ∃ n : Int, vs = [.int n] ∧ 0 ≤ n ∧ n.natAbs < 2 ^ 190 ∧ (dec n).length ≤ 500 ∧ ∀ H', Same H H' → Q (.str (dec n)) H'
def spWI : Sp := fun vs H Q _ => ∃ n : Int, vs = [.int n] ∧ n.natAbs < 2 ^ 190 ∧ (dec (n.natAbs : Int)).length ≤ 500 ∧ ∀ H', Same H H' → Q (.str (wI n)) H'
theorem ok_wi0 {f : Addr} {fd : FuncData} {k : Nat} (F : Fun K "write_integer" "write_integer" s_write_integer f fd) (Z : Glb mg) : FnOk P w K mg base CX0 (k + 1) f fd ["number"] spWI0 := by
  refine F.ok sc_write_integer (fun vs H Q E h => ?_) (fun cdv A outer s H vs Q E hr h => ?_)
  · obtain ⟨n, rfl, _⟩ := h
    rfl
  · obtain ⟨n, rfl, h0, hb, hl, q⟩ := h
    refine ⟨_, (pss_cons (ps_if (pt_cmpR op_lt (pv 0) pe_int (nomark _)) (pss_one ps_never) pss_nil)
      (pss_cons (ps_set (i := 1) sc_write_integer.nd rfl (.inl rfl) (pe_op op_pow pe_int pe_int))
      (pss_cons (ps_set (i := 2) sc_write_integer.nd rfl (.inl rfl) (pe_lst pa_nil))
      (pss_cons (ps_while PassesOwn.never (pt_cmpR op_ge (pv 0) (pv 1) (nomark _)) (pss_cons ps_never
      (pss_one ps_never)))
      (pss_cons (ps_expr (pe_bm PySem.F.plainAttrs_list PySem.F.slot_list_append PySem.F.type_list_append mt_append (pv 2) (pa_cons (pe_callTy call_str_int (by rfl) Z.m_str (by decide +kernel) (pa_cons (pv 0) pa_nil)) pa_nil)))
      (pss_one (ps_ret (pe_joinRev rfl pe_str (by rfl) Z.m_reversed (pv 2))))))))), ?_⟩
    refine ⟨_, rfl, _, _, rfl, rfl, _, rfl, ite2 (fun e => absurd (of_decide_eq_true e) (by show ¬ n < 0; omega)) (fun _ => ?_)⟩
    refine ⟨_, _, rfl, rfl, ⟨by decide, by decide, by decide⟩, ?_⟩
    refine ⟨Nat.zero_le _, fun l nl => ?_⟩
    have s1 := same_upd (o := .lst []) nl
    have el : (upd H l (.lst [])) l = some (.lst []) := upd_same
    generalize upd H l (.lst []) = H1 at *
    refine ⟨fun m σ H' => H' = H1 ∧ σ = [some (.int n), some (.int (10 ^ 60)), some (.ref l), none], ⟨0, rfl, rfl⟩, fun m σ H' hW => ?_⟩
    obtain ⟨rfl, rfl⟩ := hW
    refine ⟨_, rfl, _, rfl, _, _, rfl, rfl, _, rfl, ite2 (fun e => absurd (of_decide_eq_true e) ?_) (fun _ => ?_)⟩
    · have k1 : (2 : Nat) ^ 190 < 10 ^ 60 := by decide +kernel
      have k2 : ((10 : Int) ^ 60).natAbs = 10 ^ 60 := by decide +kernel
      show ¬ ((10 : Int) ^ 60 ≤ n)
      omega
    refine ⟨_, rfl, .inl ⟨rfl, _, SqL.of el⟩, _, rfl, n, rfl, ?_, l, _, _, rfl, rfl, el, (show 0 < sizeLine by decide), ?_⟩
    · exact Nat.lt_trans (PySem.Flt.log2_lt_of (by decide) hb) (by decide)
    refine ⟨_, rfl, _, rfl, l, [dec n], rfl, SqL.of upd_same, ?_, ?_⟩
    · show (dec n).length + 0 + 1 * 0 ≤ 16777216
      omega
    show Q (.str (Txt.join "" [dec n])) _
    rw [join_one]
    refine q _ fun x o hx => ?_
    rw [upd_ne (ne_of_none hx nl)]
    exact s1 _ _ hx
theorem fn_or {CX : CXT} {k : Nat} {f : Addr} {fd : FuncData} {ps : List Str} {sp1 sp2 : Sp} (F1 : FnOk P w K mg base CX k f fd ps sp1) (F2 : FnOk P w K mg base CX k f fd ps sp2) : FnOk P w K mg base CX k f fd ps (fun vs H Q E => sp1 vs H Q E ∨ sp2 vs H Q E) :=
  ⟨fun vs H Q E h => by
    rcases h with h | h
    · exact F1.len _ _ _ _ h
    · exact F2.len _ _ _ _ h,
  fun A outer s H args us vs Q E hr e b r h => by
    rcases h with h | h
    · exact F1.run A outer s H args us vs Q E hr e b r h
    · exact F2.run A outer s H args us vs Q E hr e b r h⟩
theorem app_len (x y : Str) : (x ++ y).length = x.length + y.length := by
  show (x.cps ++ y.cps).size = x.cps.size + y.cps.size
  exact Array.size_append
def spWIn : Sp := fun vs H Q _ => ∃ n : Int, vs = [.int n] ∧ n < 0 ∧ n.natAbs < 2 ^ 190 ∧ (dec (-n)).length ≤ 500 ∧ ∀ H', Same H H' → Q (.str (("-" : Str) ++ dec (-n))) H'
theorem ok_win {f : Addr} {fd : FuncData} {k : Nat} (F : Fun K "write_integer" "write_integer" s_write_integer f fd) (Z : Glb mg) (G : FnOk P w K mg base CX0 k f fd ["number"] spWI0) (gS : mg "write_integer" = some (.ref f)) (bS : Binds K fd ["number"] []) :
    FnOk P w K mg base CX0 (k + 1) f fd ["number"] spWIn := by
  refine F.ok sc_write_integer (fun vs H Q E h => ?_) (fun cdv A outer s H vs Q E hr h => ?_)
  · obtain ⟨n, rfl, _⟩ := h
    rfl
  · obtain ⟨n, rfl, h0, hb, hl, q⟩ := h
    refine ⟨_, (pss_cons (ps_if (pt_cmpR op_lt (pv 0) pe_int (nomark _)) (pss_one (ps_ret (pe_op op_add_str pe_str (pe_call G hr (by rfl) gS F.kp bS .nil pass0 (pa_cons (pe_un un_neg (pv 0)) pa_nil))))) pss_nil)
      (pss_cons (ps_set (i := 1) sc_write_integer.nd rfl (.inl rfl) (pe_op op_pow pe_int pe_int))
      (pss_cons (ps_set (i := 2) sc_write_integer.nd rfl (.inl rfl) (pe_lst pa_nil))
      (pss_cons (ps_while PassesOwn.never (pt_cmpR op_ge (pv 0) (pv 1) (nomark _)) (pss_cons ps_never
      (pss_one ps_never)))
      (pss_cons (ps_expr (pe_bm PySem.F.plainAttrs_list PySem.F.slot_list_append PySem.F.type_list_append mt_append (pv 2) (pa_cons (pe_callTy call_str_int (by rfl) Z.m_str (by decide +kernel) (pa_cons (pv 0) pa_nil)) pa_nil)))
      (pss_one (ps_ret (pe_joinRev rfl pe_str (by rfl) Z.m_reversed (pv 2))))))))), ?_⟩
    refine ⟨_, rfl, _, _, rfl, rfl, _, rfl, ite2 (fun _ => ?_) (fun e => absurd (decide_eq_true h0) e)⟩
    refine ⟨_, rfl, _, rfl, -n, rfl, by omega, by rw [Int.natAbs_neg]; exact hb, hl, fun H1 s1 => ?_⟩
    exact ⟨_, _, rfl, rfl, Nat.le_of_lt (small1000 (by show 1 + _ ≤ 1000; omega)), q H1 s1⟩
theorem ok_wi {f : Addr} {fd : FuncData} {k : Nat} (F : Fun K "write_integer" "write_integer" s_write_integer f fd) (Z : Glb mg) (G : FnOk P w K mg base CX0 k f fd ["number"] spWI0) (gS : mg "write_integer" = some (.ref f)) (bS : Binds K fd ["number"] []) :
    FnOk P w K mg base CX0 (k + 1) f fd ["number"] spWI :=
  (fn_or (ok_win F Z G gS bS) (G.mono (Nat.le_succ k))).imp fun vs H Q E h => by
    obtain ⟨n, rfl, hb, hl, q⟩ := h
    unfold wI at q
    by_cases c : n < 0
    · left
      rw [if_pos c] at q
      exact ⟨n, rfl, c, hb, by rw [show ((n.natAbs : Nat) : Int) = -n by omega] at hl; exact hl, q⟩
    · right
      rw [if_neg c] at q
      exact ⟨n, rfl, by omega, hb, by rw [show ((n.natAbs : Nat) : Int) = n by omega] at hl; exact hl, q⟩
def wF (a b : Int) : Str := if b = 1 then wI a else (wI a ++ ("/" : Str)) ++ wI b
abbrev s_write_fraction : Stmt := topS 16
theorem sc_write_fraction : FnScope ["x"] ["x"] (defScope s_write_fraction) := ⟨rfl, rfl, rfl, by decide +kernel, rfl, by decide +kernel, by decide +kernel⟩
def spWF : Sp := fun vs H Q _ => ∃ (x : Addr) (a b : Int), vs = [.ref x] ∧ Vc H x [a, b] ∧ a.natAbs < 2 ^ 190 ∧ b.natAbs < 2 ^ 190 ∧ (dec (a.natAbs : Int)).length ≤ 400 ∧ (dec (b.natAbs : Int)).length ≤ 400 ∧ (wI a).length ≤ 400 ∧ (wI b).length ≤ 400 ∧ ∀ H', Same H H' → Q (.str (wF a b)) H'
theorem ok_wf {f : Addr} {fd : FuncData} {k : Nat} (F : Fun K "write_fraction" "write_fraction" s_write_fraction f fd) (Z : Glb mg)
    (Cwrite_integer : Call P w K mg base k "write_integer" ["number"] spWI) : FnOk P w K mg base CX0 (k + 1) f fd ["x"] spWF := by
  refine F.ok sc_write_fraction (fun vs H Q E h => ?_) (fun cdv A outer s H vs Q E hr h => ?_)
  · obtain ⟨x, a, b, rfl, _⟩ := h
    rfl
  · obtain ⟨x, a, b, rfl, hx, ha, hb, la, lb, wa, wb, q⟩ := h
    refine ⟨_, (pss_cons (ps_if (pt_cmpR op_eq (pe_ix (r := rIxT K) ix_tup (pv 0) pe_int (fun _ _ => rfl)) pe_int (nomark _)) (pss_one (ps_ret (pe_call Cwrite_integer.G hr (by rfl) Cwrite_integer.m Cwrite_integer.kp Cwrite_integer.b .nil pass0 (pa_cons (pe_ix (r := rIxT K) ix_tup (pv 0) pe_int (fun _ _ => rfl)) pa_nil)))) pss_nil)
      (pss_one (ps_ret (pe_op op_add_str (pe_op op_add_str (pe_call Cwrite_integer.G hr (by rfl) Cwrite_integer.m Cwrite_integer.kp Cwrite_integer.b .nil pass0 (pa_cons (pe_ix (r := rIxT K) ix_tup (pv 0) pe_int (fun _ _ => rfl)) pa_nil)) pe_str) (pe_call Cwrite_integer.G hr (by rfl) Cwrite_integer.m Cwrite_integer.kp Cwrite_integer.b .nil pass0 (pa_cons (pe_ix (r := rIxT K) ix_tup (pv 0) pe_int (fun _ _ => rfl)) pa_nil)))))), ?_⟩
    refine ⟨_, rfl, _, _, _, _, rfl, rfl, SqT.of hx, atI_nat (j := 1) rfl, rfl, _, rfl, ite2 (fun e => ?_) (fun e => ?_)⟩
    · have e1 : b = 1 := V.int.inj (of_decide_eq_true e)
      unfold wF at q
      rw [if_pos e1] at q
      exact ⟨_, rfl, _, _, _, _, rfl, rfl, SqT.of hx, atI_nat (j := 0) rfl, a, rfl, ha, by omega, q⟩
    · have e1 : b ≠ 1 := fun h => e (decide_eq_true (by rw [h]))
      unfold wF at q
      rw [if_neg e1] at q
      refine ⟨_, rfl, _, _, _, _, rfl, rfl, SqT.of hx, atI_nat (j := 0) rfl, a, rfl, ha, by omega, fun H1 s1 => ?_⟩
      refine ⟨_, _, rfl, rfl, Nat.le_of_lt (small1000 (by show (wI a).length + 1 ≤ 1000; omega)), ?_⟩
      refine ⟨_, rfl, _, _, _, _, rfl, rfl, SqT.of (hx.same s1), atI_nat (j := 1) rfl, b, rfl, hb, by omega, fun H2 s2 => ?_⟩
      refine ⟨_, _, rfl, rfl, ?_, q H2 (s1.trans s2)⟩
      rw [app_len]
      exact Nat.le_of_lt (small1000 (by show (wI a).length + 1 + (wI b).length ≤ 1000; omega))

/-! ### texts of integers, as lists of signs -/
open TL in
theorem sw_dash (z : Str) : Txt.startswith z "-" = decide ((tl z).head? = some 45) := by
  unfold Txt.startswith
  rw [PySem.StrLaws.subAt_eq, List.drop_zero, len_tl]
  show (decide (0 + 1 ≤ (tl z).length) && ((tl z).take 1 == [45])) = _
  cases h : tl z with
  | nil => rfl
  | cons c r =>
    show (decide (0 + 1 ≤ r.length + 1) && ([c] == [45])) = decide (some c = some 45)
    rw [decide_eq_true (by omega), Bool.true_and]
    by_cases e : c = 45
    · subst e; rfl
    · rw [decide_eq_false (fun z => e (Option.some.inj z))]
      exact beq_eq_false_iff_ne.mpr (fun z => e (List.cons.inj z).1)
theorem tl_cut0 (z : Str) (n : Nat) : TL.tl (cutS z none (some (n : Int))) = (TL.tl z).take n := by
  show (List.take (HT.sIx z.length z.length (some (n : Int)) - HT.sIx z.length 0 none) ((TL.tl z).drop (HT.sIx z.length 0 none))) = _
  rw [HT.sIx_none, HT.sIx_nat, List.drop_zero, Nat.sub_zero, TL.len_tl]
  rw [← List.take_take, List.take_length]
theorem tl_cutd (z : Str) (n : Nat) : TL.tl (cutS z (some (n : Int)) none) = (TL.tl z).drop n := by
  show (List.take (HT.sIx z.length z.length none - HT.sIx z.length 0 (some (n : Int))) ((TL.tl z).drop (HT.sIx z.length 0 (some (n : Int))))) = _
  rw [HT.sIx_none, HT.sIx_nat, TL.len_tl]
  rw [List.take_of_length_le (by rw [List.length_drop]; omega)]
  by_cases h : n ≤ (TL.tl z).length
  · rw [Nat.min_eq_left h]
  · rw [Nat.min_eq_right (by omega), List.drop_length, List.drop_of_length_le (by omega)]
theorem tl_digs (z : Str) : TL.tl (digs z) = if (TL.tl z).head? = some 45 then (TL.tl z).drop 1 else TL.tl z := by
  unfold digs
  rw [sw_dash]
  by_cases h : (TL.tl z).head? = some 45
  · rw [if_pos (decide_eq_true h), if_pos h]
    exact tl_cutd z 1
  · rw [if_neg (fun e => h (of_decide_eq_true e)), if_neg h]
theorem mem_digits {c : Nat} : c ∈ ("0123456789" : Str).cps.toList ↔ 48 ≤ c ∧ c ≤ 57 := by
  show c ∈ [48, 49, 50, 51, 52, 53, 54, 55, 56, 57] ↔ _
  simp only [List.mem_cons, List.not_mem_nil, or_false]
  omega
theorem str_eq {z y : Str} : z = y ↔ TL.tl z = TL.tl y := ⟨fun h => by rw [h], TL.ext_tl⟩
theorem isNum_iff (z : Str) : isNum z = true ↔ TL.tl z ≠ [] ∧ NumText.AllDigits (TL.tl z) ∧ (TL.tl z = [48] ∨ (TL.tl z).head? ≠ some 48) := by
  unfold isNum
  rw [Bool.and_eq_true, Bool.and_eq_true, Bool.or_eq_true, List.all_eq_true]
  simp only [decide_eq_true_eq, Bool.not_eq_true', decide_eq_false_iff_not]
  constructor
  · rintro ⟨⟨h1, h2⟩, h3⟩
    refine ⟨fun e => h1 (TL.ext_tl e), fun c hc => mem_digits.mp (h2 c hc), ?_⟩
    rcases h3 with h | h
    · exact .inl (by rw [h]; rfl)
    · exact .inr h
  · rintro ⟨h1, h2, h3⟩
    refine ⟨⟨fun e => h1 (by rw [e]; rfl), fun c hc => mem_digits.mpr (h2 c hc)⟩, ?_⟩
    rcases h3 with h | h
    · exact .inl (TL.ext_tl h)
    · exact .inr h
def okI (z : Str) : Bool := decide ((digs z).length ≤ 60) && isNum (digs z) && decide (z ≠ ("-0" : Str))
def valI (z : Str) : Option Int := if okI z = true then PySem.intText? z else none
theorem okI_iff (z : Str) : okI z = true ↔ (digs z).length ≤ 60 ∧ isNum (digs z) = true ∧ z ≠ ("-0" : Str) := by
  unfold okI
  rw [Bool.and_eq_true, Bool.and_eq_true, decide_eq_true_eq, decide_eq_true_eq, and_assoc]
theorem dv_lt : ∀ (cs : List Nat) (a : Nat), NumText.AllDigits cs → cs.foldl (fun acc c => acc * 10 + (c - 48)) a < (a + 1) * 10 ^ cs.length
  | [], a, _ => by
    show a < (a + 1) * 10 ^ 0
    omega
  | c :: cs, a, h => by
    have hc := h c List.mem_cons_self
    have ih := dv_lt cs (a * 10 + (c - 48)) fun d hd => h d (List.mem_cons_of_mem _ hd)
    rw [List.foldl_cons]
    refine Nat.lt_of_lt_of_le ih ?_
    rw [List.length_cons, Nat.pow_succ, Nat.mul_comm (10 ^ cs.length) 10, ← Nat.mul_assoc]
    exact Nat.mul_le_mul_right _ (by omega)
theorem okI_int {z : Str} (h : okI z = true) : ∃ n : Int, PySem.intText? z = some n ∧ n.natAbs < 10 ^ 60 := by
  obtain ⟨h1, h2, h3⟩ := (okI_iff z).mp h
  obtain ⟨a, b, c⟩ := (isNum_iff _).mp h2
  rw [TL.len_tl] at h1
  rw [tl_digs] at a b c h1
  have big : ∀ cs : List Nat, NumText.AllDigits cs → cs.length ≤ 60 → NumText.digitsVal cs < 10 ^ 60 := fun cs hd hl => by
    have := dv_lt cs 0 hd
    have e : NumText.digitsVal cs < (0 + 1) * 10 ^ cs.length := this
    rw [Nat.zero_add, Nat.one_mul] at e
    exact Nat.lt_of_lt_of_le e (Nat.pow_le_pow_right (by decide) hl)
  by_cases hd : (TL.tl z).head? = some 45
  · rw [if_pos hd] at a b c h1
    cases e : TL.tl z with
    | nil => rw [e] at hd; cases hd
    | cons d r =>
      rw [e] at hd a b c h1
      have ed : d = 45 := Option.some.inj hd
      subst ed
      refine ⟨_, intText_neg e b a (by rw [TL.len_tl, e, List.length_cons]; have : r.length ≤ 60 := h1; omega), ?_⟩
      rw [Int.natAbs_neg]
      exact big r b h1
  · rw [if_neg hd] at a b c h1
    exact ⟨_, intText_digits b a (by rw [TL.len_tl]; omega), big _ b h1⟩
theorem valI_some {z : Str} {n : Int} (h : valI z = some n) : okI z = true ∧ PySem.intText? z = some n ∧ n.natAbs < 10 ^ 60 := by
  unfold valI at h
  by_cases c : okI z = true
  · rw [if_pos c] at h
    obtain ⟨m, h1, h2⟩ := okI_int c
    rw [h1] at h
    cases h
    exact ⟨c, h1, h2⟩
  · rw [if_neg c] at h
    cases h
theorem valI_none {z : Str} (h : valI z = none) : okI z = false := by
  by_cases c : okI z = true
  · obtain ⟨m, h1, _⟩ := okI_int c
    unfold valI at h
    rw [if_pos c, h1] at h
    cases h
  · exact Bool.eq_false_iff.mpr c
theorem valI_of {z : Str} (h : okI z = true) : ∃ n, valI z = some n ∧ PySem.intText? z = some n := by
  obtain ⟨m, h1, _⟩ := okI_int h
  exact ⟨m, by unfold valI; rw [if_pos h, h1], h1⟩
theorem valI_bad {z : Str} (h : ¬ okI z = true) : valI z = none := if_neg h
theorem numL_head : ∀ (n : Nat), 0 < n → (TL.numL n).head? ≠ some 48 := by
  intro n
  induction n using Nat.strongRecOn with
  | _ n ih =>
    intro h0
    by_cases h : n < 10
    · rw [TL.numL_lt h]
      intro e
      have : 48 + n = 48 := Option.some.inj e
      omega
    · rw [TL.numL_step (by omega), List.head?_append]
      have i := ih (n / 10) (by omega) (by omega)
      cases e : (TL.numL (n / 10)).head? with
      | none => exact absurd (List.head?_eq_none_iff.mp e) (TL.numL_ne _)
      | some d => rw [e] at i; exact i
theorem tl_wI (n : Int) : TL.tl (wI n) = if n < 0 then 45 :: TL.numL n.natAbs else TL.numL n.natAbs := by
  unfold wI
  by_cases h : n < 0
  · rw [if_pos h, if_pos h, TL.tl_append]
    unfold dec
    rw [show (-n) = ((n.natAbs : Nat) : Int) by omega]
    show [45] ++ TL.tl (Str.ofString (toString ((n.natAbs : Nat) : Int))) = _
    rw [TL.tl_num]
    rfl
  · rw [if_neg h, if_neg h]
    unfold dec
    conv => lhs; rw [show n = ((n.natAbs : Nat) : Int) by omega]
    exact TL.tl_num _
theorem numL_zero : TL.numL 0 = [48] := TL.numL_lt (by decide)
theorem valI_wI {n : Int} (h : n.natAbs < 10 ^ 60) : valI (wI n) = some n := by
  have hl := TL.numL_len (by decide) h
  have ht := tl_wI n
  have nd := TL.numL_digits n.natAbs
  have ne := TL.numL_ne n.natAbs
  have dg : TL.tl (digs (wI n)) = TL.numL n.natAbs := by
    rw [tl_digs, ht]
    by_cases c : n < 0
    · rw [if_pos c]; exact if_pos rfl
    · rw [if_neg c]
      refine if_neg fun e => ?_
      cases hh : TL.numL n.natAbs with
      | nil => exact ne hh
      | cons d r =>
        rw [hh] at e nd
        have := nd d List.mem_cons_self
        have : d = 45 := Option.some.inj e
        omega
  have ok : okI (wI n) = true := by
    refine (okI_iff _).mpr ⟨by rw [TL.len_tl, dg]; exact hl, (isNum_iff _).mpr ⟨by rw [dg]; exact ne, by rw [dg]; exact nd, ?_⟩, fun e => ?_⟩
    · rw [dg]
      by_cases c : n.natAbs = 0
      · rw [c]; exact .inl numL_zero
      · exact .inr (numL_head _ (by omega))
    · have e2 := congrArg TL.tl e
      rw [ht] at e2
      by_cases c : n < 0
      · rw [if_pos c] at e2
        have e3 : TL.numL n.natAbs = [48] := (List.cons.inj e2).2
        exact numL_head n.natAbs (by omega) (by rw [e3]; rfl)
      · rw [if_neg c] at e2
        rw [e2] at nd
        have := nd 45 List.mem_cons_self
        omega
  obtain ⟨m, h1, h2⟩ := valI_of ok
  rw [h1]
  have hlen : (wI n).length ≤ 4300 := by
    rw [TL.len_tl, ht]
    split
    · rw [List.length_cons]; omega
    · omega
  by_cases c : n < 0
  · rw [if_pos c] at ht
    rw [intText_neg ht nd ne hlen, TL.numL_val] at h2
    rw [← Option.some.inj h2]
    congr 1
    omega
  · rw [if_neg c] at ht
    have ht' : (wI n).cps.toList = TL.numL n.natAbs := ht
    rw [intText_digits (by rw [ht']; exact nd) (by rw [ht']; exact ne) hlen, ht', TL.numL_val] at h2
    rw [← Option.some.inj h2]
    congr 1
    omega
/-- the cut at the bar -/
theorem find_part (z : Str) : (Txt.find z "/" = -1 ∧ Txt.partition z "/" = (z, (("" : Str), ("" : Str)))) ∨ ∃ i : Nat, Txt.find z "/" = (i : Int) ∧ i < z.length ∧ Txt.partition z "/" = (cutS z none (some (i : Int)), ("/" : Str), cutS z (some ((i : Int) + 1)) none) := by
  unfold Txt.find Txt.partition
  cases h : Builtin.Str.occurrences z "/" 0 z.length 1 with
  | nil => exact .inl ⟨rfl, rfl⟩
  | cons i r =>
    have sp := PySem.StrLaws.occ_spec z "/" 0 z.length 1 i (by rw [h]; exact List.mem_cons_self)
    have h1 : i + 1 ≤ z.length := sp.1
    refine .inr ⟨i, rfl, h1, ?_⟩
    have e1 : Builtin.Str.strSub z 0 i = cutS z none (some (i : Int)) := TL.ext_tl (by
      rw [tl_cut0]
      show (z.cps.extract 0 i).toList = _
      rw [Array.toList_extract]
      simp)
    have e2 : Builtin.Str.strSub z (i + ("/" : Str).length) z.length = cutS z (some ((i : Int) + 1)) none := TL.ext_tl (by
      rw [show ((i : Int) + 1) = ((i + 1 : Nat) : Int) from rfl, tl_cutd]
      show (z.cps.extract (i + 1) z.cps.size).toList = _
      rw [Array.toList_extract]
      simp [List.extract]
      rw [List.take_of_length_le]
      simp)
    show (Builtin.Str.strSub z 0 i, ("/" : Str), Builtin.Str.strSub z (i + ("/" : Str).length) z.length) = _
    rw [e1, e2]
def valF (z : Str) : Option (Int × Int) := match valI (Txt.partition z "/").1 with
  | none => none
  | some a => if (Txt.partition z "/").2.1 = "" then some (a, 1) else match valI (Txt.partition z "/").2.2 with
    | none => none
    | some b => if b < 2 ∨ g2 a b ≠ 1 then none else some (a, b)
theorem free_wI (n : Int) : 47 ∉ TL.tl (wI n) := by
  rw [tl_wI]
  have := TL.numL_free (n := n.natAbs) (s := 47) (.inl (by decide))
  split
  · intro h
    rcases List.mem_cons.mp h with h | h
    · cases h
    · exact this h
  · exact this
theorem valF_wF {a b : Int} (ha : a.natAbs < 10 ^ 60) (hb : b.natAbs < 10 ^ 60) (b0 : 0 < b) (g : g2 a b = 1) : valF (wF a b) = some (a, b) := by
  have pp := TL.partition_par (wF a b) "/" (by decide)
  unfold valF
  by_cases c : b = 1
  · subst c
    have e : wF a 1 = wI a := if_pos rfl
    rw [e] at pp ⊢
    rw [show TL.tl ("/" : Str) = [47] from rfl, TL.par_none1 (free_wI a)] at pp
    rw [show Txt.partition (wI a) "/" = (wI a, Str.empty, Str.empty) from pp]
    show (match valI (wI a) with | none => none | some a => if Str.empty = ("" : Str) then some (a, (1 : Int)) else _) = _
    rw [valI_wI ha]
    exact if_pos rfl
  · have e : wF a b = (wI a ++ ("/" : Str)) ++ wI b := if_neg c
    have e2 : TL.tl (wF a b) = TL.tl (wI a) ++ ([47] ++ TL.tl (wI b)) := by
      rw [e, TL.tl_append, TL.tl_append, List.append_assoc]
      rfl
    rw [show TL.tl ("/" : Str) = [47] from rfl, e2, TL.par_part1 (free_wI a)] at pp
    have pp' : Txt.partition (wF a b) "/" = (wI a, ("/" : Str), wI b) := by
      rw [pp]
      show ((⟨(TL.tl (wI a)).toArray⟩ : Str), ("/" : Str), (⟨(TL.tl (wI b)).toArray⟩ : Str)) = _
      rw [TL.mk_tl, TL.mk_tl]
    rw [pp']
    show (match valI (wI a) with | none => none | some a => if ("/" : Str) = ("" : Str) then some (a, (1 : Int)) else match valI (wI b) with | none => none | some b => if b < 2 ∨ g2 a b ≠ 1 then none else some (a, b)) = _
    rw [valI_wI ha, valI_wI hb]
    show (if ("/" : Str) = ("" : Str) then some (a, (1 : Int)) else if b < 2 ∨ g2 a b ≠ 1 then none else some (a, b)) = _
    rw [if_neg (by decide), if_neg (fun h => h.elim (fun h => by omega) (fun h => h g))]

/-! ### the readers, for every text -/
def spRdIX (T D : Addr) : Sp := fun vs H Q E => ∃ z : Str, vs = [.str z, .int 60] ∧ z.length ≤ 640 ∧ TabG H T ∧ (∀ n, valI z = some n → ∀ H', Tabbed T H H' → Q (.int n) H') ∧ (valI z = none → ∀ H', Tabbed T H H' → E (.ref D) none H')
theorem ok_rdiX {f T D : Addr} {fd : FuncData} {k : Nat} (F : Fun K "read_integer" "read_integer" s_read_integer f fd) (Z : Glb mg) (E_BadText : Er K mg "BadText" D)
    (Cis_number : Call P w K mg base k "is_number" ["digits"] (spIsNum T)) : FnOk P w K mg base (L2.CX P w) (k + 1) f fd ["text", "most_digits"] (spRdIX T D) := by
  refine F.okX sc_read_integer (fun vs H Q E h => ?_) (fun cdv A outer s H vs Q E hr h => ?_)
  · obtain ⟨z, rfl, _⟩ := h
    rfl
  · obtain ⟨z, rfl, hl, hT, q, qe⟩ := h
    refine ⟨_, (pss_cons (ps_set (i := 2) sc_read_integer.nd rfl (.inl rfl) (pe_ifExp (pt_val (pe_m1 PySem.F.slot_str_startswith PySem.F.type_str_startswith mt_startswith (pv 0) pe_str)) (pe_slice sl_str (pv 0) (po_some pe_int) po_none) (pv 0)))
      (pss_cons (ps_if (PW.pt (pw_or (pt_cmpR op_gt (pe_callB call_len_str (by rfl) Z.m_len PySem.boot_len (pa_cons (pv 2) pa_nil)) (pv 1) (nomark _)) (pw_or (pt_not (pt_val (pe_call Cis_number.G hr (by rfl) Cis_number.m Cis_number.kp Cis_number.b .nil pass0 (pa_cons (pv 2) pa_nil)))) (pw_or1 (pt_cmpR op_eq (pv 0) pe_str (nomark _)))))) (pss_one (raiseE E_BadText rfl (takes_of rfl rfl rfl rfl) (by rfl))) pss_nil)
      (pss_one (ps_ret (pe_callTy call_int_str (by rfl) Z.m_int (by decide +kernel) (pa_cons (pv 0) pa_nil)))))), ?_⟩
    have dl := digs_len z
    have hok := okI_iff z
    refine ⟨_, rfl, ⟨z, rfl⟩, z, _, rfl, rfl, _, rfl, ite2 (fun e => ?_) (fun e => ?_)⟩
    · have ed : digs z = cutS z (some 1) none := if_pos e
      refine ⟨_, rfl, 1, rfl, ?_⟩
      unfold tNoPart
      refine ⟨z, rfl, Nat.le_of_lt (small1000 (by omega)), ?_⟩
      rw [← ed]
      refine ⟨_, rfl, (digs z), rfl, Nat.le_of_lt (small1000 (by omega)), _, rfl, _, _, rfl, rfl, _, rfl, ite2 (fun e2 => ?_) (fun e2 => ?_)⟩
      · have e3 : (60 : Int) < (((digs z).length : Nat) : Int) := of_decide_eq_true e2
        exact qe (valI_bad fun h => by have := (hok.mp h).1; omega) H ⟨hT, fun _ _ => rfl⟩
      · have e3 : ¬ (60 : Int) < (((digs z).length : Nat) : Int) := fun h => e2 (decide_eq_true h)
        refine ⟨_, rfl, (digs z), rfl, by omega, hT, fun H1 t1 => ?_⟩
        refine ⟨_, rfl, ?_⟩
        cases hN : isNum (digs z) with
        | false => exact iteT (qe (valI_bad fun h => by have := (hok.mp h).2.1; rw [hN] at this; cases this) H1 t1)
        | true =>
          refine iteF ?_
          refine ⟨_, rfl, rfl, _, rfl, ite2 (fun e4 => ?_) (fun e4 => ?_)⟩
          · exact qe (valI_bad fun h => (hok.mp h).2.2 (V.str.inj (of_decide_eq_true e4))) H1 t1
          · obtain ⟨n, hv, hi⟩ := valI_of (hok.mpr ⟨by omega, hN, fun h => e4 (decide_eq_true (by rw [h]))⟩)
            exact ⟨_, rfl, z, n, rfl, hi, hl, q n hv H1 t1⟩
    · have ed : digs z = z := if_neg e
      rw [ed] at hok dl
      refine ⟨_, rfl, ?_⟩
      refine ⟨_, rfl, z, rfl, Nat.le_of_lt (small1000 (by omega)), _, rfl, _, _, rfl, rfl, _, rfl, ite2 (fun e2 => ?_) (fun e2 => ?_)⟩
      · have e3 : (60 : Int) < ((z.length : Nat) : Int) := of_decide_eq_true e2
        exact qe (valI_bad fun h => by have := (hok.mp h).1; omega) H ⟨hT, fun _ _ => rfl⟩
      · have e3 : ¬ (60 : Int) < ((z.length : Nat) : Int) := fun h => e2 (decide_eq_true h)
        refine ⟨_, rfl, z, rfl, by omega, hT, fun H1 t1 => ?_⟩
        refine ⟨_, rfl, ?_⟩
        cases hN : isNum z with
        | false => exact iteT (qe (valI_bad fun h => by have := (hok.mp h).2.1; rw [hN] at this; cases this) H1 t1)
        | true =>
          refine iteF ?_
          refine ⟨_, rfl, rfl, _, rfl, ite2 (fun e4 => ?_) (fun e4 => ?_)⟩
          · exact qe (valI_bad fun h => (hok.mp h).2.2 (V.str.inj (of_decide_eq_true e4))) H1 t1
          · obtain ⟨n, hv, hi⟩ := valI_of (hok.mpr ⟨by omega, hN, fun h => e4 (decide_eq_true (by rw [h]))⟩)
            exact ⟨_, rfl, z, n, rfl, hi, hl, q n hv H1 t1⟩
def spRdFX (T D : Addr) : Sp := fun vs H Q E => ∃ z : Str, vs = [.str z] ∧ z.length ≤ 640 ∧ TabG H T ∧ (∀ a b, valF z = some (a, b) → ∀ (H' : Hp) (r : Addr), SmT T H H' → Vc H' r [a, b] → Q (.ref r) H') ∧ (valF z = none → ∀ H', SmT T H H' → E (.ref D) none H')
theorem part_len (z : Str) : (Txt.partition z "/").1.length ≤ z.length ∧ (Txt.partition z "/").2.2.length ≤ z.length := by
  rcases find_part z with ⟨_, h⟩ | ⟨i, _, _, h⟩
  · rw [h]
    exact ⟨Nat.le_refl _, Nat.zero_le _⟩
  · rw [h]
    exact ⟨cutS_length z _ _, cutS_length z _ _⟩
theorem ok_rdfX {f T D : Addr} {fd : FuncData} {k : Nat} (F : Fun K "read_fraction" "read_fraction" s_read_fraction f fd) (Z : Glb mg) (E_BadText : Er K mg "BadText" D)
    (Cread_integer : CallX P w K mg base k "read_integer" ["text", "most_digits"] (spRdIX T D)) : FnOk P w K mg base (L2.CX P w) (k + 1) f fd ["text"] (spRdFX T D) := by
  refine F.okX sc_read_fraction (fun vs H Q E h => ?_) (fun cdv A outer s H vs Q E hr h => ?_)
  · obtain ⟨z, rfl, _⟩ := h
    rfl
  · obtain ⟨z, rfl, hl, hT, q, qe⟩ := h
    refine ⟨_, (pss_cons (ps_asg (pe_partition (pv 0) pe_str) (pg_tup rfl (pgs_cons (pg_name (i := 1) sc_read_fraction.nd rfl (.inl rfl)) (pgs_cons (pg_name (i := 2) sc_read_fraction.nd rfl (.inl rfl)) (pgs_cons (pg_name (i := 3) sc_read_fraction.nd rfl (.inl rfl)) pgs_nil)))))
      (pss_cons (ps_set (i := 4) sc_read_fraction.nd rfl (.inl rfl) (pe_call Cread_integer.G hr (by rfl) Cread_integer.m Cread_integer.kp Cread_integer.b .nil (passes_call (takes_of rfl rfl rfl rfl) (fun _ _ _ _ h => h)) (pa_cons (pv 1) (pa_cons (pe_glob (v := .int 60) (by rfl) (Z.m_most).choose_spec ⟨_, rfl⟩) pa_nil))))
      (pss_cons (ps_if (pt_cmpR op_eq (pv 2) pe_str (nomark _)) (pss_one (ps_ret (pe_tup (pa_cons (pv 4) (pa_cons pe_int pa_nil))))) pss_nil)
      (pss_cons (ps_set (i := 5) sc_read_fraction.nd rfl (.inl rfl) (pe_call Cread_integer.G hr (by rfl) Cread_integer.m Cread_integer.kp Cread_integer.b .nil (passes_call (takes_of rfl rfl rfl rfl) (fun _ _ _ _ h => h)) (pa_cons (pv 3) (pa_cons (pe_glob (v := .int 60) (by rfl) (Z.m_most).choose_spec ⟨_, rfl⟩) pa_nil))))
      (pss_cons (ps_if (PW.pt (pw_or (pt_cmpR op_lt (pv 5) pe_int (nomark _)) (pw_or1 (pt_cmpR op_ne (pe_callBfun cr_gcd (by rfl) Z.m_gcd (pa_cons (pv 4) (pa_cons (pv 5) pa_nil))) pe_int (nomark _))))) (pss_one (raiseE E_BadText rfl (takes_of rfl rfl rfl rfl) (by rfl))) pss_nil)
      (pss_one (ps_ret (pe_tup (pa_cons (pv 4) (pa_cons (pv 5) pa_nil)))))))))), ?_⟩
    refine ⟨_, rfl, ⟨z, rfl⟩, z, _, rfl, rfl, rfl, Nat.le_of_lt (small1000 (by omega)), fun p np => ?_⟩
    unfold valF at q qe
    obtain ⟨l1, l2⟩ := part_len z
    generalize Txt.partition z "/" = pt at *
    obtain ⟨top, bar, bottom⟩ := pt
    have l1 : top.length ≤ z.length := l1
    have l2 : bottom.length ≤ z.length := l2
    have s1 := same_upd (o := .tup [.str top, .str bar, .str bottom]) np
    have m1 := smT_same hT s1
    refine ⟨p, _, rfl, SqT.of upd_same, rfl, _, _, rfl, _, _, rfl, _, _, rfl, rfl, ?_⟩
    generalize upd H p (.tup [.str top, .str bar, .str bottom]) = H1 at *
    refine ⟨_, rfl, top, rfl, by omega, m1.1, fun a ha H2 t2 => ?_, fun hn H2 t2 => ?_⟩
    · have ha : valI top = some a := ha
      have m2 := m1.trans (smT_tab t2)
      have qe : (if bar = "" then some (a, (1 : Int)) else match valI bottom with | none => none | some b => if b < 2 ∨ g2 a b ≠ 1 then none else some (a, b)) = none → ∀ H', SmT T H H' → E (.ref D) none H' := fun h => qe (by show (match valI top with | none => none | some a => if bar = "" then some (a, (1 : Int)) else match valI bottom with | none => none | some b => if b < 2 ∨ g2 a b ≠ 1 then none else some (a, b)) = none; rw [ha]; exact h)
      have q : ∀ c b, (if bar = "" then some (a, (1 : Int)) else match valI bottom with | none => none | some b => if b < 2 ∨ g2 a b ≠ 1 then none else some (a, b)) = some (c, b) → ∀ (H' : Hp) (r : Addr), SmT T H H' → Vc H' r [c, b] → Q (.ref r) H' := fun c b h => q c b (by show (match valI top with | none => none | some a => if bar = "" then some (a, (1 : Int)) else match valI bottom with | none => none | some b => if b < 2 ∨ g2 a b ≠ 1 then none else some (a, b)) = some (c, b); rw [ha]; exact h)
      refine ⟨_, rfl, rfl, _, rfl, ite2 (fun e => ?_) (fun e => ?_)⟩
      · have e1 : bar = "" := V.str.inj (of_decide_eq_true e)
        refine ⟨_, rfl, (show 2 ≤ sizeLine by decide), fun u nu => ?_⟩
        exact q a 1 (if_pos e1) _ u (m2.trans (smT_same m2.1 (same_upd nu))) upd_same
      · have e1 : bar ≠ "" := fun h => e (decide_eq_true (by rw [h]))
        rw [if_neg e1] at q qe
        refine ⟨_, rfl, bottom, rfl, by omega, m2.1, fun b hb H3 t3 => ?_, fun hn H3 t3 => ?_⟩
        · have hb : valI bottom = some b := hb
          rw [hb] at q qe
          have m3 := m2.trans (smT_tab t3)
          refine ⟨_, rfl, _, _, rfl, rfl, _, rfl, ite2 (fun e2 => qe (if_pos (.inl (of_decide_eq_true e2))) H3 m3) (fun e2 => ?_)⟩
          have b2 : ¬ b < 2 := fun h => e2 (decide_eq_true h)
          refine ⟨_, rfl, _, rfl, a, b, rfl, rfl, _, rfl, ?_⟩
          by_cases hg : g2 a b = 1
          · have hg' : ((Nat.gcd a.natAbs b.natAbs : Nat) : Int) = 1 := hg
            rw [hg']
            refine iteF ⟨_, rfl, _, rfl, (show 2 ≤ sizeLine by decide), fun u nu => ?_⟩
            exact q a b (if_neg (fun h => h.elim b2 (fun h => h hg))) _ u (m3.trans (smT_same m3.1 (same_upd nu))) upd_same
          · refine ite2 (fun _ => qe (if_pos (.inr hg)) H3 m3) (fun e3 => ?_)
            refine absurd ?_ e3
            show (!decide (V.int (g2 a b) = V.int 1)) = true
            rw [decide_eq_false (fun z => hg (V.int.inj z))]
            rfl
        · have hn : valI bottom = none := hn
          rw [hn] at qe
          exact qe rfl H3 (m2.trans (smT_tab t3))
    · have hn : valI top = none := hn
      exact qe (by show (match valI top with | none => none | some a => if bar = "" then some (a, (1 : Int)) else match valI bottom with | none => none | some b => if b < 2 ∨ g2 a b ≠ 1 then none else some (a, b)) = none; rw [hn]) H2 (m1.trans (smT_tab t2))

/-! ### the law's own readers -/
theorem cut1_dash (z : Str) : cutS z none (some 1) = ("-" : Str) ↔ (TL.tl z).head? = some 45 := by
  rw [str_eq, show (1 : Int) = ((1 : Nat) : Int) from rfl, tl_cut0]
  show (TL.tl z).take 1 = [45] ↔ _
  cases TL.tl z with
  | nil => exact ⟨fun h => (by cases h), fun h => (by cases h)⟩
  | cons c r => exact ⟨fun h => congrArg some (List.cons.inj h).1, fun h => (by rw [Option.some.inj h]; rfl)⟩
abbrev s__law_int_in : Stmt := topS 40
theorem sc__law_int_in : FnScope ["text", "digits", "sign"] ["text"] (defScope s__law_int_in) := ⟨rfl, rfl, rfl, by decide +kernel, rfl, by decide +kernel, by decide +kernel⟩
def vI : Option Int → V
  | none => .non
  | some n => .int n
/-- no digit -/
def nd (c : Nat) : Bool := !decide (c ∈ ("0123456789" : Str).cps.toList)
def spLII : Sp := fun vs H Q _ => ∃ z : Str, vs = [.str z] ∧ z.length ≤ 600 ∧ ∀ H', Same H H' → Q (vI (valI z)) H'
theorem ok_lii {f : Addr} {fd : FuncData} {k : Nat} (F : Fun K "_law_int_in" "_law_int_in" s__law_int_in f fd) (Z : Glb mg) : FnOk P w K mg base CX0 (k + 1) f fd ["text"] spLII := by
  refine F.ok sc__law_int_in (fun vs H Q E h => ?_) (fun cdv A outer s H vs Q E hr h => ?_)
  · obtain ⟨z, rfl, _⟩ := h
    rfl
  · obtain ⟨z, rfl, hl, q⟩ := h
    refine ⟨_, (pss_cons (ps_set (i := 1) sc__law_int_in.nd rfl (.inl rfl) (pv 0))
      (pss_cut (ps_if (pt_cmpR op_eq (pe_slice sl_str (pv 0) po_none (po_some pe_int)) pe_str (nomark _)) (pss_one (ps_set (i := 1) sc__law_int_in.nd rfl (.inl rfl) (pe_slice sl_str (pv 0) (po_some pe_int) po_none))) pss_nil)
      (pss_cons (ps_if (PW.pt (pw_or (pt_cmpR op_eq (pv 1) pe_str (nomark _)) (pw_or (pt_cmpR op_gt (pe_callB call_len_str (by rfl) Z.m_len PySem.boot_len (pa_cons (pv 1) pa_nil)) pe_int (nomark _)) (pw_or1 (pt_cmpR op_gt (pe_callB call_len_seq (by rfl) Z.m_len PySem.boot_len (pa_cons (pe_lc (own := [("sign", 2)]) (g := gName 2) (by rfl) sc__law_int_in.nd (pi_str (pv 1)) (blkOk_by (own := [("sign", 2)]) (N := ["text", "digits", "sign"]) (sc := defScope s__law_int_in) (by first | decide +kernel | kernel_rfl)) (fun _ _ _ _ _ => (pg_name (i := 2) sc__law_int_in.nd rfl (.inl rfl))) (fun _ _ _ _ _ => (pts_one (pt_cmpR op_notIn_str (pv 2) pe_str (by rfl)))) (fun _ _ _ _ _ => (pv 2))) pa_nil)) pe_int (nomark _)))))) (pss_one (ps_ret pe_non)) pss_nil)
      (pss_one (ps_ret (pe_ifExp (PW.pt (pw_or (pt_cmpR op_ne (pe_ix ix_str (pv 1) pe_int (fun _ _ => rfl)) pe_str (nomark _)) (pw_or1 (pt_cmpR op_eq (pv 0) pe_str (nomark _))))) (pe_callTy call_int_str (by rfl) Z.m_int (by decide +kernel) (pa_cons (pv 0) pa_nil)) pe_non)))))), ?_⟩
    have dl := digs_len z
    have hok := okI_iff z
    refine ⟨_, rfl, ?_⟩
    refine ⟨fun σ H' => ∃ y2, σ = [some (.str z), some (.str (digs z)), y2] ∧ H' = H, ?_, ?_⟩
    · refine ⟨_, rfl, ?_⟩
      refine ⟨1, rfl, z, rfl, Nat.le_of_lt (small1000 (by omega)), rfl, _, rfl, ite2 (fun e => ?_) (fun e => ?_)⟩
      · have e1 := (cut1_dash z).mp (V.str.inj (of_decide_eq_true e))
        refine ⟨_, rfl, 1, rfl, ?_⟩
        unfold tNoPart
        refine ⟨z, rfl, Nat.le_of_lt (small1000 (by omega)), ?_⟩
        have ed : digs z = cutS z (some 1) none := if_pos (by rw [sw_dash]; exact decide_eq_true e1)
        rw [← ed]
        exact ⟨_, rfl, rfl⟩
      · have e1 : ¬ (TL.tl z).head? = some 45 := fun h => e (decide_eq_true (by rw [(cut1_dash z).mpr h]))
        have ed : digs z = z := if_neg (by rw [sw_dash]; exact fun h => e1 (of_decide_eq_true h))
        rw [ed]
        exact ⟨_, rfl, rfl⟩
    · intro σ H' hW
      obtain ⟨y2, rfl, rfl⟩ := hW
      have bad : ∀ H1, Same H' H1 → ¬ okI z = true → Q .non H1 := fun H1 s1 h => by
        have := q H1 s1
        rw [valI_bad h] at this
        exact this
      have good : okI z = true → ∃ n, PySem.intText? z = some n ∧ ∀ H1, Same H' H1 → Q (.int n) H1 := fun h => by
        obtain ⟨n, h1, h2⟩ := valI_of h
        rw [h1] at q
        exact ⟨n, h2, q⟩
      refine ⟨_, rfl, rfl, _, rfl, ite2 (fun e => ?_) (fun e => ?_)⟩
      · exact iteT (bad H' (Same.refl _) fun h => by
          have h2 := ((isNum_iff _).mp (hok.mp h).2.1).1
          rw [V.str.inj (of_decide_eq_true e)] at h2
          exact h2 rfl)
      · have d0 : digs z ≠ "" := fun h => e (decide_eq_true (by rw [h]))
        refine ⟨_, rfl, digs z, rfl, Nat.le_of_lt (small1000 (by omega)), _, _, rfl, rfl, _, rfl, ite2 (fun e2 => ?_) (fun e2 => ?_)⟩
        · have e3 : (60 : Int) < (((digs z).length : Nat) : Int) := of_decide_eq_true e2
          exact iteT (bad H' (Same.refl _) fun h => by have := (hok.mp h).1; omega)
        · have e3 : ¬ (60 : Int) < (((digs z).length : Nat) : Int) := fun h => e2 (decide_eq_true h)
          refine ⟨_, rfl, digs z, rfl, fun D nD => ?_⟩
          refine lc_it walk_str (fun i H2 => Same H' H2 ∧ H2 D = some (.lst ((((TL.tl (digs z)).take i).filter nd).map fun c => V.str ⟨#[c]⟩))) ⟨same_upd nD, upd_same⟩ (fun _ _ _ _ => trivial) (fun i x H2 H3 hi hP hY => ?_) (fun H2 hP => ?_)
          · obtain ⟨rfl, c, hc, rfl⟩ := hY
            have hc' : (TL.tl (digs z))[i]? = some c := by
              rw [Array.getElem?_toList]
              exact hc
            have fo := PySem.StrLaws.found_one ("0123456789" : Str) c
            have tk := take_get hc'
            refine ⟨rfl, ?_⟩
            refine ⟨_, rfl, _, _, rfl, rfl, _, rfl, ?_⟩
            rw [fo]
            cases hd : decide (c ∈ ("0123456789" : Str).cps.toList) with
            | true =>
              refine iteF ⟨hP.1, ?_⟩
              rw [hP.2, tk, List.filter_append, List.filter_cons_of_neg (by unfold nd; rw [hd]; decide), List.filter_nil, List.append_nil]
            | false =>
              refine iteT ⟨_, rfl, _, hP.2, ?_, ?_, ?_⟩
              · rw [List.length_map]
                exact small1000 (Nat.le_trans (List.length_filter_le _ _) (by rw [List.length_take, ← TL.len_tl]; omega))
              · intro x o hxo
                have : x ≠ D := ne_of_none hxo nD
                rw [upd_ne this]
                exact hP.1 _ _ hxo
              · rw [upd_same, tk, List.filter_append, List.filter_cons_of_pos (by unfold nd; rw [hd]; rfl), List.filter_nil, List.map_append]
                rfl
          · obtain ⟨s2, e2⟩ := hP
            rw [show (digs z).cps.size = (TL.tl (digs z)).length from (Array.length_toList).symm, List.take_length] at e2
            refine ⟨D, _, rfl, .inl (SqL.of e2), _, _, rfl, rfl, _, rfl, ite2 (fun e4 => ?_) (fun e4 => ?_)⟩
            · have e5 : (0 : Int) < (((((TL.tl (digs z)).filter nd).map fun c => V.str ⟨#[c]⟩).length : Nat) : Int) := of_decide_eq_true e4
              suffices h9 : ¬ okI z = true from bad H2 s2 h9
              intro h
              have h2 := ((isNum_iff _).mp (hok.mp h).2.1).2.1
              have h3 : (TL.tl (digs z)).filter nd = [] := List.filter_eq_nil_iff.mpr fun c hc hn => by
                unfold nd at hn
                rw [decide_eq_true (mem_digits.mpr (h2 c hc))] at hn
                cases hn
              rw [h3] at e5
              exact absurd e5 (by decide)
            · have e5 : ¬ (0 : Int) < (((((TL.tl (digs z)).filter nd).map fun c => V.str ⟨#[c]⟩).length : Nat) : Int) := fun h => e4 (decide_eq_true h)
              have h3 : (TL.tl (digs z)).filter nd = [] := by
                cases h : (TL.tl (digs z)).filter nd with
                | nil => rfl
                | cons a r => rw [h, List.map_cons, List.length_cons] at e5; omega
              have hall : NumText.AllDigits (TL.tl (digs z)) := fun c hc => mem_digits.mp (by
                have := List.filter_eq_nil_iff.mp h3 c hc
                unfold nd at this
                cases hd : decide (c ∈ ("0123456789" : Str).cps.toList) with
                | true => exact of_decide_eq_true hd
                | false => rw [hd] at this; exact absurd rfl this)
              have ne0 : TL.tl (digs z) ≠ [] := fun h => d0 (TL.ext_tl h)
              have hp : 0 < (TL.tl (digs z)).length := List.length_pos_iff.mpr ne0
              have g0 : (TL.tl (digs z))[0]? = some ((TL.tl (digs z))[0]) := List.getElem?_eq_getElem hp
              have gh : (TL.tl (digs z)).head? = some ((TL.tl (digs z))[0]) := by rw [List.head?_eq_getElem?, g0]
              have td := tl_digs z
              refine ⟨_, rfl, _, _, _, rfl, rfl, Nat.le_of_lt (small1000 (by omega)), atI_nat (j := 0) g0, rfl, _, rfl, ?_⟩
              by_cases e7 : (TL.tl (digs z))[0] = 48
              · rw [e7] at gh ⊢
                rw [show (!decide (V.str ⟨#[48]⟩ = V.str ("0" : Str))) = false by decide +kernel]
                refine iteF ⟨_, rfl, rfl, _, rfl, ?_⟩
                by_cases hz : z = "0"
                · rw [decide_eq_true (by rw [hz])]
                  obtain ⟨n, hi, qn⟩ := good (by rw [hz]; decide +kernel)
                  exact iteT ⟨_, rfl, z, n, rfl, hi, by omega, qn H2 s2⟩
                · rw [decide_eq_false (fun h => hz (V.str.inj h))]
                  suffices h9 : ¬ okI z = true by exact iteF (bad H2 s2 h9)
                  intro h
                  obtain ⟨_, h2, h3⟩ := hok.mp h
                  rcases ((isNum_iff _).mp h2).2.2 with h4 | h4
                  · rw [h4] at td
                    by_cases hd : (TL.tl z).head? = some 45
                    · rw [if_pos hd] at td
                      apply h3
                      apply TL.ext_tl
                      cases hz2 : TL.tl z with
                      | nil => rw [hz2] at hd; cases hd
                      | cons c r =>
                        rw [hz2] at hd td
                        have e8 : [48] = r := td
                        rw [← e8, Option.some.inj hd]
                        rfl
                    · rw [if_neg hd] at td
                      exact hz (TL.ext_tl td.symm)
                  · exact h4 gh
              · have h48 : (TL.tl (digs z)).head? ≠ some 48 := by rw [gh]; exact fun h => e7 (Option.some.inj h)
                obtain ⟨n, hi, qn⟩ := good (hok.mpr ⟨by omega, (isNum_iff _).mpr ⟨ne0, hall, .inr h48⟩, fun h => h48 (by rw [h]; decide +kernel)⟩)
                rw [decide_eq_false (fun h => e7 (by
                  have : [(TL.tl (digs z))[0]] = [48] := congrArg (fun s : Str => s.cps.toList) (V.str.inj h)
                  exact (List.cons.inj this).1))]
                exact iteT ⟨_, rfl, z, n, rfl, hi, by omega, qn H2 s2⟩

/-! ### a point's text, for every text -/
def valFs : List Str → Option (List (Int × Int))
  | [] => some []
  | z :: r => match valF z with
    | none => none
    | some f => (valFs r).map (f :: ·)
theorem valFs_none : ∀ {ws : List Str} {z : Str}, z ∈ ws → valF z = none → valFs ws = none
  | [], _, h, _ => nomatch h
  | y :: r, z, h, e => by
    rcases List.mem_cons.mp h with q | q
    · subst q
      show (match valF z with | none => none | some f => (valFs r).map (f :: ·)) = none
      rw [e]
    · show (match valF y with | none => none | some f => (valFs r).map (f :: ·)) = none
      rw [valFs_none q e]
      cases valF y <;> rfl
theorem valF_ok {z : Str} {f : Int × Int} (h : valF z = some f) : Low f ∧ f.1.natAbs < 10 ^ 60 ∧ f.2.natAbs < 10 ^ 60 := by
  unfold valF at h
  cases e1 : valI (Txt.partition z "/").1 with
  | none => rw [e1] at h; cases h
  | some a =>
    rw [e1] at h
    have ba := (valI_some e1).2.2
    have h : (if (Txt.partition z "/").2.1 = "" then some (a, (1 : Int)) else match valI (Txt.partition z "/").2.2 with | none => none | some b => if b < 2 ∨ g2 a b ≠ 1 then none else some (a, b)) = some f := h
    by_cases c : (Txt.partition z "/").2.1 = ""
    · rw [if_pos c] at h
      cases h
      exact ⟨⟨by show (0 : Int) < 1; decide, Nat.gcd_one_right _⟩, ba, by show (1 : Nat) < 10 ^ 60; decide +kernel⟩
    · rw [if_neg c] at h
      cases e2 : valI (Txt.partition z "/").2.2 with
      | none => rw [e2] at h; cases h
      | some b =>
        rw [e2] at h
        have h : (if b < 2 ∨ g2 a b ≠ 1 then none else some (a, b)) = some f := h
        by_cases c2 : b < 2 ∨ g2 a b ≠ 1
        · rw [if_pos c2] at h; cases h
        · rw [if_neg c2] at h
          cases h
          have c3 : ¬ b < 2 := fun z => c2 (.inl z)
          have c4 : g2 a b = 1 := Decidable.not_not.mp fun z => c2 (.inr z)
          exact ⟨⟨by show 0 < b; omega, Int.ofNat.inj c4⟩, ba, (valI_some e2).2.2⟩
theorem valFs_some : ∀ {ws : List Str} {fs : List (Int × Int)}, fs.length = ws.length → (∀ (i : Nat) (f : Int × Int), fs[i]? = some f → ∃ z : Str, ws[i]? = some z ∧ valF z = some f) → valFs ws = some fs
  | [], [], _, _ => rfl
  | [], _ :: _, h, _ => by cases h
  | _ :: _, [], h, _ => by cases h
  | z :: r, f :: fs, h, g => by
    obtain ⟨z', h1, h2⟩ := g 0 f rfl
    cases h1
    have ih := valFs_some (ws := r) (fs := fs) (Nat.succ.inj h) fun i f' e => g (i + 1) f' e
    show (match valF z with | none => none | some f => (valFs r).map (f :: ·)) = _
    rw [h2, ih]
    rfl
abbrev s_read_point : Stmt := topS 26
theorem sc_read_point : FnScope ["d", "text", "words", "word"] ["d", "text"] (defScope s_read_point) := ⟨rfl, rfl, rfl, by decide +kernel, rfl, by decide +kernel, by decide +kernel⟩
def spRPX (T D : Addr) : Sp := fun vs H Q E => ∃ (d : Nat) (z : Str), vs = [.int d, .str z] ∧ z.length ≤ 600 ∧ 1 ≤ d ∧ d ≤ 10 ∧ (Txt.split z " ").length ≤ 600 ∧ (∀ y ∈ Txt.split z " ", y.length ≤ 600) ∧ TabG H T ∧
  (∀ fs, (Txt.split z " ").length = d → valFs (Txt.split z " ") = some fs → ∀ (H' : Hp) (r : Addr), SmT T H H' → Vc H' r (over1 (lcmD fs) fs) → Q (.ref r) H') ∧ ((Txt.split z " ").length ≠ d ∨ valFs (Txt.split z " ") = none → ∀ H', SmT T H H' → E (.ref D) none H')
theorem ok_rpX {f T D : Addr} {fd : FuncData} {k : Nat} (F : Fun K "read_point" "read_point" s_read_point f fd) (Z : Glb mg) (E_BadText : Er K mg "BadText" D)
    (Cread_fraction : CallX P w K mg base k "read_fraction" ["text"] (spRdFX T D))
    (Cmade_point : Call P w K mg base k "made_point" ["coordinates"] spMadePt) : FnOk P w K mg base (L2.CX P w) (k + 1) f fd ["d", "text"] (spRPX T D) := by
  refine F.okX sc_read_point (fun vs H Q E h => ?_) (fun cdv A outer s H vs Q E hr h => ?_)
  · obtain ⟨d, z, rfl, _⟩ := h
    rfl
  · obtain ⟨d, z, rfl, zl, d1, d4, nw, wl, hT, q, qe⟩ := h
    refine ⟨_, (pss_cons (ps_set (i := 2) sc_read_point.nd rfl (.inl rfl) (pe_split (pv 1) pe_str))
      (pss_cons (ps_if (pt_cmpR op_ne (pe_callB call_len_seq (by rfl) Z.m_len PySem.boot_len (pa_cons (pv 2) pa_nil)) (pv 0) (nomark _)) (pss_one (raiseE E_BadText rfl (takes_of rfl rfl rfl rfl) (by rfl))) pss_nil)
      (pss_one (ps_ret (pe_call Cmade_point.G hr (by rfl) Cmade_point.m Cmade_point.kp Cmade_point.b .nil pass0 (pa_cons (HwX.pe_lcF (i := 3) (x := "word") rfl rfl (takes_of rfl rfl rfl rfl) rfl sc_read_point.nd rfl (blkOk_by (own := [("word", 3)]) (N := ["d", "text", "words", "word"]) (sc := defScope s_read_point) (by first | decide +kernel | kernel_rfl)) (by decide +kernel) (by decide +kernel) (pv 2) (fun _ _ _ _ h => h) (fun _ _ _ _ pas => pe_call Cread_fraction.G hr (by rfl) Cread_fraction.m Cread_fraction.kp Cread_fraction.b .nil pas (pa_cons (pv 3) pa_nil))) pa_nil)))))), ?_⟩
    refine ⟨_, rfl, ⟨_, rfl⟩, _, _, rfl, rfl, rfl, Nat.le_of_lt (small1000 (by omega)), fun p np => ?_⟩
    generalize Txt.split z " " = ws at *
    have s1 := same_upd (o := .lst (ws.map V.str)) np
    have ep : (upd H p (.lst (ws.map V.str))) p = some (.lst (ws.map V.str)) := upd_same
    have m1 := smT_same hT s1
    generalize upd H p (.lst (ws.map V.str)) = H1 at *
    refine ⟨_, rfl, _, _, rfl, .inl (SqL.of ep), _, rfl, rfl, _, rfl, ?_⟩
    have lw : (ws.map V.str).length = ws.length := List.length_map ..
    rw [lw]
    by_cases hd : ws.length = d
    · rw [show ((ws.length : Nat) : Int) = (d : Int) by rw [hd]]
      refine ite2 (fun e => absurd e (by rw [dec_int]; simp)) (fun _ => ?_)
      refine ⟨_, rfl, ?_⟩
      refine ⟨p, ws.map V.str, rfl, SqL.of ep, fun n acc H' => ∃ (fs : List (Int × Int)) (rs : List Addr), fs.length = n ∧ rs.length = n ∧ acc = rs.map V.ref ∧ (∀ (i : Nat) (f : Int × Int), fs[i]? = some f → ∃ y : Str, ws[i]? = some y ∧ valF y = some f) ∧ (∀ (i : Nat) (r : Addr), rs[i]? = some r → ∃ f, fs[i]? = some f ∧ Vc H' r [f.1, f.2]) ∧ SmT T H1 H',
        ⟨[], [], rfl, rfl, rfl, fun i f h => (by rw [List.getElem?_nil] at h; cases h), fun i r h => (by rw [List.getElem?_nil] at h; cases h), .refl m1.1⟩, fun n acc H2 hP => ?_, fun n x acc H2 hx hn hP => ?_, fun acc H2 hn hP D' nD => ?_⟩
      · obtain ⟨fs, rs, _, _, _, _, _, m2⟩ := hP
        exact SqL.of (m2.2 _ _ (tabG_neL m1.1 ep) ep)
      · obtain ⟨fs, rs, lf, lr, ea, g1, g2, m2⟩ := hP
        rw [List.getElem?_map] at hx
        obtain ⟨y, hy, rfl⟩ := Option.map_eq_some_iff.mp hx
        refine ⟨_, rfl, y, rfl, by have := wl y (List.mem_of_getElem? hy); omega, m2.1, fun a b hv H3 r m3 hr3 => ?_, fun hv H3 m3 => ?_⟩
        · refine ⟨fs ++ [(a, b)], rs ++ [r], by rw [List.length_append, lf]; rfl, by rw [List.length_append, lr]; rfl, by rw [ea, List.map_append]; rfl, fun i f hf => ?_, fun i t ht => ?_, m2.trans m3⟩
          · rw [List.getElem?_append] at hf
            split at hf
            · exact g1 i f hf
            · have hj := lt_of_get hf
              rw [List.length_singleton] at hj
              have hi : i = fs.length := by omega
              subst hi
              rw [Nat.sub_self] at hf
              cases hf
              exact ⟨y, by rw [lf]; exact hy, hv⟩
          · rw [List.getElem?_append] at ht
            split at ht
            · obtain ⟨f, h1, h2⟩ := g2 i t ht
              exact ⟨f, by rw [List.getElem?_append_left (lt_of_get h1)]; exact h1, h2.smT m2.1 m3⟩
            · have hj := lt_of_get ht
              rw [List.length_singleton] at hj
              have hi : i = rs.length := by omega
              subst hi
              rw [Nat.sub_self] at ht
              cases ht
              refine ⟨(a, b), ?_, hr3⟩
              rw [lr, ← lf, List.getElem?_append_right (Nat.le_refl _), Nat.sub_self]
              rfl
        · exact qe (.inr (valFs_none (List.mem_of_getElem? hy) hv)) H3 ((m1.trans m2).trans m3)
      · obtain ⟨fs, rs, lf, lr, ea, g1, g2, m2⟩ := hP
        subst ea
        rw [lw] at lf lr
        have vs := valFs_some lf g1
        have m12 := m1.trans m2
        have sD := same_upd (o := .lst (rs.map V.ref)) nD
        have vf : ∀ f ∈ fs, ∃ y, valF y = some f := fun f hf => by
          obtain ⟨j, hj⟩ := List.getElem?_of_mem hf
          obtain ⟨y, _, h⟩ := g1 j f hj
          exact ⟨y, h⟩
        refine ⟨D', fs, rfl, ⟨rs, upd_same, by omega, fun i r hr => ?_⟩, fun f hf => ?_, fun f hf => ?_, fun f hf => ?_, by omega, by omega, fun H3 r s3 hr3 => ?_⟩
        · obtain ⟨f, h1, h2⟩ := g2 i r hr
          obtain ⟨y, hy⟩ := vf f (List.mem_of_getElem? h1)
          obtain ⟨o1, o2, o3⟩ := valF_ok hy
          exact ⟨f, h1, sD _ _ h2, o1.1, Nat.lt_trans o2 (by decide +kernel), Nat.lt_trans o3 (by decide +kernel)⟩
        · obtain ⟨y, hy⟩ := vf f hf
          exact (valF_ok hy).1
        · obtain ⟨y, hy⟩ := vf f hf
          exact Nat.lt_trans (valF_ok hy).2.2 (by decide +kernel)
        · obtain ⟨y, hy⟩ := vf f hf
          exact Nat.lt_trans (valF_ok hy).2.1 (by decide +kernel)
        · exact q fs hd vs H3 r (m12.trans (smT_same m12.1 (sD.trans s3))) hr3
    · refine ite2 (fun _ => qe (.inl hd) H1 m1) (fun e => ?_)
      refine absurd ?_ e
      rw [dec_int]
      simp
      omega

abbrev s_is_integer : Stmt := topS 12
theorem sc_is_integer : FnScope ["value"] ["value"] (defScope s_is_integer) := ⟨rfl, rfl, rfl, by decide +kernel, rfl, by decide +kernel, by decide +kernel⟩
theorem ok_pint {f : Addr} {fd : FuncData} {k : Nat} (F : Fun K "is_integer" "is_integer" s_is_integer f fd) (Z : Glb mg) : FnOk P w K mg base CX0 (k + 1) f fd ["value"] (spIsI K "value") := by
  refine F.ok sc_is_integer (fun vs H Q E h => ?_) (fun cdv A outer s H vs Q E hr h => ?_)
  · obtain ⟨v, rfl, _⟩ := h
    rfl
  · obtain ⟨v, rfl, ⟨t, i, b, ⟨T, ty, ht, hi, hb⟩, e⟩, q⟩ := h
    refine ⟨_, (pss_one (ps_ret (pe_and (pe_callB (id := "isinstance") (r := rIsi K) call_isi (by rfl) Z.m_isinstance (by decide +kernel) (pa_cons (pv 0) (pa_cons (pe_bltn (u := .type "int") (v := .ty "int") (by rfl) Z.m_int (by decide +kernel) rfl) pa_nil))) (pe_one (pe_not (pe_callB (id := "isinstance") (r := rIsi K) call_isi (by rfl) Z.m_isinstance (by decide +kernel) (pa_cons (pv 0) (pa_cons (pe_bltn (u := .type "bool") (v := .ty "bool") (by rfl) Z.m_bool (by decide +kernel) rfl) pa_nil)))))))), ?_⟩
    rw [e] at q
    refine ⟨_, rfl, _, _, _, _, _, rfl, ClsV.ty _, ty, kit_ty hi, i, rfl, ?_⟩
    cases i with
    | false => exact iteF q
    | true => exact iteT ⟨_, rfl, _, _, _, _, _, rfl, ClsV.ty _, ty, kit_ty hb, b, rfl, q⟩

abbrev s_is_vector : Stmt := topS 13
theorem sc_is_vector : FnScope ["length", "value", "entry"] ["length", "value"] (defScope s_is_vector) := ⟨rfl, rfl, rfl, by decide +kernel, rfl, by decide +kernel, by decide +kernel⟩
theorem ok_pvec {f : Addr} {fd : FuncData} {k : Nat} (F : Fun K "is_vector" "is_vector" s_is_vector f fd) (Z : Glb mg)
    (Cis_integer : Call P w K mg base k "is_integer" ["value"] (spIsI K "value")) : FnOk P w K mg base CX0 (k + 1) f fd ["length", "value"] (spIsVec "length" "value") := by
  refine F.ok sc_is_vector (fun vs H Q E h => ?_) (fun cdv A outer s H vs Q E hr h => ?_)
  · obtain ⟨L, v, p, B, n, rfl, _⟩ := h
    rfl
  · obtain ⟨L, v, p, B, n, rfl, d, hB, q⟩ := h
    refine ⟨_, (pss_one (ps_ret (pe_and (pe_callB (id := "isinstance") (r := rIsi K) call_isi (by rfl) Z.m_isinstance (by decide +kernel) (pa_cons (pv 1) (pa_cons (pe_bltn (u := .type "tuple") (v := .ty "tuple") (by rfl) Z.m_tuple (by decide +kernel) rfl) pa_nil))) (pe_and (pe_cmpR op_eq (pe_callB call_len_seq (by rfl) Z.m_len PySem.boot_len (pa_cons (pv 1) pa_nil)) (pv 0) (nomark _)) (pe_one (pe_callB (cr_all rfl) (by rfl) Z.m_all (by decide +kernel) (pa_cons (pe_lc (own := [("entry", 2)]) (g := gName 2) (tt := tYes) (by rfl) sc_is_vector.nd (pi_tup (pv 1)) (blkOk_by (own := [("entry", 2)]) (N := ["length", "value", "entry"]) (sc := defScope s_is_vector) (by first | decide +kernel | kernel_rfl)) (fun _ _ _ _ _ => (pg_name (i := 2) sc_is_vector.nd rfl (.inl rfl))) (fun _ _ _ _ _ => pts_nil) (fun _ _ _ _ _ => (pe_call Cis_integer.G hr (by rfl) Cis_integer.m Cis_integer.kp Cis_integer.b .nil pass0 (pa_cons (pv 2) pa_nil)))) pa_nil))))))), ?_⟩
    rcases d.kinds with ⟨a, xs, m, rfl, ha, hl, rfl, hx, ⟨T, ty, ht, _⟩, _⟩ | ⟨i, rfl, _, ⟨T, ty, ht, _⟩, _⟩ | ⟨i, b, _, ⟨T, ty, ht, _⟩, _, nt, _⟩
    · refine ⟨_, rfl, _, _, _, _, _, rfl, ClsV.ty _, ty, kit_ty ht, true, rfl, iteT ?_⟩
      refine ⟨_, rfl, _, _, rfl, .inr (SqT.of ha), _, rfl, rfl, _, rfl, ?_⟩
      by_cases hL : xs.length = L
      · rw [decide_eq_true (by rw [hL])]
        refine iteT ⟨_, rfl, a, rfl, ⟨_, SqT.of ha⟩, fun D nD => ?_⟩
        refine lc_tup (xs := xs) (fun i H' => ∃ H0, Same H H0 ∧ H0 D = none ∧ H' = upd H0 D (.lst (((xs.map isI).take i).map V.bl))) ⟨H, Same.refl _, nD, rfl⟩ (fun i H' _ hP => ?_) (fun i x H' hxi hP => ?_) (fun H' hP => ?_)
        · obtain ⟨H0, s0, n0, rfl⟩ := hP
          exact SqT.of ((s0.trans (same_upd n0)) _ _ ha)
        · obtain ⟨H0, s0, n0, rfl⟩ := hP
          refine ⟨rfl, ?_⟩
          unfold tYes
          refine iteT ?_
          have dx := (hx x (List.mem_of_getElem? hxi)).same (s0.trans (same_upd (o := .lst (((xs.map isI).take i).map V.bl)) n0))
          refine ⟨_, rfl, _, rfl, dx.isInt, _, upd_same, ?_, H0, s0, n0, ?_⟩
          · rw [List.length_map, List.length_take]
            exact Nat.lt_of_le_of_lt (Nat.min_le_right _ _) (small1000 (by rw [List.length_map]; omega))
          · have hg : (xs.map isI)[i]? = some (isI x) := by
              rw [List.getElem?_map, hxi]
              rfl
            rw [upd_upd, take_get hg, List.map_append]
            rfl
        · obtain ⟨H0, s0, n0, rfl⟩ := hP
          rw [show xs.length = (xs.map isI).length by rw [List.length_map], List.take_length]
          refine ⟨D, _, rfl, SqL.of upd_same, q _ _ (s0.trans (same_upd n0)) ?_⟩
          rw [vec_iff ha, List.all_map]
          exact ⟨fun z => ⟨hL, z⟩, fun z => z.2⟩
      · rw [decide_eq_false (fun z => hL (by have := V.int.inj z; omega))]
        exact iteF (q _ _ (Same.refl _) ⟨(fun z => nomatch z), fun z => absurd ((vec_iff ha).mp z).1 hL⟩)
    · exact ⟨_, rfl, _, _, _, _, _, rfl, ClsV.ty _, ty, kit_ty ht, false, rfl, iteF (q _ _ (Same.refl _) ⟨(fun z => nomatch z), fun z => by obtain ⟨a, xs, e, _⟩ := vec_tup z; cases e⟩)⟩
    · exact ⟨_, rfl, _, _, _, _, _, rfl, ClsV.ty _, ty, kit_ty ht, false, rfl, iteF (q _ _ (Same.refl _) ⟨(fun z => nomatch z), fun z => absurd z (not_vec nt)⟩)⟩

theorem vc_eq {H : Hp} {a : Addr} {ns ms : List Int} (h : Vc H a ns) (h' : Vc H a ms) : ns = ms := by
  have e := h.symm.trans h'
  injection e with e
  injection e with e
  exact List.map_inj_right (fun x y z => V.int.inj z) |>.mp e
def IsPt (H : Hp) (v : V) (L : Nat) : Prop := ∃ a ns, v = .ref a ∧ Vc H a ns ∧ ns.length = L ∧ (∃ n, ns[0]? = some n ∧ 0 < n) ∧ gl ns = 1
def IsIq (H : Hp) (v : V) (L : Nat) : Prop := ∃ a ns, v = .ref a ∧ Vc H a ns ∧ ns.length = L ∧ ((ns.drop 1).any fun n => n != 0) = true ∧ gl ns = 1
def spIs (R : Hp → V → Nat → Prop) : Sp := fun vs H Q _ => ∃ (d : Nat) (v : V) (p : Addr) (B n : Nat), vs = [.int d, v] ∧ 1 ≤ d ∧ Dt p H B n v ∧ B ≤ 500 ∧ ∀ (H' : Hp) (b : Bool), Same H H' → (b = true ↔ R H v (d + 1)) → Q (.bl b) H'
theorem cut1 (xs : List V) : cutV xs (some 1) none = xs.drop 1 := by
  unfold cutV
  rw [show HT.sIx xs.length 0 (some 1) = min 1 xs.length from HT.sIx_nat xs.length 0 1, HT.sIx_none]
  cases xs with
  | nil => rfl
  | cons x r =>
    rw [show min 1 (x :: r).length = 1 by rw [List.length_cons]; omega]
    exact List.take_of_length_le (by rw [List.length_drop]; exact Nat.le_refl _)
abbrev s_is_inequality : Stmt := topS 21
theorem sc_is_inequality : FnScope ["d", "value"] ["d", "value"] (defScope s_is_inequality) := ⟨rfl, rfl, rfl, by decide +kernel, rfl, by decide +kernel, by decide +kernel⟩
theorem ok_iq {f : Addr} {fd : FuncData} {k : Nat} (F : Fun K "is_inequality" "is_inequality" s_is_inequality f fd) (Z : Glb mg)
    (Cis_vector : Call P w K mg base k "is_vector" ["length", "value"] (spIsVec "length" "value"))
    (Ccommon_divisor : Call P w K mg base k "common_divisor" ["v"] spCd) : FnOk P w K mg base CX0 (k + 1) f fd ["d", "value"] (spIs IsIq) := by
  refine F.ok sc_is_inequality (fun vs H Q E h => ?_) (fun cdv A outer s H vs Q E hr h => ?_)
  · obtain ⟨d, v, p, B, n, rfl, _⟩ := h
    rfl
  · obtain ⟨d, v, p, B, n, rfl, hd, D, hB, q⟩ := h
    refine ⟨_, (pss_one (ps_ret (pe_and (pe_call Cis_vector.G hr (by rfl) Cis_vector.m Cis_vector.kp Cis_vector.b .nil pass0 (pa_cons (pe_op op_add (pv 0) pe_int) (pa_cons (pv 1) pa_nil))) (pe_and (pe_callB (cr_anyT rfl) (by rfl) Z.m_any (by decide +kernel) (pa_cons (pe_slice (r := rSlA K) sl_tupA (pv 1) (po_some pe_int) po_none) pa_nil)) (pe_one (pe_cmpR op_eq (pe_call Ccommon_divisor.G hr (by rfl) Ccommon_divisor.m Ccommon_divisor.kp Ccommon_divisor.b .nil pass0 (pa_cons (pv 1) pa_nil)) pe_int (nomark _))))))), ?_⟩
    refine ⟨_, rfl, _, _, rfl, rfl, _, rfl, d + 1, v, p, B, n, rfl, D, hB, fun H1 b s1 hb => ⟨b, rfl, ?_⟩⟩
    cases b with
    | false => exact iteF (q _ _ s1 ⟨(fun z => nomatch z), fun ⟨a, ns, e, h1, h2, _⟩ => by have := hb.mpr ⟨a, ns, e, h1, h2⟩; cases this⟩)
    | true =>
      obtain ⟨a, ns, rfl, hv, hL⟩ := hb.mp rfl
      have hv1 := hv.same s1
      refine iteT ⟨_, rfl, 1, rfl, ?_⟩
      unfold tNoPart
      refine sl_h hv1 fun H2 r s2 hr2 => ?_
      rw [cut1, ← List.map_drop] at hr2
      refine ⟨r, ns.drop 1, rfl, SqT.of hr2, _, rfl, ite2 (fun e => ?_) (fun e => ?_)⟩
      · refine ⟨_, rfl, a, ns, rfl, hv1.same s2, rfl, q _ _ (s1.trans s2) ?_⟩
        rw [decide_eq_true_iff]
        constructor
        · intro z
          exact ⟨a, ns, rfl, hv, hL, e, V.int.inj z⟩
        · rintro ⟨a', ns', e', h1, h2, h3, h4⟩
          cases e'
          rw [vc_eq hv h1, h4]
      · refine q _ _ (s1.trans s2) ⟨(fun z => nomatch z), ?_⟩
        rintro ⟨a', ns', e', h1, h2, h3, h4⟩
        cases e'
        rw [← vc_eq hv h1] at h3
        exact absurd h3 e

/-! ### an inequality's text, for every text -/
def valIs : List Str → Option (List Int)
  | [] => some []
  | z :: r => match valI z with
    | none => none
    | some n => (valIs r).map (n :: ·)
theorem valIs_none : ∀ {ws : List Str} {z : Str}, z ∈ ws → valI z = none → valIs ws = none
  | [], _, h, _ => nomatch h
  | y :: r, z, h, e => by
    rcases List.mem_cons.mp h with q | q
    · subst q
      show (match valI z with | none => none | some n => (valIs r).map (n :: ·)) = none
      rw [e]
    · show (match valI y with | none => none | some n => (valIs r).map (n :: ·)) = none
      rw [valIs_none q e]
      cases valI y <;> rfl
theorem valIs_some : ∀ {ws : List Str} {ns : List Int}, ns.length = ws.length → (∀ (i : Nat) (n : Int), ns[i]? = some n → ∃ z : Str, ws[i]? = some z ∧ valI z = some n) → valIs ws = some ns
  | [], [], _, _ => rfl
  | [], _ :: _, h, _ => by cases h
  | _ :: _, [], h, _ => by cases h
  | z :: r, n :: ns, h, g => by
    obtain ⟨z', h1, h2⟩ := g 0 n rfl
    cases h1
    have ih := valIs_some (ws := r) (ns := ns) (Nat.succ.inj h) fun i f' e => g (i + 1) f' e
    show (match valI z with | none => none | some n => (valIs r).map (n :: ·)) = _
    rw [h2, ih]
    rfl
/-- the rows that are inequalities -/
def IqN (d : Nat) (ns : List Int) : Prop := ns.length = d + 1 ∧ ((ns.drop 1).any fun n => n != 0) = true ∧ gl ns = 1
theorem iq_n {H : Hp} {a : Addr} {ns : List Int} {d : Nat} (h : Vc H a ns) : IsIq H (.ref a) (d + 1) ↔ IqN d ns := by
  constructor
  · rintro ⟨a', ns', e, h1, h2, h3, h4⟩
    cases e
    have := vc_eq h h1
    subst this
    exact ⟨h2, h3, h4⟩
  · rintro ⟨h2, h3, h4⟩
    exact ⟨a, ns, rfl, h, h2, h3, h4⟩
abbrev s_read_inequality : Stmt := topS 27
theorem sc_read_inequality : FnScope ["d", "text", "found", "word"] ["d", "text"] (defScope s_read_inequality) := ⟨rfl, rfl, rfl, by decide +kernel, rfl, by decide +kernel, by decide +kernel⟩
def spRIX (T D : Addr) : Sp := fun vs H Q E => ∃ (d : Nat) (z : Str), vs = [.int d, .str z] ∧ z.length ≤ 600 ∧ 1 ≤ d ∧ (Txt.split z " ").length ≤ 400 ∧ (∀ y ∈ Txt.split z " ", y.length ≤ 600) ∧ TabG H T ∧
  (∀ ns, valIs (Txt.split z " ") = some ns → IqN d ns → ∀ (H' : Hp) (r : Addr), SmT T H H' → Vc H' r ns → Q (.ref r) H') ∧ ((∀ ns, valIs (Txt.split z " ") = some ns → ¬ IqN d ns) → ∀ H', SmT T H H' → E (.ref D) none H')
theorem ok_riX {f T D : Addr} {fd : FuncData} {k : Nat} (F : Fun K "read_inequality" "read_inequality" s_read_inequality f fd) (Z : Glb mg) (E_BadText : Er K mg "BadText" D)
    (Cread_integer : CallX P w K mg base k "read_integer" ["text", "most_digits"] (spRdIX T D))
    (Cis_inequality : Call P w K mg base k "is_inequality" ["d", "value"] (spIs IsIq)) : FnOk P w K mg base (L2.CX P w) (k + 1) f fd ["d", "text"] (spRIX T D) := by
  refine F.okX sc_read_inequality (fun vs H Q E h => ?_) (fun cdv A outer s H vs Q E hr h => ?_)
  · obtain ⟨d, z, rfl, _⟩ := h
    rfl
  · obtain ⟨d, z, rfl, zl, d1, nw, wl, hT, q, qe⟩ := h
    refine ⟨_, (pss_cons (ps_set (i := 2) sc_read_inequality.nd rfl (.inl rfl) (pe_callTy call_tuple_of (by rfl) Z.m_tuple (by decide +kernel) (pa_cons (HwX.pe_lcF (i := 3) (x := "word") rfl rfl (takes_of rfl rfl rfl rfl) rfl sc_read_inequality.nd rfl (blkOk_by (own := [("word", 3)]) (N := ["d", "text", "found", "word"]) (sc := defScope s_read_inequality) (by first | decide +kernel | kernel_rfl)) (by decide +kernel) (by decide +kernel) (pe_split (pv 1) pe_str) (fun _ _ _ _ h => h) (fun _ _ _ _ pas => pe_call Cread_integer.G hr (by rfl) Cread_integer.m Cread_integer.kp Cread_integer.b .nil pas (pa_cons (pv 3) (pa_cons (pe_glob (v := .int 60) (by rfl) (Z.m_most).choose_spec ⟨_, rfl⟩) pa_nil)))) pa_nil)))
      (pss_cons (ps_if (pt_not (pt_val (pe_call Cis_inequality.G hr (by rfl) Cis_inequality.m Cis_inequality.kp Cis_inequality.b .nil pass0 (pa_cons (pv 0) (pa_cons (pv 2) pa_nil))))) (pss_one (raiseE E_BadText rfl (takes_of rfl rfl rfl rfl) (by rfl))) pss_nil)
      (pss_one (ps_ret (pv 2))))), ?_⟩
    refine ⟨_, rfl, ⟨_, rfl⟩, _, _, rfl, rfl, rfl, Nat.le_of_lt (small1000 (by omega)), fun p np => ?_⟩
    generalize Txt.split z " " = ws at *
    have s1 := same_upd (o := .lst (ws.map V.str)) np
    have ep : (upd H p (.lst (ws.map V.str))) p = some (.lst (ws.map V.str)) := upd_same
    have m1 := smT_same hT s1
    generalize upd H p (.lst (ws.map V.str)) = H1 at *
    have lw : (ws.map V.str).length = ws.length := List.length_map ..
    refine ⟨p, ws.map V.str, rfl, SqL.of ep, fun n acc H' => ∃ ns : List Int, ns.length = n ∧ acc = ns.map V.int ∧ (∀ (i : Nat) (n : Int), ns[i]? = some n → ∃ y : Str, ws[i]? = some y ∧ valI y = some n) ∧ SmT T H1 H',
        ⟨[], rfl, rfl, fun i f h => (by rw [List.getElem?_nil] at h; cases h), .refl m1.1⟩, fun n acc H2 hP => ?_, fun n x acc H2 hx hn hP => ?_, fun acc H2 hn hP D' nD => ?_⟩
    · obtain ⟨ns, _, _, _, m2⟩ := hP
      exact SqL.of (m2.2 _ _ (tabG_neL m1.1 ep) ep)
    · obtain ⟨ns, lf, ea, g1, m2⟩ := hP
      rw [List.getElem?_map] at hx
      obtain ⟨y, hy, rfl⟩ := Option.map_eq_some_iff.mp hx
      refine ⟨_, rfl, y, rfl, by have := wl y (List.mem_of_getElem? hy); omega, m2.1, fun a hv H3 t3 => ?_, fun hv H3 t3 => ?_⟩
      · refine ⟨ns ++ [a], by rw [List.length_append, lf]; rfl, by rw [ea, List.map_append]; rfl, fun i f hf => ?_, m2.trans (smT_tab t3)⟩
        rw [List.getElem?_append] at hf
        split at hf
        · exact g1 i f hf
        · have hj := lt_of_get hf
          rw [List.length_singleton] at hj
          have hi : i = ns.length := by omega
          subst hi
          rw [Nat.sub_self] at hf
          cases hf
          exact ⟨y, by rw [lf]; exact hy, hv⟩
      · have hn0 := valIs_none (List.mem_of_getElem? hy) hv
        exact qe (fun ns h => by rw [hn0] at h; cases h) H3 ((m1.trans m2).trans (smT_tab t3))
    · obtain ⟨ns, lf, ea, g1, m2⟩ := hP
      subst ea
      rw [lw] at lf
      have vs := valIs_some lf g1
      have m12 := m1.trans m2
      have m3 := m12.trans (smT_same m12.1 (same_upd (o := .lst (ns.map V.int)) nD))
      refine ⟨D', _, rfl, .inl ⟨SqL.of upd_same, fun t nt => ?_⟩⟩
      have s4 := same_upd (o := .tup (ns.map V.int)) nt
      have m4 := m3.trans (smT_same m3.1 s4)
      have ht : (upd (upd H2 D' (.lst (ns.map V.int))) t (.tup (ns.map V.int))) t = some (.tup (ns.map V.int)) := upd_same
      generalize upd (upd H2 D' (.lst (ns.map V.int))) t (.tup (ns.map V.int)) = H4 at *
      have vt : Vc H4 t ns := ht
      have small : ∀ n ∈ ns, n.natAbs < 2 ^ 400 := fun n hn => by
        obtain ⟨j, hj⟩ := List.getElem?_of_mem hn
        obtain ⟨y, _, h⟩ := g1 j n hj
        exact Nat.lt_trans (valI_some h).2.2 (by decide +kernel)
      refine ⟨_, rfl, _, rfl, d, .ref t, t, 400, 1, rfl, d1, .tup ht (by rw [List.length_map]; omega) (fun x hx => by obtain ⟨n, hn, rfl⟩ := List.mem_map.mp hx; exact .int 0 n (small n hn)), by decide, fun H5 b s5 hb => ?_⟩
      have m5 := m4.trans (smT_same m4.1 s5)
      rw [iq_n vt] at hb
      refine ⟨b, rfl, ?_⟩
      cases b with
      | true => exact iteF ⟨_, rfl, q ns vs (hb.mp rfl) H5 t m5 (vt.same s5)⟩
      | false => exact iteT (qe (fun ns' h => by rw [vs] at h; cases h; exact fun z => absurd (hb.mpr z) Bool.false_ne_true) H5 m5)

/-! ### the law's reader of fractions -/
theorem valI_slash {z : Str} (h : 47 ∈ TL.tl z) : valI z = none := by
  refine valI_bad fun ok => ?_
  have h2 := ((isNum_iff _).mp ((okI_iff z).mp ok).2.1).2.1
  have td := tl_digs z
  have hm : 47 ∈ TL.tl (digs z) := by
    rw [td]
    split
    · rename_i h45
      cases hz : TL.tl z with
      | nil => rw [hz] at h; cases h
      | cons c r =>
        rw [hz] at h h45
        rcases List.mem_cons.mp h with e | e
        · subst e; cases h45
        · exact e
    · exact h
  exact absurd (mem_digits.mpr (h2 _ hm)) (by decide +kernel)
theorem valF_a {z : Str} (h : Txt.partition z "/" = (z, (("" : Str), ("" : Str)))) : valF z = match valI z with | none => none | some a => some (a, 1) := by
  unfold valF
  rw [h]
  show (match valI z with | none => none | some a => if ("" : Str) = ("" : Str) then some (a, (1 : Int)) else _) = _
  cases valI z with
  | none => rfl
  | some a => exact if_pos rfl
theorem valF_b {z t b : Str} (h : Txt.partition z "/" = (t, ("/" : Str), b)) : valF z = match valI t with | none => none | some a => match valI b with | none => none | some c => if c < 2 ∨ g2 a c ≠ 1 then none else some (a, c) := by
  unfold valF
  rw [h]
  show (match valI t with | none => none | some a => if ("/" : Str) = ("" : Str) then some (a, (1 : Int)) else match valI b with | none => none | some b => if b < 2 ∨ g2 a b ≠ 1 then none else some (a, b)) = _
  cases valI t with
  | none => rfl
  | some a => exact if_neg (by decide)
theorem le_sum {l : List Nat} {n : Nat} (h : n ∈ l) : n ≤ l.sum := by
  induction l with
  | nil => cases h
  | cons a r ih =>
    rw [List.sum_cons]
    rcases List.mem_cons.mp h with e | e
    · omega
    · have := ih e; omega
theorem valF_split (z : Str) : (∃ t, Txt.split z "/" = [t] ∧ valF z = match valI t with | none => none | some a => some (a, 1)) ∨ (∃ t b, Txt.split z "/" = [t, b] ∧ valF z = match valI t with | none => none | some a => match valI b with | none => none | some c => if c < 2 ∨ g2 a c ≠ 1 then none else some (a, c)) ∨ (2 < (Txt.split z "/").length ∧ valF z = none) := by
  have hj : Str.join ("/" : Str) (Txt.split z "/") = z := StrLaws.join_split z "/"
  have hf : ∀ p ∈ Txt.split z "/", 47 ∉ TL.tl p := StrLaws.split_free z 47
  have hp := PyProof.Rows.split_pos z "/"
  cases hs : Txt.split z "/" with
  | nil => rw [hs] at hp; exact absurd hp (by decide)
  | cons t r =>
    rw [hs] at hj hf
    cases r with
    | nil =>
      have e : t = z := hj
      subst e
      exact .inl ⟨t, rfl, valF_a (TL.partition_none (s := 47) (S := []) rfl (hf t List.mem_cons_self))⟩
    | cons b r =>
      have e : t ++ "/" ++ Str.join "/" (b :: r) = z := hj
      have pz : Txt.partition z "/" = (t, ("/" : Str), Str.join "/" (b :: r)) := by rw [← e]; exact TL.partition_app (s := 47) (S := []) rfl (hf t List.mem_cons_self)
      cases r with
      | nil => exact .inr (.inl ⟨t, b, rfl, valF_b pz⟩)
      | cons c r =>
        refine .inr (.inr ⟨by rw [List.length_cons, List.length_cons, List.length_cons]; omega, ?_⟩)
        have hb : valI (Str.join "/" (b :: c :: r)) = none := valI_slash (by
          show 47 ∈ TL.tl (b ++ "/" ++ Str.join "/" (c :: r))
          rw [TL.tl_append, TL.tl_append]
          exact List.mem_append_left _ (List.mem_append_right _ List.mem_cons_self))
        rw [valF_b pz, hb]
        cases valI t <;> rfl
theorem in_none (ps : List Str) : inV .non (ps.map fun y => vI (valI y)) = ps.any fun y => (valI y).isNone := by
  unfold inV
  rw [List.any_map]
  congr 1
  funext y
  show eqV (vI (valI y)) .non = _
  cases valI y <;> rfl
theorem flat_vI (ps : List Str) : (ps.map fun y => vI (valI y)).all flatV = true := by
  rw [List.all_map, List.all_eq_true]
  intro y _
  show flatV (vI (valI y)) = true
  cases valI y <;> rfl
abbrev s__law_frac_in : Stmt := topS 41
theorem sc__law_frac_in : FnScope ["text", "parts", "numbers", "part"] ["text"] (defScope s__law_frac_in) := ⟨rfl, rfl, rfl, by decide +kernel, rfl, by decide +kernel, by decide +kernel⟩
def spLFI : Sp := fun vs H Q _ => ∃ z : Str, vs = [.str z] ∧ z.length ≤ 590 ∧ (valF z = none → ∀ H', Same H H' → Q .non H') ∧ (∀ a b, valF z = some (a, b) → ∀ (H' : Hp) (r : Addr), Same H H' → Vc H' r [a, b] → Q (.ref r) H')
theorem ok_lfi {f : Addr} {fd : FuncData} {k : Nat} (F : Fun K "_law_frac_in" "_law_frac_in" s__law_frac_in f fd) (Z : Glb mg)
    (C_law_int_in : Call P w K mg base k "_law_int_in" ["text"] spLII) (C_law_gcd : Call P w K mg base k "_law_gcd" ["a", "b"] spGcd) : FnOk P w K mg base CX0 (k + 1) f fd ["text"] spLFI := by
  refine F.ok sc__law_frac_in (fun vs H Q E h => ?_) (fun cdv A outer s H vs Q E hr h => ?_)
  · obtain ⟨z, rfl, _⟩ := h
    rfl
  · obtain ⟨z, rfl, hl, qn, q⟩ := h
    refine ⟨_, (pss_cons (ps_set (i := 1) sc__law_frac_in.nd rfl (.inl rfl) (pe_split (pv 0) pe_str))
      (pss_cons (ps_setLc (i := 2) (own := [("part", 3)]) (g := gName 3) (tt := tYes) (by rfl) sc__law_frac_in.nd rfl rfl (sw_true rfl rfl rfl (by decide +kernel)) (pi_list (pv 1)) (blkOk_by (own := [("part", 3)]) (N := ["text", "parts", "numbers", "part"]) (sc := defScope s__law_frac_in) (by first | decide +kernel | kernel_rfl)) (fun _ _ _ _ _ => (pg_name (i := 3) sc__law_frac_in.nd rfl (.inl rfl))) (fun _ _ _ _ _ => pts_nil) (fun _ _ _ _ _ => (pe_call C_law_int_in.G hr (by rfl) C_law_int_in.m C_law_int_in.kp C_law_int_in.b .nil pass0 (pa_cons (pv 3) pa_nil))))
      (pss_cons (ps_if (PW.pt (pw_or (pt_cmpR (r := rIn K false) op_in_seq pe_non (pv 2) (by rfl)) (pw_or1 (pt_cmpR op_gt (pe_callB call_len_seq (by rfl) Z.m_len PySem.boot_len (pa_cons (pv 1) pa_nil)) pe_int (nomark _))))) (pss_one (ps_ret pe_non)) pss_nil)
      (pss_cons (ps_if (pt_cmpR op_eq (pe_callB call_len_seq (by rfl) Z.m_len PySem.boot_len (pa_cons (pv 1) pa_nil)) pe_int (nomark _)) (pss_one (ps_ret (pe_tup (pa_cons (pe_ix (r := rIxL K) ix_list (pv 2) pe_int (fun _ _ => rfl)) (pa_cons pe_int pa_nil))))) pss_nil)
      (pss_one (ps_ret (pe_ifExp (PW.pt (pw_and (pt_cmpR op_gt (pe_ix (r := rIxL K) ix_list (pv 2) pe_int (fun _ _ => rfl)) pe_int (nomark _)) (pw_and1 (pt_cmpR op_eq (pe_call C_law_gcd.G hr (by rfl) C_law_gcd.m C_law_gcd.kp C_law_gcd.b .nil pass0 (pa_cons (pe_ix (r := rIxL K) ix_list (pv 2) pe_int (fun _ _ => rfl)) (pa_cons (pe_ix (r := rIxL K) ix_list (pv 2) pe_int (fun _ _ => rfl)) pa_nil))) pe_int (nomark _))))) (pe_callTy call_tuple_of (by rfl) Z.m_tuple (by decide +kernel) (pa_cons (pv 2) pa_nil)) pe_non))))))), ?_⟩
    have sw := PyProof.Rows.split_weight z "/" (by decide)
    have pl : ∀ y ∈ Txt.split z "/", y.length ≤ 600 := fun y hy => by
      have := le_sum (l := (Txt.split z "/").map (·.length)) (n := y.length) (List.mem_map.mpr ⟨y, hy, rfl⟩)
      omega
    have nw : (Txt.split z "/").length ≤ 600 := by omega
    have vz := valF_split z
    refine ⟨_, rfl, ⟨_, rfl⟩, _, _, rfl, rfl, rfl, Nat.le_of_lt (small1000 (by omega)), fun p np => ?_⟩
    generalize Txt.split z "/" = ps at *
    have s1 := same_upd (o := .lst (ps.map V.str)) np
    have ep : (upd H p (.lst (ps.map V.str))) p = some (.lst (ps.map V.str)) := upd_same
    generalize upd H p (.lst (ps.map V.str)) = H1 at *
    refine ⟨_, rfl, p, rfl, ⟨_, SqL.of ep⟩, fun D nD => ?_⟩
    refine lc_list (xs := ps.map V.str) (fun i H' => Same H1 H' ∧ H' D = some (.lst ((ps.take i).map fun y => vI (valI y)))) ⟨same_upd nD, upd_same⟩ (fun i H' _ hP => SqL.of (hP.1 _ _ ep)) (fun i x H' hx hP => ?_) (fun H2 hP => ?_)
    · rw [List.getElem?_map] at hx
      obtain ⟨y, hy, rfl⟩ := Option.map_eq_some_iff.mp hx
      refine ⟨rfl, ?_⟩
      unfold tYes
      refine iteT ?_
      refine ⟨_, rfl, y, rfl, pl y (List.mem_of_getElem? hy), fun H3 s3 => ⟨_, s3 _ _ hP.2, ?_, ?_, ?_⟩⟩
      · rw [List.length_map, List.length_take]
        exact small1000 (by omega)
      · intro x o hx
        rw [upd_ne (ne_of_none hx nD)]
        exact s3 _ _ (hP.1 _ _ hx)
      · rw [upd_same, take_get hy, List.map_append]
        rfl
    · obtain ⟨s2, e2⟩ := hP
      rw [List.length_map, List.take_length] at e2
      have s12 := s1.trans s2
      refine ⟨_, rfl, D, _, rfl, .inl (SqL.of e2), rfl, flat_vI ps, ?_⟩
      rw [in_none]
      refine ⟨_, rfl, ?_⟩
      have ep2 := s2 _ _ ep
      rcases vz with ⟨t, rfl, vz⟩ | ⟨t, b, rfl, vz⟩ | ⟨h3, vz⟩
      · rw [vz] at q qn
        show if ((valI t).isNone || false) = true then _ else _
        have e2 : H2 D = some (.lst [vI (valI t)]) := e2
        cases hv : valI t with
        | none =>
          rw [hv] at qn
          exact iteT (iteT (qn rfl H2 s12))
        | some a =>
          rw [hv] at q e2
          refine iteF ⟨_, rfl, p, _, rfl, .inl (SqL.of ep2), _, _, rfl, rfl, _, rfl, ite2 (fun e => absurd (of_decide_eq_true e) (by show ¬ (2 : Int) < 1; decide)) (fun _ => ?_)⟩
          refine ⟨_, rfl, p, _, rfl, .inl (SqL.of ep2), rfl, _, rfl, ite2 (fun _ => ?_) (fun e => absurd rfl e)⟩
          refine ⟨_, rfl, _, _, _, _, rfl, rfl, SqL.of e2, atI_nat (j := 0) rfl, (show 2 ≤ sizeLine by decide), fun u nu => ?_⟩
          exact q a 1 rfl _ u (s12.trans (same_upd nu)) upd_same
      · rw [vz] at q qn
        show if ((valI t).isNone || ((valI b).isNone || false)) = true then _ else _
        have e2 : H2 D = some (.lst [vI (valI t), vI (valI b)]) := e2
        cases hv : valI t with
        | none =>
          rw [hv] at qn
          exact iteT (iteT (qn rfl H2 s12))
        | some a =>
          rw [hv] at q qn e2
          cases hb : valI b with
          | none =>
            rw [hb] at qn
            exact iteT (iteT (qn rfl H2 s12))
          | some c =>
            rw [hb] at q qn e2
            have e2 : H2 D = some (.lst [.int a, .int c]) := e2
            have cb : c.natAbs < 2 ^ 395 := Nat.lt_trans (valI_some hb).2.2 (by decide +kernel)
            refine iteF ⟨_, rfl, p, _, rfl, .inl (SqL.of ep2), _, _, rfl, rfl, _, rfl, ite2 (fun e => absurd (of_decide_eq_true e) (by show ¬ (2 : Int) < 2; decide)) (fun _ => ?_)⟩
            refine ⟨_, rfl, p, _, rfl, .inl (SqL.of ep2), rfl, _, rfl, ite2 (fun e => absurd (V.int.inj (of_decide_eq_true e)) (by show ¬ (2 : Int) = 1; decide)) (fun _ => ?_)⟩
            refine ⟨_, rfl, _, _, _, _, rfl, rfl, SqL.of e2, atI_nat (j := 1) rfl, _, _, rfl, rfl, _, rfl, ite2 (fun e => ?_) (fun e => ?_)⟩
            · have c1 : (1 : Int) < c := of_decide_eq_true e
              refine ⟨_, rfl, _, _, _, _, rfl, rfl, SqL.of e2, atI_nat (j := 0) rfl, _, rfl, _, _, _, _, rfl, rfl, SqL.of e2, atI_nat (j := 1) rfl, a, c, rfl, cb, rfl, _, rfl, ?_⟩
              by_cases hg : g2 a c = 1
              · rw [hg]
                refine iteT ⟨_, rfl, D, _, rfl, .inl ⟨SqL.of e2, fun u nu => ?_⟩⟩
                exact q a c (if_neg (fun h => h.elim (by omega) (fun h => h hg))) _ u (s12.trans (same_upd nu)) upd_same
              · refine ite2 (fun e4 => ?_) (fun _ => qn (if_pos (.inr hg)) H2 s12)
                exact absurd (V.int.inj (of_decide_eq_true e4)) hg
            · exact qn (if_pos (.inl (by have : ¬ (1 : Int) < c := fun h => e (decide_eq_true h)
                                         omega))) H2 s12
      · have qn := qn vz H2 s12
        cases hb : ps.any fun y => (valI y).isNone with
        | true => exact iteT (iteT qn)
        | false =>
          refine iteF ⟨_, rfl, p, _, rfl, .inl (SqL.of ep2), _, _, rfl, rfl, _, rfl, ite2 (fun _ => qn) (fun e => absurd (decide_eq_true (by rw [List.length_map]; omega)) e)⟩

abbrev s__law_coordinates : Stmt := topS 38
theorem sc__law_coordinates : FnScope ["point", "a"] ["point"] (defScope s__law_coordinates) := ⟨rfl, rfl, rfl, by decide +kernel, rfl, by decide +kernel, by decide +kernel⟩
theorem ok_lcoord {f : Addr} {fd : FuncData} {k : Nat} (F : Fun K "_law_coordinates" "_law_coordinates" s__law_coordinates f fd) (Z : Glb mg)
    (C_law_frac : Call P w K mg base k "_law_frac" ["a", "b"] spFr) : FnOk P w K mg base CX0 (k + 1) f fd ["point"] spCoord := by
  refine F.ok sc__law_coordinates (fun vs H Q E h => ?_) (fun cdv A outer s H vs Q E hr h => ?_)
  · obtain ⟨a, w, xs, rfl, _⟩ := h
    rfl
  · obtain ⟨a, w0, xs, rfl, hv, w1, hw, hB, hl, q⟩ := h
    refine ⟨_, (pss_one (ps_ret (pe_lc (own := [("a", 1)]) (g := gName 1) (tt := tYes) (by rfl) sc__law_coordinates.nd (pi_tup (pe_slice sl_tupA (pv 0) (po_some pe_int) po_none)) (blkOk_by (own := [("a", 1)]) (N := ["point", "a"]) (sc := defScope s__law_coordinates) (by first | decide +kernel | kernel_rfl)) (fun _ _ _ _ _ => (pg_name (i := 1) sc__law_coordinates.nd rfl (.inl rfl))) (fun _ _ _ _ _ => pts_nil) (fun _ _ _ _ _ => (pe_call C_law_frac.G hr (by rfl) C_law_frac.m C_law_frac.kp C_law_frac.b .nil pass0 (pa_cons (pv 1) (pa_cons (pe_ix (r := rIxT K) ix_tup (pv 0) pe_int (fun _ _ => rfl)) pa_nil))))))), ?_⟩
    refine ⟨_, rfl, 1, rfl, ?_⟩
    unfold tNoPart
    refine sl_h hv fun H1 r1 s1 hr1 => ?_
    have e1 : cutV ((w0 :: xs).map V.int) (some 1) none = xs.map V.int := by rw [show (1 : Int) = ((1 : Nat) : Int) from rfl, cut_drop]; rfl
    rw [e1] at hr1
    refine ⟨r1, rfl, ⟨_, SqT.of hr1⟩, fun D nD => ?_⟩
    refine lc_tup (xs := xs.map V.int) (fun i H' => Same H1 H' ∧ ∃ rs : List Addr, H' D = some (.lst (rs.map V.ref)) ∧ rs.length = i ∧ ∀ j r, rs[j]? = some r → ∃ x, xs[j]? = some x ∧ Fr H' r (frN x w0) (frD x w0) 290) ⟨same_upd nD, [], upd_same, rfl, fun j r h => no_get h⟩ (fun i H' _ hP => SqT.of (hP.1 _ _ hr1)) (fun i x H' hx hP => ?_) (fun H' hP => ?_)
    · obtain ⟨sH, rs, eD, lr, gr⟩ := hP
      obtain ⟨n, hn, rfl⟩ := map_get hx
      have hi := lt_of_get hn
      refine ⟨rfl, ?_⟩
      unfold tYes
      refine iteT ?_
      have hn2 := hB n (List.mem_of_getElem? hn)
      refine ⟨_, rfl, _, rfl, _, _, _, _, rfl, rfl, SqT.of (sH _ _ (s1 _ _ hv)), atI_nat (j := 0) rfl, n, w0, rfl, w1, up_pow hn2 (by decide), up_pow hw (by decide), fun t nt => ?_⟩
      have st := same_upd (o := .tup [.int (frN n w0), .int (frD n w0)]) nt
      have Dt : D ≠ t := ne_of_none eD nt
      refine ⟨_, st _ _ eD, by rw [List.length_map]; exact small1000 (by omega), ?_, rs ++ [t], by rw [upd_same, List.map_append]; rfl, by rw [List.length_append, lr]; rfl, fun j r hr => ?_⟩
      · intro y o hy
        have : y ≠ D := ne_of_none hy nD
        rw [upd_ne this]
        exact st _ _ (sH _ _ hy)
      · rw [List.getElem?_append] at hr
        split at hr
        · obtain ⟨y, h1, h2⟩ := gr j r hr
          exact ⟨y, h1, by rw [upd_ne (ne_of h2.1 eD (fun z => nomatch z))]; exact st _ _ h2.1, h2.2⟩
        · rename_i h0
          have hj : j = i := by
            have := lt_of_get hr
            rw [List.length_singleton] at this
            omega
          subst hj
          rw [lr, Nat.sub_self] at hr
          cases hr
          exact ⟨n, hn, by rw [upd_ne Dt.symm]; exact upd_same, frD_pos w1, Nat.lt_of_le_of_lt (frN_abs (by omega)) hn2, Nat.lt_of_le_of_lt (frD_abs (by omega)) hw⟩
    · obtain ⟨sH, rs, eD, lr, gr⟩ := hP
      refine q _ _ (s1.trans sH) ⟨rs, eD, by rw [List.length_map]; rw [List.length_map] at lr; exact lr, fun i r hr => ?_⟩
      obtain ⟨x, h1, h2⟩ := gr i r hr
      exact ⟨(frN x w0, frD x w0), by rw [List.getElem?_map, h1]; rfl, h2⟩
theorem prod_take {fs : List (Int × Int)} {i : Nat} {f : Int × Int} (h : fs[i]? = some f) : prodD (fs.take (i + 1)) = prodD (fs.take i) * f.2 := by
  unfold prodD
  rw [take_get h, List.foldl_append]
  rfl
theorem prod_lim {fs : List (Int × Int)} {B : Nat} (hB : ∀ f ∈ fs, f.2.natAbs < 2 ^ B) : ∀ i, (prodD (fs.take i)).natAbs < 2 ^ (B * i + 1)
  | 0 => by
    show 1 < 2 ^ (B * 0 + 1)
    rw [Nat.mul_zero]
    decide
  | i + 1 => by
    have ih := prod_lim hB i
    cases e : fs[i]? with
    | none =>
      have : fs.take (i + 1) = fs.take i := by
        have := List.getElem?_eq_none_iff.mp e
        rw [List.take_of_length_le (by omega), List.take_of_length_le this]
      rw [this]
      exact up_pow ih (by rw [Nat.mul_succ]; omega)
    | some f =>
      rw [prod_take e]
      exact up_pow (mul_pow ih (hB f (List.mem_of_getElem? e))) (by rw [Nat.mul_succ]; omega)

/-! ### a text many times; the shown text -/
theorem rep_size (c : Array Nat) : ∀ (m : Nat) (a : Array Nat), ((List.replicate m c).foldl (· ++ ·) a).size = a.size + m * c.size
  | 0, a => by
    show a.size = a.size + 0 * c.size
    omega
  | m + 1, a => by
    rw [List.replicate_succ, List.foldl_cons, rep_size c m, Array.size_append, Nat.succ_mul]
    omega
def rMul1 : V → V → Hp → VK → Prop := fun x y H Q => ∃ (z : Str) (n : Nat), x = .str z ∧ y = .int (n : Int) ∧ z.length = 1 ∧ 2 ≤ n ∧ n ≤ 1000 ∧ ∀ t : Str, t.length = n → Q (.str t) H
theorem op_mul1 {X : Cx} : OpR X (binaryOp .Mult) rMul1 := by
  intro pins s σ H x y v u Q I rx ry h
  obtain ⟨z, n, rfl, rfl, hz, h2, h3, q⟩ := h
  obtain ⟨t, rfl⟩ := rx
  obtain ⟨t', rfl⟩ := ry
  have hs : z.cps.size = 1 := hz
  refine PySem.P.mul_str (by rw [decide_eq_false (by omega), decide_eq_false (by omega)]; rfl) (fun _ _ => ?_) (fun _ _ => ?_) ?_
  · rw [hz]
    have : (1 : Int) ≤ (2 ^ 63 - 1) / (n : Int) := Int.le_ediv_of_mul_le (by omega) (by omega)
    show ¬ ((1 : Nat) : Int) > _
    omega
  · rw [hz, Nat.one_mul, Int.toNat_natCast]
    exact decide_eq_false (by have : (1000 : Nat) ≤ sizeLine := by decide
                              omega)
  · rw [if_neg (by omega), if_neg (by rw [hz]; simp; omega)]
    refine ⟨?_, ⟨.str _, H, I.tok _, ⟨_, rfl⟩, q _ ?_⟩⟩
    · show ((List.replicate (n : Int).toNat z.cps).foldl (· ++ ·) #[]).size ≤ _
      rw [rep_size, hs, Int.toNat_natCast]
      show 0 + n * 1 ≤ _
      exact Nat.le_trans (show 0 + n * 1 ≤ 1000 by omega) (by decide)
    · show ((List.replicate (n : Int).toNat z.cps).foldl (· ++ ·) #[]).size = n
      rw [rep_size, hs, Int.toNat_natCast]
      show 0 + n * 1 = n
      omega
theorem dec_wI (n : Int) : dec n = wI n := by
  by_cases h : n < 0
  · have e : wI n = ("-" : Str) ++ dec (-n) := if_pos h
    rw [e]
    unfold dec
    rw [PyProof.Rows.toString_neg h, show (0 : Int) - n = -n by omega]
    apply TL.ext_tl
    rw [TL.tl_append]
    show (Str.ofString ("-" ++ toString (-n))).cps.toList = [45] ++ (Str.ofString (toString (-n))).cps.toList
    rw [PyProof.Rows.signs_ofString, PyProof.Rows.signs_ofString, String.toList_append, List.map_append]
    rfl
  · exact (if_neg h).symm
abbrev s__law_shown : Stmt := topS 37
theorem sc__law_shown : FnScope ["x"] ["x"] (defScope s__law_shown) := ⟨rfl, rfl, rfl, by decide +kernel, rfl, by decide +kernel, by decide +kernel⟩
def spShown : Sp := fun vs H Q _ => ∃ (x : Addr) (a b : Int), vs = [.ref x] ∧ Vc H x [a, b] ∧ a.natAbs < 2 ^ 190 ∧ b.natAbs < 2 ^ 190 ∧ (wI a).length ≤ 400 ∧ (wI b).length ≤ 400 ∧ ∀ H', Same H H' → Q (.str (wF a b)) H'
theorem ok_shown {f : Addr} {fd : FuncData} {k : Nat} (F : Fun K "_law_shown" "_law_shown" s__law_shown f fd) (Z : Glb mg) : FnOk P w K mg base CX0 (k + 1) f fd ["x"] spShown := by
  refine F.ok sc__law_shown (fun vs H Q E h => ?_) (fun cdv A outer s H vs Q E hr h => ?_)
  · obtain ⟨x, a, b, rfl, _⟩ := h
    rfl
  · obtain ⟨x, a, b, rfl, hx, ha, hb, wa, wb, q⟩ := h
    refine ⟨_, (pss_one (ps_ret (pe_ifExp (pt_cmpR op_eq (pe_ix (r := rIxT K) ix_tup (pv 0) pe_int (fun _ _ => rfl)) pe_int (nomark _)) (pe_callTy call_str_int (by rfl) Z.m_str (by decide +kernel) (pa_cons (pe_ix (r := rIxT K) ix_tup (pv 0) pe_int (fun _ _ => rfl)) pa_nil)) (pe_op op_add_str (pe_op op_add_str (pe_callTy call_str_int (by rfl) Z.m_str (by decide +kernel) (pa_cons (pe_ix (r := rIxT K) ix_tup (pv 0) pe_int (fun _ _ => rfl)) pa_nil)) pe_str) (pe_callTy call_str_int (by rfl) Z.m_str (by decide +kernel) (pa_cons (pe_ix (r := rIxT K) ix_tup (pv 0) pe_int (fun _ _ => rfl)) pa_nil)))))), ?_⟩
    have lg : ∀ n : Int, n.natAbs < 2 ^ 190 → n.natAbs.log2 < 1920 := fun n h => Nat.lt_trans (PySem.Flt.log2_lt_of (by decide) h) (by decide)
    have q := q H (Same.refl _)
    refine ⟨_, rfl, _, _, _, _, rfl, rfl, SqT.of hx, atI_nat (j := 1) rfl, rfl, _, rfl, ite2 (fun e => ?_) (fun e => ?_)⟩
    · have e1 : b = 1 := V.int.inj (of_decide_eq_true e)
      unfold wF at q
      rw [if_pos e1, ← dec_wI] at q
      exact ⟨_, rfl, _, _, _, _, rfl, rfl, SqT.of hx, atI_nat (j := 0) rfl, a, rfl, lg a ha, q⟩
    · have e1 : b ≠ 1 := fun h => e (decide_eq_true (by rw [h]))
      unfold wF at q
      rw [if_neg e1, ← dec_wI, ← dec_wI] at q
      rw [← dec_wI] at wa wb
      refine ⟨_, rfl, _, _, _, _, rfl, rfl, SqT.of hx, atI_nat (j := 0) rfl, a, rfl, lg a ha, ?_⟩
      refine ⟨_, _, rfl, rfl, Nat.le_of_lt (small1000 (by show (dec a).length + 1 ≤ 1000; omega)), ?_⟩
      refine ⟨_, rfl, _, _, _, _, rfl, rfl, SqT.of hx, atI_nat (j := 1) rfl, b, rfl, lg b hb, ?_⟩
      refine ⟨_, _, rfl, rfl, ?_, q⟩
      show (dec a ++ ("/" : Str)).length + (dec b).length ≤ _
      rw [app_len]
      exact Nat.le_of_lt (small1000 (by show (dec a).length + 1 + (dec b).length ≤ 1000; omega))

/-! ### the texts of the small fractions -/
def chR (z : Str) (n : Int) : Bool := decide (z.length ≤ 640) && decide ((digs z).length ≤ 60) && isNum (digs z) && decide (z ≠ ("-0" : Str)) && decide (PySem.intText? z = some n)
theorem chR_ok {z : Str} {n : Int} (h : chR z n = true) : RdOk z n := by
  unfold chR at h
  simp only [Bool.and_eq_true, decide_eq_true_eq] at h
  obtain ⟨⟨⟨⟨h1, h2⟩, h3⟩, h4⟩, h5⟩ := h
  exact ⟨h1, h2, h3, h4, h5⟩
def chF (a b : Int) : Bool := chR (Txt.partition (wF a b) "/").1 a && (if b = 1 then decide ((Txt.partition (wF a b) "/").2.1 = ("" : Str)) else decide ((Txt.partition (wF a b) "/").2.1 ≠ ("" : Str)) && chR (Txt.partition (wF a b) "/").2.2 b) &&
  decide ((wF a b).length ≤ 5) && (wF a b).cps.toList.all (fun c => decide (c ≠ 32)) && (wF a b).cps.all (· < 128) && decide ((dec (a.natAbs : Int)).length ≤ 400) && decide ((dec (b.natAbs : Int)).length ≤ 400) && decide ((wI a).length ≤ 400) && decide ((wI b).length ≤ 400)
theorem chF_all : ∀ a ∈ ([-3, -2, -1, 0, 1, 2, 3] : List Int), ∀ b ∈ ([1, 2, 3] : List Int), chF a b = true := by decide +kernel

theorem mem3 {a : Int} (h : a.natAbs ≤ 3) : a ∈ ([-3, -2, -1, 0, 1, 2, 3] : List Int) := by
  have : a = -3 ∨ a = -2 ∨ a = -1 ∨ a = 0 ∨ a = 1 ∨ a = 2 ∨ a = 3 := by omega
  rcases this with h | h | h | h | h | h | h <;> rw [h] <;> decide
theorem memb {b : Int} (h0 : 0 < b) (h : b.natAbs ≤ 3) : b ∈ ([1, 2, 3] : List Int) := by
  have : b = 1 ∨ b = 2 ∨ b = 3 := by omega
  rcases this with h | h | h <;> rw [h] <;> decide
/-- a small fraction, in lowest terms -/
def Sm (f : Int × Int) : Prop := f.1.natAbs ≤ 3 ∧ f.2.natAbs ≤ 3 ∧ Low f
theorem sm_fr {x w : Int} (hx : x.natAbs ≤ 3) (w0 : 0 < w) (hw : w.natAbs ≤ 3) : Sm (frN x w, frD x w) :=
  ⟨Nat.le_trans (frN_abs (by omega)) hx, Nat.le_trans (frD_abs (by omega)) hw, low_fr w0⟩
structure Tx (f : Int × Int) : Prop where
  a : RdOk (Txt.partition (wF f.1 f.2) "/").1 f.1
  b : ((Txt.partition (wF f.1 f.2) "/").2.1 = "" ∧ f.2 = 1) ∨ ((Txt.partition (wF f.1 f.2) "/").2.1 ≠ "" ∧ RdOk (Txt.partition (wF f.1 f.2) "/").2.2 f.2 ∧ 2 ≤ f.2 ∧ g2 f.1 f.2 = 1)
  len : (wF f.1 f.2).length ≤ 5
  nb : (32 : Nat) ∉ (wF f.1 f.2).cps.toList
  da : (dec (f.1.natAbs : Int)).length ≤ 400
  db : (dec (f.2.natAbs : Int)).length ≤ 400
  wa : (wI f.1).length ≤ 400
  wb : (wI f.2).length ≤ 400
theorem Sm.tx {f : Int × Int} (h : Sm f) : Tx f := by
  obtain ⟨a, b⟩ := f
  obtain ⟨h1, h2, h3, h4⟩ := h
  have c := chF_all a (mem3 h1) b (memb h3 h2)
  unfold chF at c
  simp only [Bool.and_eq_true] at c
  obtain ⟨⟨⟨⟨⟨⟨⟨⟨c1, c2⟩, c3⟩, c4⟩, _⟩, c6⟩, c7⟩, c8⟩, c9⟩ := c
  refine ⟨chR_ok c1, ?_, of_decide_eq_true c3, fun hm => ?_, of_decide_eq_true c6, of_decide_eq_true c7, of_decide_eq_true c8, of_decide_eq_true c9⟩
  · by_cases e : b = 1
    · rw [if_pos e] at c2
      exact .inl ⟨of_decide_eq_true c2, e⟩
    · rw [if_neg e, Bool.and_eq_true] at c2
      have hb : 0 < b := h3
      refine .inr ⟨of_decide_eq_true c2.1, chR_ok c2.2, by show 2 ≤ b; omega, ?_⟩
      show ((Nat.gcd a.natAbs b.natAbs : Nat) : Int) = 1
      rw [h4]
      rfl
  · have := List.all_eq_true.mp c4 32 hm
    exact absurd this (by decide)
theorem sum_len {fs : List (Int × Int)} (h : ∀ f ∈ fs, Sm f) : ((fs.map fun f => wF f.1 f.2).map (·.length)).sum ≤ 5 * fs.length := by
  induction fs with
  | nil => exact Nat.le_refl 0
  | cons f r ih =>
    have h1 := (h f List.mem_cons_self).tx.len
    have h2 := ih fun g hg => h g (List.mem_cons_of_mem _ hg)
    have e : (((f :: r).map fun f => wF f.1 f.2).map (·.length)).sum = (wF f.1 f.2).length + ((r.map fun f => wF f.1 f.2).map (·.length)).sum := rfl
    rw [e, List.length_cons]
    omega
def wPt (fs : List (Int × Int)) : Str := Txt.join " " (fs.map fun f => wF f.1 f.2)
abbrev s_write_point : Stmt := topS 24
theorem sc_write_point : FnScope ["point", "x"] ["point"] (defScope s_write_point) := ⟨rfl, rfl, rfl, by decide +kernel, rfl, by decide +kernel, by decide +kernel⟩
def spWP : Sp := fun vs H Q _ => ∃ (a : Addr) (w : Int) (xs : List Int), vs = [.ref a] ∧ Vc H a (w :: xs) ∧ 0 < w ∧ w.natAbs ≤ 3 ∧ (∀ x ∈ xs, x.natAbs ≤ 3) ∧ xs.length ≤ 4 ∧ ∀ H', Same H H' → Q (.str (wPt (xs.map fun x => (frN x w, frD x w)))) H'
theorem ok_wp {f : Addr} {fd : FuncData} {k : Nat} (F : Fun K "write_point" "write_point" s_write_point f fd) (Z : Glb mg)
    (Ccoordinates : Call P w K mg base k "coordinates" ["point"] spCoord)
    (Cwrite_fraction : Call P w K mg base k "write_fraction" ["x"] spWF) : FnOk P w K mg base CX0 (k + 1) f fd ["point"] spWP := by
  refine F.ok sc_write_point (fun vs H Q E h => ?_) (fun cdv A outer s H vs Q E hr h => ?_)
  · obtain ⟨a, w, xs, rfl, _⟩ := h
    rfl
  · obtain ⟨a, w, xs, rfl, ha, w0, hw, hx, hl, q⟩ := h
    refine ⟨_, (pss_one (ps_ret (pe_join pe_str (pe_lc (own := [("x", 1)]) (g := gName 1) (tt := tYes) (by rfl) sc_write_point.nd (pi_list (pe_call Ccoordinates.G hr (by rfl) Ccoordinates.m Ccoordinates.kp Ccoordinates.b .nil pass0 (pa_cons (pv 0) pa_nil))) (blkOk_by (own := [("x", 1)]) (N := ["point", "x"]) (sc := defScope s_write_point) (by first | decide +kernel | kernel_rfl)) (fun _ _ _ _ _ => (pg_name (i := 1) sc_write_point.nd rfl (.inl rfl))) (fun _ _ _ _ _ => pts_nil) (fun _ _ _ _ _ => (pe_call Cwrite_fraction.G hr (by rfl) Cwrite_fraction.m Cwrite_fraction.kp Cwrite_fraction.b .nil pass0 (pa_cons (pv 1) pa_nil))))))), ?_⟩
    have u3 : ∀ {x : Int}, x.natAbs ≤ 3 → x.natAbs < 2 ^ 290 := fun h => Nat.lt_of_le_of_lt h (by decide +kernel)
    have u1 : ∀ {x : Int}, x.natAbs ≤ 3 → x.natAbs < 2 ^ 190 := fun h => Nat.lt_of_le_of_lt h (by decide +kernel)
    refine ⟨⟨_, rfl⟩, _, rfl, a, w, xs, rfl, ha, w0, u3 hw, fun x hx' => u3 (hx x hx'), by omega, fun H1 l s1 F1 => ?_⟩
    have sm : ∀ f ∈ xs.map (fun x => (frN x w, frD x w)), Sm f := fun f hf => by
      obtain ⟨x, hx', rfl⟩ := List.mem_map.mp hf
      exact sm_fr (hx x hx') w0 hw
    have lf : (xs.map fun x => (frN x w, frD x w)).length ≤ 4 := by rw [List.length_map]; exact hl
    generalize xs.map (fun x => (frN x w, frD x w)) = fs at *
    obtain ⟨rs, el, rl, rg⟩ := id F1
    refine ⟨l, rfl, ⟨_, SqL.of el⟩, fun D nD => ?_⟩
    refine lc_list (xs := rs.map V.ref) (fun i H' => Same H1 H' ∧ H' D = some (.lst (((fs.map fun f => wF f.1 f.2).take i).map V.str))) ⟨same_upd nD, upd_same⟩ (fun i H' _ hP => SqL.of (hP.1 _ _ el)) (fun i x H' hx hP => ?_) (fun H2 hP => ?_)
    · obtain ⟨sP, eP⟩ := hP
      obtain ⟨r, hr1, rfl⟩ := ref_get hx
      obtain ⟨f, ef, hf⟩ := rg _ _ hr1
      have mf := List.mem_of_getElem? ef
      have S := sm f mf
      have T := S.tx
      refine ⟨rfl, ?_⟩
      unfold tYes
      refine iteT ?_
      refine ⟨_, rfl, r, f.1, f.2, rfl, sP _ _ hf.1, u1 S.1, u1 S.2.1, T.da, T.db, T.wa, T.wb, fun H3 s3 => ⟨_, s3 _ _ eP, ?_, ?_, ?_⟩⟩
      · rw [List.length_map, List.length_take, List.length_map]
        exact Nat.lt_of_le_of_lt (Nat.min_le_right _ _) (small1000 (by omega))
      · intro x o hx
        rw [upd_ne (ne_of_none hx nD)]
        exact s3 _ _ (sP _ _ hx)
      · have hg : (fs.map fun f => wF f.1 f.2)[i]? = some (wF f.1 f.2) := by rw [List.getElem?_map, ef]; rfl
        rw [upd_same, take_get hg, List.map_append]
        rfl
    obtain ⟨s2, e2⟩ := hP
    rw [show (rs.map V.ref).length = (fs.map fun f => wF f.1 f.2).length by rw [List.length_map, List.length_map, rl], List.take_length] at e2
    refine ⟨_, D, fs.map (fun f => wF f.1 f.2), rfl, rfl, .inl (SqL.of e2), ?_, ?_⟩
    rotate_left
    · exact q _ (s1.trans s2)
    have := sum_len sm
    rw [List.length_map]
    show _ + fs.length * 1 ≤ 16777216
    omega

theorem wPt_len {fs : List (Int × Int)} (h : ∀ f ∈ fs, Sm f) (hl : fs.length ≤ 4) : (wPt fs).length ≤ 40 := by
  have one : (" " : Str).length = 1 := rfl
  unfold wPt
  rw [TL.join_eq]
  match fs, h, hl with
  | [], _, _ => exact Nat.zero_le _
  | [a], h, _ =>
    have ha := (h a (by simp)).tx.len
    show (wF a.1 a.2).length ≤ 40
    omega
  | [a, b], h, _ =>
    have ha := (h a (by simp)).tx.len
    have hb := (h b (by simp)).tx.len
    show ((wF a.1 a.2 ++ " ") ++ wF b.1 b.2).length ≤ 40
    rw [app_len, app_len]
    omega
  | [a, b, c], h, _ =>
    have ha := (h a (by simp)).tx.len
    have hb := (h b (by simp)).tx.len
    have hc := (h c (by simp)).tx.len
    show ((wF a.1 a.2 ++ " ") ++ ((wF b.1 b.2 ++ " ") ++ wF c.1 c.2)).length ≤ 40
    rw [app_len, app_len, app_len, app_len]
    omega
  | [a, b, c, d], h, _ =>
    have ha := (h a (by simp)).tx.len
    have hb := (h b (by simp)).tx.len
    have hc := (h c (by simp)).tx.len
    have hd := (h d (by simp)).tx.len
    show ((wF a.1 a.2 ++ " ") ++ ((wF b.1 b.2 ++ " ") ++ ((wF c.1 c.2 ++ " ") ++ wF d.1 d.2))).length ≤ 40
    rw [app_len, app_len, app_len, app_len, app_len, app_len]
    omega
  | _ :: _ :: _ :: _ :: _ :: _, _, h => exact absurd h (by simp)
theorem wPt_split {fs : List (Int × Int)} (h : ∀ f ∈ fs, Sm f) (hne : fs ≠ []) : Txt.split (wPt fs) " " = fs.map fun f => wF f.1 f.2 := by
  refine TL.split_join (s := 32) (S := []) rfl (by decide +kernel) (fun z => hne (List.map_eq_nil_iff.mp z)) fun p hp => ?_
  obtain ⟨f, hf, rfl⟩ := List.mem_map.mp hp
  exact (h f hf).tx.nb
abbrev s__law_of_coordinates : Stmt := topS 39
theorem sc__law_of_coordinates : FnScope ["row", "below", "x"] ["row"] (defScope s__law_of_coordinates) := ⟨rfl, rfl, rfl, by decide +kernel, rfl, by decide +kernel, by decide +kernel⟩
def spOfC : Sp := fun vs H Q _ => ∃ (a : Addr) (fs : List (Int × Int)), vs = [.ref a] ∧ FL H a fs 300 ∧ (∀ f ∈ fs, Low f) ∧ (prodD fs).natAbs < 2 ^ 395 ∧ (∀ f ∈ fs, (f.1 * (prodD fs / f.2)).natAbs < 2 ^ 395) ∧ fs.length ≤ 10 ∧ ∀ (H' : Hp) (r : Addr), Same H H' → Vc H' r (over1 (lcmD fs) fs) → Q (.ref r) H'
theorem ok_ofc {f : Addr} {fd : FuncData} {k : Nat} (F : Fun K "_law_of_coordinates" "_law_of_coordinates" s__law_of_coordinates f fd) (Z : Glb mg)
    (C_law_prim : Call P w K mg base k "_law_prim" ["v"] spPrimK) : FnOk P w K mg base CX0 (k + 1) f fd ["row"] spOfC := by
  refine F.ok sc__law_of_coordinates (fun vs H Q E h => ?_) (fun cdv A outer s H vs Q E hr h => ?_)
  · obtain ⟨a, fs, rfl, _⟩ := h
    rfl
  · obtain ⟨a, fs, rfl, hF, hlow, lim, hA, l10, q⟩ := h
    obtain ⟨rs, ea, el, eg⟩ := hF
    refine ⟨_, (pss_cons (ps_set (i := 1) sc__law_of_coordinates.nd rfl (.inr rfl) pe_int)
      (pss_cons (ps_for PassesOwn.never rfl (pi_list (pv 0)) (pg_name (i := 2) sc__law_of_coordinates.nd rfl (.inl rfl)) (pss_one (ps_set (i := 1) sc__law_of_coordinates.nd rfl (.inr rfl) (pe_op op_mulW (pv 1) (pe_ix (r := rIxT K) ix_tup (pv 2) pe_int (fun _ _ => rfl))))))
      (pss_one (ps_ret (pe_call C_law_prim.G hr (by rfl) C_law_prim.m C_law_prim.kp C_law_prim.b .nil pass0 (pa_cons (pe_op op_cat (pe_lst (pa_cons (pv 1) pa_nil)) (pe_lc (own := [("x", 2)]) (g := gName 2) (tt := tYes) (by rfl) sc__law_of_coordinates.nd (pi_list (pv 0)) (blkOk_by (own := [("x", 2)]) (N := ["row", "below", "x"]) (sc := defScope s__law_of_coordinates) (by first | decide +kernel | kernel_rfl)) (fun _ _ _ _ _ => (pg_name (i := 2) sc__law_of_coordinates.nd rfl (.inl rfl))) (fun _ _ _ _ _ => pts_nil) (fun _ _ _ _ _ => (pe_op op_mulW (pe_ix (r := rIxT K) ix_tup (pv 2) pe_int (fun _ _ => rfl)) (pe_op op_fdivW (pv 1) (pe_ix (r := rIxT K) ix_tup (pv 2) pe_int (fun _ _ => rfl))))))) pa_nil)))))), ?_⟩
    refine ⟨_, rfl, a, rfl, ⟨_, SqL.of ea⟩, ?_⟩
    refine for_list (xs := rs.map V.ref) (fun i σ H' => H = H' ∧ ∃ y2 : Option V, σ = [some (.ref a), some (.int (prodD (fs.take i))), y2]) ⟨rfl, _, rfl⟩ (fun i σ H' _ hP => by obtain ⟨rfl, _⟩ := hP; exact SqL.of ea) (fun i x σ H' hx hP => ?_) (fun σ H' hP => ?_)
    · obtain ⟨rfl, y2, rfl⟩ := hP
      obtain ⟨r, hr, rfl⟩ := ref_get hx
      obtain ⟨f, hf, ff⟩ := eg i r hr
      have lim := prod_lim (fs := fs) (B := 300) (fun f hf => by
        obtain ⟨j, hj⟩ := List.getElem?_of_mem hf
        have hl := lt_of_get hj
        have hr2 : rs[j]? = some (rs[j]'(by omega)) := List.getElem?_eq_getElem (by omega)
        obtain ⟨f', h1, h2⟩ := eg j _ hr2
        have := Option.some.inj (hj.symm.trans h1)
        subst this
        exact h2.2.2.2) i
      have hi := lt_of_get hf
      refine ⟨_, rfl, _, rfl, _, _, _, _, rfl, rfl, SqT.of ff.1, atI_nat (j := 1) rfl, _, _, rfl, rfl, wide_mul lim ff.2.2.2 (by omega) (by decide) (by omega), rfl, some (.ref r), ?_⟩
      rw [prod_take hf]
      rfl
    · obtain ⟨rfl, y2, rfl⟩ := hP
      rw [List.length_map, el, List.take_length]
      refine ⟨_, rfl, Nat.le_of_lt (small1000 (show 1 ≤ 1000 by decide)), fun c nc => ?_⟩
      have s1 := same_upd (o := .lst [.int (prodD fs)]) nc
      have hc : (upd H c (.lst [.int (prodD fs)])) c = some (.lst [.int (prodD fs)]) := upd_same
      generalize upd H c (.lst [.int (prodD fs)]) = H1 at *
      refine ⟨_, rfl, a, rfl, ⟨_, SqL.of (s1 _ _ ea)⟩, fun D nD => ?_⟩
      refine lc_list (xs := rs.map V.ref) (fun i H' => Same H1 H' ∧ H' D = some (.lst (((fs.map fun f => f.1 * (prodD fs / f.2)).take i).map V.int))) ⟨same_upd nD, upd_same⟩ (fun i H' _ hP => SqL.of (hP.1 _ _ (s1 _ _ ea))) (fun i x H' hx hP => ?_) (fun H' hP => ?_)
      · obtain ⟨r, hr, rfl⟩ := ref_get hx
        obtain ⟨f, hf, ff⟩ := eg i r hr
        have fr := hP.1 _ _ (s1 _ _ ff.1)
        refine ⟨rfl, ?_⟩
        unfold tYes
        refine iteT ?_
        have dv := ediv_abs (a := prodD fs) ff.2.1
        have hg : (fs.map fun f => f.1 * (prodD fs / f.2))[i]? = some (f.1 * (prodD fs / f.2)) := by
          rw [List.getElem?_map, hf]
          rfl
        refine ⟨_, rfl, _, _, _, _, rfl, rfl, SqT.of fr, atI_nat (j := 0) rfl, _, rfl, _, rfl, _, _, _, _, rfl, rfl, SqT.of fr, atI_nat (j := 1) rfl, _, _, rfl, rfl, wide_div ff.2.1 ff.2.2.2 (by decide) (by decide), _, _, rfl, rfl, cmul ff.2.2.1 (Nat.lt_of_le_of_lt dv lim), _, hP.2, ?_, ?_, ?_⟩
        · rw [List.length_map, List.length_take]
          exact Nat.lt_of_le_of_lt (Nat.min_le_right _ _) (small1000 (by rw [List.length_map]; omega))
        · intro x o hxo
          have : x ≠ D := ne_of_none hxo nD
          rw [upd_ne this]
          exact hP.1 _ _ hxo
        · rw [upd_same, take_get hg, List.map_append]
          rfl
      · obtain ⟨sH, eD⟩ := hP
        rw [List.length_map, show rs.length = (fs.map fun f => f.1 * (prodD fs / f.2)).length by rw [List.length_map, el], List.take_length] at eD
        refine ⟨c, D, _, _, rfl, rfl, sH _ _ hc, eD, ?_, fun t nt => ?_⟩
        · rw [List.length_map, List.length_map]
          exact Nat.le_of_lt (small1000 (by show 1 + fs.length ≤ 1000; omega))
        refine ⟨false, t, over1 (prodD fs) fs, rfl, upd_same, by unfold over1; rw [List.length_cons, List.length_map]; omega, fun n hn => ?_, fun H5 r5 s5 R5 => ?_⟩
        · rcases List.mem_cons.mp hn with rfl | hn
          · exact lim
          · obtain ⟨f, hf, rfl⟩ := List.mem_map.mp hn
            exact hA f hf
        · rw [made_same hlow] at R5
          exact q _ _ (((s1.trans sH).trans (same_upd nt)).trans s5) R5

def wIq (ns : List Int) : Str := Txt.join " " (ns.map wI)
theorem wI_small {n : Int} (h : n.natAbs ≤ 20) : (wI n).length ≤ 3 ∧ (dec (n.natAbs : Int)).length ≤ 3 := by
  have h1 : n.natAbs < 10 ^ 2 := Nat.lt_of_le_of_lt h (by decide)
  have hl := TL.numL_len (by decide) h1
  constructor
  · rw [TL.len_tl, tl_wI]
    split
    · rw [List.length_cons]; omega
    · omega
  · rw [TL.len_tl]
    unfold dec
    rw [TL.tl_num]
    omega
theorem sumI_len {ns : List Int} (h : ∀ n ∈ ns, n.natAbs ≤ 20) : ((ns.map wI).map (·.length)).sum ≤ 3 * ns.length := by
  induction ns with
  | nil => exact Nat.le_refl 0
  | cons n r ih =>
    have h1 := (wI_small (h n List.mem_cons_self)).1
    have h2 := ih fun g hg => h g (List.mem_cons_of_mem _ hg)
    have e : (((n :: r).map wI).map (·.length)).sum = (wI n).length + ((r.map wI).map (·.length)).sum := rfl
    rw [e, List.length_cons]
    omega
theorem free_wI32 (n : Int) : 32 ∉ TL.tl (wI n) := by
  rw [tl_wI]
  have := TL.numL_free (n := n.natAbs) (s := 32) (.inl (by decide))
  split
  · intro h
    rcases List.mem_cons.mp h with e | e
    · cases e
    · exact this e
  · exact this
theorem wIq_split {ns : List Int} (hne : ns ≠ []) : Txt.split (wIq ns) " " = ns.map wI := by
  refine TL.split_join (s := 32) (S := []) rfl (by decide +kernel) (fun z => hne (List.map_eq_nil_iff.mp z)) fun p hp => ?_
  obtain ⟨n, hf, rfl⟩ := List.mem_map.mp hp
  exact free_wI32 n
theorem wIq_len {ns : List Int} (h : ∀ n ∈ ns, n.natAbs ≤ 20) (hl : ns.length ≤ 5) : (wIq ns).length ≤ 20 := by
  unfold wIq
  rw [TL.join_eq]
  cases ns with
  | nil => exact Nat.zero_le _
  | cons a r =>
    rw [List.map_cons, PyProof.Rows.len_join_cons, ← List.map_cons, List.length_map]
    have := sumI_len h
    show _ + r.length * 1 ≤ 20
    rw [List.length_cons] at this hl
    omega
abbrev s_write_inequality : Stmt := topS 25
theorem sc_write_inequality : FnScope ["inequality", "entry"] ["inequality"] (defScope s_write_inequality) := ⟨rfl, rfl, rfl, by decide +kernel, rfl, by decide +kernel, by decide +kernel⟩
def spWQ : Sp := fun vs H Q _ => ∃ (a : Addr) (ns : List Int), vs = [.ref a] ∧ Vc H a ns ∧ (∀ n ∈ ns, n.natAbs ≤ 20) ∧ ns.length ≤ 5 ∧ ∀ H', Same H H' → Q (.str (wIq ns)) H'
theorem ok_wq {f : Addr} {fd : FuncData} {k : Nat} (F : Fun K "write_inequality" "write_inequality" s_write_inequality f fd) (Z : Glb mg)
    (Cwrite_integer : Call P w K mg base k "write_integer" ["number"] spWI) : FnOk P w K mg base CX0 (k + 1) f fd ["inequality"] spWQ := by
  refine F.ok sc_write_inequality (fun vs H Q E h => ?_) (fun cdv A outer s H vs Q E hr h => ?_)
  · obtain ⟨a, ns, rfl, _⟩ := h
    rfl
  · obtain ⟨a, ns, rfl, ha, hB, hl, q⟩ := h
    refine ⟨_, (pss_one (ps_ret (pe_join pe_str (pe_lc (own := [("entry", 1)]) (g := gName 1) (tt := tYes) (by rfl) sc_write_inequality.nd (pi_tup (pv 0)) (blkOk_by (own := [("entry", 1)]) (N := ["inequality", "entry"]) (sc := defScope s_write_inequality) (by first | decide +kernel | kernel_rfl)) (fun _ _ _ _ _ => (pg_name (i := 1) sc_write_inequality.nd rfl (.inl rfl))) (fun _ _ _ _ _ => pts_nil) (fun _ _ _ _ _ => (pe_call Cwrite_integer.G hr (by rfl) Cwrite_integer.m Cwrite_integer.kp Cwrite_integer.b .nil pass0 (pa_cons (pv 1) pa_nil))))))), ?_⟩
    refine ⟨⟨_, rfl⟩, _, rfl, a, rfl, ⟨_, SqT.of ha⟩, fun D nD => ?_⟩
    refine lc_tup (xs := ns.map V.int) (fun i H' => Same H H' ∧ H' D = some (.lst (((ns.map wI).take i).map V.str))) ⟨same_upd nD, upd_same⟩ (fun i H' _ hP => SqT.of (hP.1 _ _ ha)) (fun i x H' hx hP => ?_) (fun H2 hP => ?_)
    · obtain ⟨sP, eP⟩ := hP
      obtain ⟨n, hn, rfl⟩ := map_get hx
      have sm := hB n (List.mem_of_getElem? hn)
      refine ⟨rfl, ?_⟩
      unfold tYes
      refine iteT ?_
      refine ⟨_, rfl, n, rfl, Nat.lt_of_le_of_lt sm (by decide +kernel), by have := (wI_small sm).2; omega, fun H3 s3 => ⟨_, s3 _ _ eP, ?_, ?_, ?_⟩⟩
      · rw [List.length_map, List.length_take, List.length_map]
        exact Nat.lt_of_le_of_lt (Nat.min_le_right _ _) (small1000 (by omega))
      · intro x o hx
        rw [upd_ne (ne_of_none hx nD)]
        exact s3 _ _ (sP _ _ hx)
      · have hg : (ns.map wI)[i]? = some (wI n) := by rw [List.getElem?_map, hn]; rfl
        rw [upd_same, take_get hg, List.map_append]
        rfl
    obtain ⟨s2, e2⟩ := hP
    rw [show (ns.map V.int).length = (ns.map wI).length by rw [List.length_map, List.length_map], List.take_length] at e2
    refine ⟨_, D, ns.map wI, rfl, rfl, .inl (SqL.of e2), ?_, ?_⟩
    rotate_left
    · exact q _ s2
    have := sumI_len hB
    rw [List.length_map]
    show _ + ns.length * 1 ≤ 16777216
    omega

/-! ### how long the numbers of a text are -/
theorem valI_len {z : Str} {n : Int} (h : valI z = some n) : n.natAbs < 10 ^ z.length := by
  obtain ⟨ok, hi, _⟩ := valI_some h
  obtain ⟨h1, h2, h3⟩ := (okI_iff z).mp ok
  obtain ⟨a, b, c⟩ := (isNum_iff _).mp h2
  rw [TL.len_tl] at h1
  rw [tl_digs] at a b c h1
  have big : ∀ (cs : List Nat) (m : Nat), NumText.AllDigits cs → cs.length ≤ m → NumText.digitsVal cs < 10 ^ m := fun cs m hd hl => by
    have := dv_lt cs 0 hd
    have e : NumText.digitsVal cs < (0 + 1) * 10 ^ cs.length := this
    rw [Nat.zero_add, Nat.one_mul] at e
    exact Nat.lt_of_lt_of_le e (Nat.pow_le_pow_right (by decide) hl)
  by_cases hd : (TL.tl z).head? = some 45
  · rw [if_pos hd] at a b c h1
    cases e : TL.tl z with
    | nil => rw [e] at hd; cases hd
    | cons d r =>
      rw [e] at hd a b c h1
      have ed : d = 45 := Option.some.inj hd
      subst ed
      have e2 := intText_neg e b a (by rw [TL.len_tl, e, List.length_cons]; have : r.length ≤ 60 := h1; omega)
      rw [hi] at e2
      cases e2
      rw [Int.natAbs_neg]
      exact big r _ b (by rw [TL.len_tl, e, List.length_cons]; exact Nat.le_succ _)
  · rw [if_neg hd] at a b c h1
    have e2 := intText_digits b a (by rw [TL.len_tl]; omega)
    rw [hi] at e2
    cases e2
    exact big _ _ b (by rw [TL.len_tl]; exact Nat.le_refl _)
def mxF (f : Int × Int) : Nat := max f.1.natAbs f.2.natAbs
theorem valF_len {z : Str} {f : Int × Int} (h : valF z = some f) : mxF f ≤ 10 ^ z.length := by
  obtain ⟨l1, l2⟩ := part_len z
  have up : ∀ {a b c : Nat}, a < 10 ^ b → b ≤ c → a ≤ 10 ^ c := fun h1 h2 => Nat.le_of_lt (Nat.lt_of_lt_of_le h1 (Nat.pow_le_pow_right (by decide) h2))
  unfold valF at h
  cases e1 : valI (Txt.partition z "/").1 with
  | none => rw [e1] at h; cases h
  | some a =>
    rw [e1] at h
    have ba := valI_len e1
    have h : (if (Txt.partition z "/").2.1 = "" then some (a, (1 : Int)) else match valI (Txt.partition z "/").2.2 with | none => none | some b => if b < 2 ∨ g2 a b ≠ 1 then none else some (a, b)) = some f := h
    by_cases c : (Txt.partition z "/").2.1 = ""
    · rw [if_pos c] at h
      cases h
      exact Nat.max_le.mpr ⟨up ba l1, Nat.one_le_pow _ _ (by decide)⟩
    · rw [if_neg c] at h
      cases e2 : valI (Txt.partition z "/").2.2 with
      | none => rw [e2] at h; cases h
      | some b =>
        rw [e2] at h
        have h : (if b < 2 ∨ g2 a b ≠ 1 then none else some (a, b)) = some f := h
        by_cases c2 : b < 2 ∨ g2 a b ≠ 1
        · rw [if_pos c2] at h; cases h
        · rw [if_neg c2] at h
          cases h
          exact Nat.max_le.mpr ⟨up ba l1, up (valI_len e2) l2⟩
def mmF : List (Int × Int) → Nat
  | [] => 1
  | f :: r => mxF f * mmF r
def pr2 : List (Int × Int) → Int
  | [] => 1
  | f :: r => f.2 * pr2 r
theorem prod_pr : ∀ (fs : List (Int × Int)) (c : Int), fs.foldl (fun c f => c * f.2) c = c * pr2 fs
  | [], c => by
    show c = c * 1
    omega
  | f :: r, c => by
    show r.foldl (fun c f => c * f.2) (c * f.2) = c * (f.2 * pr2 r)
    rw [prod_pr r, Int.mul_assoc]
theorem prodD_pr (fs : List (Int × Int)) : prodD fs = pr2 fs := by
  show fs.foldl (fun c f => c * f.2) 1 = _
  rw [prod_pr, Int.one_mul]
theorem pr_mm : ∀ fs : List (Int × Int), (pr2 fs).natAbs ≤ mmF fs
  | [] => Nat.le_refl 1
  | f :: r => by
    show (f.2 * pr2 r).natAbs ≤ mxF f * mmF r
    rw [Int.natAbs_mul]
    exact Nat.mul_le_mul (Nat.le_max_right _ _) (pr_mm r)
theorem ent_mm : ∀ {fs : List (Int × Int)} {f : Int × Int}, f ∈ fs → f.2 ≠ 0 → (f.1 * (pr2 fs / f.2)).natAbs ≤ mmF fs
  | [], _, h, _ => nomatch h
  | g :: r, f, h, h0 => by
    rcases List.mem_cons.mp h with e | e
    · subst e
      show (f.1 * (f.2 * pr2 r / f.2)).natAbs ≤ mxF f * mmF r
      rw [Int.mul_ediv_cancel_left _ h0, Int.natAbs_mul]
      exact Nat.mul_le_mul (Nat.le_max_left _ _) (pr_mm r)
    · have ih := ent_mm e h0
      have hd : f.2 ∣ pr2 r := by
        clear ih h
        induction r with
        | nil => cases e
        | cons a t ih =>
          rcases List.mem_cons.mp e with e | e
          · subst e; exact ⟨pr2 t, rfl⟩
          · exact Int.dvd_trans (ih e) ⟨a.2, Int.mul_comm _ _⟩
      show (f.1 * (g.2 * pr2 r / f.2)).natAbs ≤ mxF g * mmF r
      rw [Int.mul_ediv_assoc _ hd, ← Int.mul_assoc, Int.mul_comm f.1 g.2, Int.mul_assoc, Int.natAbs_mul]
      exact Nat.mul_le_mul (Nat.le_max_right _ _) ih
theorem valFs_map : ∀ {ws : List Str} {fs : List (Int × Int)}, valFs ws = some fs → ws.map valF = fs.map some
  | [], fs, h => by cases h; rfl
  | z :: r, fs, h => by
    have h : (match valF z with | none => none | some f => (valFs r).map (f :: ·)) = some fs := h
    cases e : valF z with
    | none => rw [e] at h; cases h
    | some f =>
      rw [e] at h
      obtain ⟨t, h1, h2⟩ := Option.map_eq_some_iff.mp h
      subst h2
      rw [List.map_cons, List.map_cons, e, valFs_map h1]
theorem mm_len : ∀ {ws : List Str} {fs : List (Int × Int)}, valFs ws = some fs → mmF fs ≤ 10 ^ (ws.map (·.length)).sum
  | [], fs, h => by cases h; exact Nat.le_refl 1
  | z :: r, fs, h => by
    have h : (match valF z with | none => none | some f => (valFs r).map (f :: ·)) = some fs := h
    cases e : valF z with
    | none => rw [e] at h; cases h
    | some f =>
      rw [e] at h
      obtain ⟨t, h1, h2⟩ := Option.map_eq_some_iff.mp h
      subst h2
      rw [List.map_cons, List.sum_cons, Nat.pow_add]
      exact Nat.mul_le_mul (valF_len e) (mm_len h1)
theorem valFs_low : ∀ {ws : List Str} {fs : List (Int × Int)}, valFs ws = some fs → ∀ f ∈ fs, Low f ∧ f.1.natAbs < 10 ^ 60 ∧ f.2.natAbs < 10 ^ 60
  | [], fs, h, f, hf => by cases h; cases hf
  | z :: r, fs, h, f, hf => by
    have h : (match valF z with | none => none | some f => (valFs r).map (f :: ·)) = some fs := h
    cases e : valF z with
    | none => rw [e] at h; cases h
    | some g =>
      rw [e] at h
      obtain ⟨t, h1, h2⟩ := Option.map_eq_some_iff.mp h
      subst h2
      rcases List.mem_cons.mp hf with q | q
      · subst q; exact valF_ok e
      · exact valFs_low h1 f q
theorem valFs_any : ∀ ws : List Str, (ws.map valF).any Option.isNone = (valFs ws).isNone
  | [] => rfl
  | z :: r => by
    rw [List.map_cons, List.any_cons, valFs_any r]
    show _ = (match valF z with | none => none | some f => (valFs r).map (f :: ·)).isNone
    cases valF z with
    | none => rfl
    | some f => cases valFs r <;> rfl
theorem valIs_any : ∀ ws : List Str, (ws.map valI).any Option.isNone = (valIs ws).isNone
  | [] => rfl
  | z :: r => by
    rw [List.map_cons, List.any_cons, valIs_any r]
    show _ = (match valI z with | none => none | some f => (valIs r).map (f :: ·)).isNone
    cases valI z with
    | none => rfl
    | some f => cases valIs r <;> rfl
theorem valIs_map : ∀ {ws : List Str} {ns : List Int}, valIs ws = some ns → ws.map valI = ns.map some
  | [], fs, h => by cases h; rfl
  | z :: r, fs, h => by
    have h : (match valI z with | none => none | some f => (valIs r).map (f :: ·)) = some fs := h
    cases e : valI z with
    | none => rw [e] at h; cases h
    | some f =>
      rw [e] at h
      obtain ⟨t, h1, h2⟩ := Option.map_eq_some_iff.mp h
      subst h2
      rw [List.map_cons, List.map_cons, e, valIs_map h1]
/-! ### rows with None among them -/
def fD : Option (Int × Int) → PyData
  | none => .none
  | some f => .tuple [.int f.1, .int f.2]
def iD : Option Int → PyData
  | none => .none
  | some n => .int n
theorem lay_fD : ∀ os : List (Option (Int × Int)), PyData.canLayAll0 (os.map fD) = true
  | [] => by rw [List.map_nil, PyData.canLayAll0]
  | o :: r => by
    rw [List.map_cons, PyData.canLayAll0, lay_fD r]
    cases o with
    | none => rfl
    | some f =>
      show (PyData.canLay0 (.tuple [.int f.1, .int f.2]) && true) = true
      rw [PyData.canLay0, show ([PyData.int f.1, .int f.2] : List PyData) = [f.1, f.2].map PyData.int from rfl, lay_ints]
      rfl
theorem depth_fD : ∀ os : List (Option (Int × Int)), PyData.depthAll (os.map fD) ≤ 2
  | [] => by rw [List.map_nil, PyData.depthAll]; omega
  | o :: r => by
    have := depth_fD r
    rw [List.map_cons, PyData.depthAll]
    refine Nat.max_le.mpr ⟨?_, this⟩
    cases o with
    | none => show PyData.depth .none ≤ 2; rw [PyData.depth]; omega
    | some f =>
      show PyData.depth (.tuple ([f.1, f.2].map PyData.int)) ≤ 2
      have := depth_ints [f.1, f.2]
      rw [PyData.depth]
      omega
theorem shaped_fD (os : List (Option (Int × Int))) : SeqAt.shaped (.list (os.map fD)) = true := by
  unfold SeqAt.shaped
  rw [Bool.and_eq_true]
  refine ⟨by rw [PyData.canLay0, lay_fD], ?_⟩
  rw [decide_eq_true_iff, PyData.depth]
  have := depth_fD os
  omega
theorem lay_iD : ∀ os : List (Option Int), PyData.canLayAll0 (os.map iD) = true
  | [] => by rw [List.map_nil, PyData.canLayAll0]
  | o :: r => by
    rw [List.map_cons, PyData.canLayAll0, lay_iD r]
    cases o <;> rfl
theorem depth_iD : ∀ os : List (Option Int), PyData.depthAll (os.map iD) ≤ 2
  | [] => by rw [List.map_nil, PyData.depthAll]; omega
  | o :: r => by
    have := depth_iD r
    rw [List.map_cons, PyData.depthAll]
    refine Nat.max_le.mpr ⟨?_, this⟩
    cases o with
    | none => show PyData.depth .none ≤ 2; rw [PyData.depth]; omega
    | some f => show PyData.depth (.int f) ≤ 2; rw [PyData.depth]; omega
theorem shaped_iD (os : List (Option Int)) : SeqAt.shaped (.list (os.map iD)) = true := by
  unfold SeqAt.shaped
  rw [Bool.and_eq_true]
  refine ⟨by rw [PyData.canLay0, lay_iD], ?_⟩
  rw [decide_eq_true_iff, PyData.depth]
  have := depth_iD os
  omega
theorem any_fD (os : List (Option (Int × Int))) : ((os.map fD).any fun z => PyData.eqv z .none) = os.any Option.isNone := by
  rw [List.any_map]
  congr 1
  funext o
  cases o with
  | none => show PyData.eqv .none .none = true; rw [PyData.eqv]
  | some f => show PyData.eqv (.tuple [.int f.1, .int f.2]) .none = false; rw [PyData.eqv]; all_goals (intros; nofun)
theorem any_iD (os : List (Option Int)) : ((os.map iD).any fun z => PyData.eqv z .none) = os.any Option.isNone := by
  rw [List.any_map]
  congr 1
  funext o
  cases o with
  | none => show PyData.eqv .none .none = true; rw [PyData.eqv]
  | some f => show PyData.eqv (.int f) .none = false; rw [PyData.eqv]; all_goals (intros; nofun)
theorem shapedN : SeqAt.shaped .none = true := by decide +kernel
/-! ### a row that is an inequality -/
theorem prim_iq {ns : List Int} {d : Nat} (hl : ns.length = d + 1) : IqN d ns ↔ (prim ns = ns ∧ ns.drop 1 ≠ List.replicate d 0) := by
  constructor
  · rintro ⟨_, h2, h3⟩
    refine ⟨?_, fun h => ?_⟩
    · unfold prim
      rw [h3, if_neg (by decide)]
      conv => rhs; rw [← List.map_id ns]
      exact List.map_congr_left fun x _ => Int.ediv_one x
    · rw [h] at h2
      obtain ⟨x, hx, hn⟩ := List.any_eq_true.mp h2
      rw [(List.mem_replicate.mp hx).2] at hn
      exact absurd hn (by decide)
  · rintro ⟨h1, h2⟩
    have ex : ∃ x ∈ ns.drop 1, x ≠ 0 := by
      refine Classical.byContradiction fun h => h2 ?_
      rw [List.eq_replicate_iff]
      refine ⟨by rw [List.length_drop]; omega, fun b hb => ?_⟩
      exact Classical.byContradiction fun h0 => h ⟨b, hb, h0⟩
    obtain ⟨x, hx, x0⟩ := ex
    refine ⟨hl, List.any_eq_true.mpr ⟨x, hx, by simp; exact x0⟩, ?_⟩
    have g := gl_pos (ns := ns) (List.mem_of_mem_drop hx) x0
    rw [← h1]
    exact gl_prim (by omega)
theorem shapedL_ints (ns : List Int) (h : ns.length ≤ 1000) : SeqAt.shaped (.list (ns.map PyData.int)) = true := by
  unfold SeqAt.shaped
  rw [Bool.and_eq_true]
  refine ⟨?_, ?_⟩
  · rw [PyData.canLay0, lay_ints]
  · rw [decide_eq_true_iff, PyData.depth]
    have := depth_ints ns
    omega
def CellF (H : Hp) : Option (Int × Int) → V → Prop
  | none, x => x = .non
  | some f, x => ∃ r, x = .ref r ∧ Vc H r [f.1, f.2]
/-- a row of pairs, and None -/
inductive RowF (H : Hp) : List (Option (Int × Int)) → List V → Prop
  | nil : RowF H [] []
  | cons {o : Option (Int × Int)} {x : V} {os : List (Option (Int × Int))} {xs : List V} : CellF H o x → RowF H os xs → RowF H (o :: os) (x :: xs)
theorem RowF.snoc {H : Hp} {os : List (Option (Int × Int))} {xs : List V} {o : Option (Int × Int)} {x : V} (h : RowF H os xs) (c : CellF H o x) : RowF H (os ++ [o]) (xs ++ [x]) := by
  induction h with
  | nil => exact .cons c .nil
  | cons c0 _ ih => exact .cons c0 ih
theorem RowF.len {H : Hp} {os : List (Option (Int × Int))} {xs : List V} (h : RowF H os xs) : xs.length = os.length := by
  induction h with
  | nil => rfl
  | cons _ _ ih => rw [List.length_cons, List.length_cons, ih]
theorem RowF.move {H H' : Hp} {os : List (Option (Int × Int))} {xs : List V} (s : ∀ (a : Addr) (ns : List Int), Vc H a ns → Vc H' a ns) (h : RowF H os xs) : RowF H' os xs := by
  induction h with
  | nil => exact .nil
  | @cons o x _ _ c _ ih =>
    refine .cons ?_ ih
    cases o with
    | none => exact c
    | some f => obtain ⟨r, e, v⟩ := c; exact ⟨r, e, s _ _ v⟩
theorem RowF.dp {H : Hp} {os : List (Option (Int × Int))} {xs : List V} (h : RowF H os xs) : DpAll K H xs (os.map fD) := by
  induction h with
  | nil => exact .nil
  | @cons o x _ _ c _ ih =>
    refine .cons ?_ ih
    cases o with
    | none => rw [show x = .non from c]; exact .non
    | some f =>
      obtain ⟨r, rfl, v⟩ := c
      exact .tup (SqT.of v) (.cons (.int _) (.cons (.int _) .nil))
theorem RowF.refs {H : Hp} : ∀ {fs : List (Int × Int)} {xs : List V}, RowF H (fs.map some) xs → ∃ rs : List Addr, xs = rs.map V.ref ∧ rs.length = fs.length ∧ ∀ (i : Nat) (r : Addr), rs[i]? = some r → ∃ f, fs[i]? = some f ∧ Vc H r [f.1, f.2]
  | [], xs, h => by
    cases h
    exact ⟨[], rfl, rfl, fun i r e => by rw [List.getElem?_nil] at e; cases e⟩
  | f :: fs, xs, h => by
    cases h with
    | cons c t =>
      obtain ⟨r, rfl, v⟩ := c
      obtain ⟨rs, rfl, l, g⟩ := RowF.refs t
      refine ⟨r :: rs, rfl, by rw [List.length_cons, List.length_cons, l], fun i r' e => ?_⟩
      cases i with
      | zero => cases e; exact ⟨f, rfl, v⟩
      | succ i => exact g i r' e
theorem dp_iD {H : Hp} : ∀ os : List (Option Int), DpAll K H (os.map vI) (os.map iD)
  | [] => .nil
  | o :: r => .cons (by cases o with | none => exact .non | some n => exact .int n) (dp_iD r)

/-! ### the law -/
theorem tabG_keep {H H' : Hp} {T p : Addr} (h : TabG H T) (ne : T ≠ p) (k : Keep p H H') : TabG H' T := by
  obtain ⟨ps, e, t⟩ := h
  exact ⟨ps, k _ _ ne e, t⟩
theorem Pl.smT {T p : Addr} {H H' : Hp} (h : Pl H p) (hT : TabG H T) (s : SmT T H H') : Pl H' p := by
  obtain ⟨q, ns, a, b, c, d, e, e2, n⟩ := h
  exact ⟨q, ns, a, b, c, d, s.2 _ _ (tabG_neL hT e) e, s.2 _ _ (tabG_neL hT e2) e2, n⟩
theorem tabG_free {H : Hp} {T D : Addr} (hT : TabG H T) (n : H D = none) : T ≠ D := by
  obtain ⟨ps, e, _⟩ := hT
  exact ne_of_none e n
theorem c0_len (z : Str) (n : Nat) : (cutS z none (some (n : Int))).length = min n z.length := by
  rw [TL.len_tl, tl_cut0, List.length_take, TL.len_tl]
theorem cd_len (z : Str) (n : Nat) : (cutS z (some (n : Int)) none).length = z.length - n := by
  rw [TL.len_tl, tl_cutd, List.length_drop, TL.len_tl]
theorem three {j : Nat} {t1 t2 t3 : Str} {B : Nat} (h : j < 3) (h1 : t1.length ≤ B) (h2 : t2.length ≤ B) (h3 : t3.length ≤ B) : ∃ z : Str, ([V.str t1, .str t2, .str t3] : List V)[j]? = some (.str z) ∧ z.length ≤ B := by
  match j, h with
  | 0, _ => exact ⟨_, rfl, h1⟩
  | 1, _ => exact ⟨_, rfl, h2⟩
  | 2, _ => exact ⟨_, rfl, h3⟩
  | j + 3, h => exact absurd h (by omega)
theorem six {j : Nat} {t1 t2 t3 t4 t5 t6 : Str} {B : Nat} (h : j < 6) (h1 : t1.length ≤ B) (h2 : t2.length ≤ B) (h3 : t3.length ≤ B) (h4 : t4.length ≤ B) (h5 : t5.length ≤ B) (h6 : t6.length ≤ B) : ∃ z : Str, ([V.str t1, .str t2, .str t3, .str t4, .str t5, .str t6] : List V)[j]? = some (.str z) ∧ z.length ≤ B := by
  match j, h with
  | 0, _ => exact ⟨_, rfl, h1⟩
  | 1, _ => exact ⟨_, rfl, h2⟩
  | 2, _ => exact ⟨_, rfl, h3⟩
  | 3, _ => exact ⟨_, rfl, h4⟩
  | 4, _ => exact ⟨_, rfl, h5⟩
  | 5, _ => exact ⟨_, rfl, h6⟩
  | j + 6, h => exact absurd h (by omega)
/-- a primitive point is made of its own coordinates -/
theorem made_pt {w : Int} {xs : List Int} (w0 : 0 < w) (hg : gl (w :: xs) = 1) : over1 (lcmD (xs.map fun x => (frN x w, frD x w))) (xs.map fun x => (frN x w, frD x w)) = w :: xs := by
  have hlow : ∀ f ∈ xs.map (fun x => (frN x w, frD x w)), Low f := fun f hf => by
    obtain ⟨x, _, rfl⟩ := List.mem_map.mp hf
    exact low_fr w0
  have hd : ∀ f ∈ xs.map (fun x => (frN x w, frD x w)), f.2 ∣ w := fun f hf => by
    obtain ⟨x, _, rfl⟩ := List.mem_map.mp hf
    exact ⟨g2 x w, by
      show w = w / g2 x w * g2 x w
      rw [Int.mul_comm]
      exact (div_mul (g2_dvd_r x w)).symm⟩
  have e : over1 w (xs.map fun x => (frN x w, frD x w)) = w :: xs := by
    unfold over1
    rw [List.map_map]
    congr 1
    conv => rhs; rw [← List.map_id xs]
    refine List.map_congr_left fun x _ => ?_
    show frN x w * (w / frD x w) = x
    have dp := frD_pos (a := x) w0
    have h1 := fr_cross (a := x) w0
    have h2 : frD x w * (w / frD x w) = w := div_mul ⟨g2 x w, by
      show w = w / g2 x w * g2 x w
      rw [Int.mul_comm]
      exact (div_mul (g2_dvd_r x w)).symm⟩
    refine Int.eq_of_mul_eq_mul_right (a := frD x w) (by omega) ?_
    rw [Int.mul_assoc, Int.mul_comm (w / frD x w), h2, h1, Int.mul_comm]
  obtain ⟨L0, _, hL, _⟩ := lcmD_facts (xs.map fun x => (frN x w, frD x w)) 1 (by decide) fun f hf => (hlow f hf).1
  rw [← over1_prim hlow]
  have := prim_prop (a := w) (b := lcmD (xs.map fun x => (frN x w, frD x w))) w0 L0 (over1_prop (fun f hf => (hlow f hf).1) hL hd)
  rw [this, e]
  unfold prim
  rw [hg, if_neg (by decide)]
  conv => rhs; rw [← List.map_id (w :: xs)]
  exact List.map_congr_left fun x _ => Int.ediv_one x
theorem sum_rep {s : Str} (h : s.length = 1) : ∀ n : Nat, ((List.replicate n s).map (·.length)).sum = n
  | 0 => rfl
  | n + 1 => by
    rw [List.replicate_succ, List.map_cons, List.sum_cons, sum_rep h n, h]
    omega
theorem join_rep {s : Str} (h : s.length = 1) (n : Nat) : (Txt.join " " (List.replicate n s)).length ≤ 2 * n := by
  rw [TL.join_eq]
  cases n with
  | zero => exact Nat.zero_le _
  | succ n =>
    have e := sum_rep h (n + 1)
    rw [List.replicate_succ] at e ⊢
    rw [PyProof.Rows.len_join_cons, e, List.length_replicate]
    show n + 1 + n * 1 ≤ _
    omega
theorem flat_rep (s : Str) : ∀ n : Nat, (List.replicate n [V.str s]).flatten = (List.replicate n s).map V.str
  | 0 => rfl
  | n + 1 => by
    rw [List.replicate_succ, List.replicate_succ, List.flatten_cons, flat_rep s n]
    rfl
theorem flat_rep0 : ∀ n : Nat, (List.replicate n [V.int 0]).flatten = (List.replicate n (0 : Int)).map V.int
  | 0 => rfl
  | n + 1 => by
    rw [List.replicate_succ, List.replicate_succ, List.flatten_cons, flat_rep0 n]
    rfl
theorem units65 {k : Nat} {A : Around} (r : Room k A) : A.units + 65 < cLine := by
  have := r.un
  omega
abbrev s_law : Stmt := topS 42
theorem sc_law : FnScope ["script", "pool", "d", "way", "value", "text", "good", "turn", "at", "sign", "words", "row", "due", "told", "e", "word", "x", "a", "k"] ["script"] (defScope s_law) := ⟨rfl, rfl, rfl, by decide +kernel, rfl, by decide +kernel, by decide +kernel⟩
def spLaw (T : Addr) (K : PySem.W.Frag) : Sp := fun vs H Q _ => ∃ (a : Addr) (ns : List Int), vs = [.ref a] ∧ SqL K H a (ns.map V.int) ∧ TabG H T ∧ ∀ H', Q (.bl true) H'
theorem ok_law {f T D_BadText D_BadInequality : Addr} {fd : FuncData} {k : Nat} (F : Fun K "law" "law" s_law f fd) (Z : Glb mg)
    (E_BadText : Er K mg "BadText" D_BadText) (X_BadText : ExcC K D_BadText) (E_BadInequality : mg "BadInequality" = some (.ref D_BadInequality)) (I1 : PySem.W.kitOne K (.ref D_BadText) (.ref D_BadInequality) = some false)
    (C_law_pool : Call P w K mg base k "_law_pool" ["script"] (spPool K))
    (C_law_draw : Call P w K mg base k "_law_draw" ["pool", "many"] spDraw)
    (C_law_same : Call P w K mg base k "_law_same" ["actual", "due"] (spSame 1))
    (C_law_point : Call P w K mg base k "_law_point" ["pool", "d", "most"] spPoint)
    (C_law_shown : Call P w K mg base k "_law_shown" ["x"] spShown)
    (C_law_coordinates : Call P w K mg base k "_law_coordinates" ["point"] spCoord)
    (C_law_prim : Call P w K mg base k "_law_prim" ["v"] spPrimK)
    (C_law_frac_in : Call P w K mg base k "_law_frac_in" ["text"] spLFI)
    (C_law_of_coordinates : Call P w K mg base k "_law_of_coordinates" ["row"] spOfC)
    (C_law_int_in : Call P w K mg base k "_law_int_in" ["text"] spLII)
    (Cwrite_point : Call P w K mg base k "write_point" ["point"] spWP)
    (Cwrite_inequality : Call P w K mg base k "write_inequality" ["inequality"] spWQ)
    (Cread_point : CallX P w K mg base k "read_point" ["d", "text"] (spRPX T D_BadText))
    (Cread_inequality : CallX P w K mg base k "read_inequality" ["d", "text"] (spRIX T D_BadText)) : FnOk P w K mg base CX0 (k + 1) f fd ["script"] (spLaw T K) := by
  refine F.ok sc_law (fun vs H Q E h => ?_) (fun cdv A outer s H vs Q E hr h => ?_)
  · obtain ⟨a, ns, rfl, _⟩ := h
    rfl
  · obtain ⟨sa, ns, rfl, hS, hT0, q⟩ := h
    refine ⟨_, (pss_cons (ps_set (i := 1) sc_law.nd rfl (.inr rfl) (pe_call C_law_pool.G hr (by rfl) C_law_pool.m C_law_pool.kp C_law_pool.b .nil pass0 (pa_cons (pv 0) pa_nil)))
      (pss_cons (ps_set (i := 2) sc_law.nd rfl (.inl rfl) (pe_op op_add pe_int (pe_call C_law_draw.G hr (by rfl) C_law_draw.m C_law_draw.kp C_law_draw.b .nil pass0 (pa_cons (pv 1) (pa_cons pe_int pa_nil)))))
      (pss_cons (ps_set (i := 3) sc_law.nd rfl (.inl rfl) (pe_call C_law_draw.G hr (by rfl) C_law_draw.m C_law_draw.kp C_law_draw.b .nil pass0 (pa_cons (pv 1) (pa_cons pe_int pa_nil))))
      (pss_cut (ps_if (pt_cmpR op_eq (pv 3) pe_int (nomark _)) (pss_cons (ps_set (i := 4) sc_law.nd rfl (.inl rfl) (pe_call C_law_point.G hr (by rfl) C_law_point.m C_law_point.kp C_law_point.b .nil pass0 (pa_cons (pv 1) (pa_cons (pv 2) (pa_cons pe_int pa_nil)))))
      (pss_cons (ps_set (i := 5) sc_law.nd rfl (.inl rfl) (pe_join pe_str (pe_lc (own := [("x", 16)]) (g := gName 16) (tt := tYes) (by rfl) sc_law.nd (pi_list (pe_call C_law_coordinates.G hr (by rfl) C_law_coordinates.m C_law_coordinates.kp C_law_coordinates.b .nil pass0 (pa_cons (pv 4) pa_nil))) (blkOk_by (own := [("x", 16)]) (N := ["script", "pool", "d", "way", "value", "text", "good", "turn", "at", "sign", "words", "row", "due", "told", "e", "word", "x", "a", "k"]) (sc := defScope s_law) (by first | decide +kernel | kernel_rfl)) (fun _ _ _ _ _ => (pg_name (i := 16) sc_law.nd rfl (.inl rfl))) (fun _ _ _ _ _ => pts_nil) (fun _ _ _ _ _ => (pe_call C_law_shown.G hr (by rfl) C_law_shown.m C_law_shown.kp C_law_shown.b .nil pass0 (pa_cons (pv 16) pa_nil))))))
      (pss_one (ps_set (i := 6) sc_law.nd rfl (.inl rfl) (pe_and (pe_call C_law_same.G hr (by rfl) C_law_same.m C_law_same.kp C_law_same.b .nil pass0 (pa_cons (pe_call Cwrite_point.G hr (by rfl) Cwrite_point.m Cwrite_point.kp Cwrite_point.b .nil pass0 (pa_cons (pv 4) pa_nil)) (pa_cons (pv 5) pa_nil))) (pe_one (pe_call C_law_same.G hr (by rfl) C_law_same.m C_law_same.kp C_law_same.b .nil pass0 (pa_cons (pe_call Cread_point.G hr (by rfl) Cread_point.m Cread_point.kp Cread_point.b .nil passL (pa_cons (pv 2) (pa_cons (pv 5) pa_nil))) (pa_cons (pv 4) pa_nil))))))))) (pss_cons (ps_set (i := 4) sc_law.nd rfl (.inl rfl) (pe_call C_law_prim.G hr (by rfl) C_law_prim.m C_law_prim.kp C_law_prim.b .nil pass0 (pa_cons (pe_op op_cat (pe_lc (own := [("k", 18)]) (g := gName 18) (tt := tYes) (by rfl) sc_law.nd (pi_range1 rfl Z.m_range (pa_cons (pv 2) pa_nil)) (blkOk_by (own := [("k", 18)]) (N := ["script", "pool", "d", "way", "value", "text", "good", "turn", "at", "sign", "words", "row", "due", "told", "e", "word", "x", "a", "k"]) (sc := defScope s_law) (by first | decide +kernel | kernel_rfl)) (fun _ _ _ _ _ => (pg_name (i := 18) sc_law.nd rfl (.inl rfl))) (fun _ _ _ _ _ => pts_nil) (fun _ _ _ _ _ => (pe_op op_sub (pe_call C_law_draw.G hr (by rfl) C_law_draw.m C_law_draw.kp C_law_draw.b .nil pass0 (pa_cons (pv 1) (pa_cons pe_int pa_nil))) pe_int))) (pe_lst (pa_cons (pe_op op_add pe_int (pe_call C_law_draw.G hr (by rfl) C_law_draw.m C_law_draw.kp C_law_draw.b .nil pass0 (pa_cons (pv 1) (pa_cons pe_int pa_nil)))) pa_nil))) pa_nil)))
      (pss_cons (ps_set (i := 5) sc_law.nd rfl (.inl rfl) (pe_join pe_str (pe_lc (own := [("a", 17)]) (g := gName 17) (tt := tYes) (by rfl) sc_law.nd (pi_tup (pv 4)) (blkOk_by (own := [("a", 17)]) (N := ["script", "pool", "d", "way", "value", "text", "good", "turn", "at", "sign", "words", "row", "due", "told", "e", "word", "x", "a", "k"]) (sc := defScope s_law) (by first | decide +kernel | kernel_rfl)) (fun _ _ _ _ _ => (pg_name (i := 17) sc_law.nd rfl (.inl rfl))) (fun _ _ _ _ _ => pts_nil) (fun _ _ _ _ _ => (pe_callTy call_str_int (by rfl) Z.m_str (by decide +kernel) (pa_cons (pv 17) pa_nil))))))
      (pss_one (ps_set (i := 6) sc_law.nd rfl (.inl rfl) (pe_and (pe_call C_law_same.G hr (by rfl) C_law_same.m C_law_same.kp C_law_same.b .nil pass0 (pa_cons (pe_call Cwrite_inequality.G hr (by rfl) Cwrite_inequality.m Cwrite_inequality.kp Cwrite_inequality.b .nil pass0 (pa_cons (pv 4) pa_nil)) (pa_cons (pv 5) pa_nil))) (pe_one (pe_call C_law_same.G hr (by rfl) C_law_same.m C_law_same.kp C_law_same.b .nil pass0 (pa_cons (pe_call Cread_inequality.G hr (by rfl) Cread_inequality.m Cread_inequality.kp Cread_inequality.b .nil passL (pa_cons (pv 2) (pa_cons (pv 5) pa_nil))) (pa_cons (pv 4) pa_nil))))))))))
      (pss_cons (ps_if (pt_not (pt_val (pv 6))) (pss_one ps_never) pss_nil)
      (pss_cut (ps_for PassesOwn.never rfl (pi_range1 rfl Z.m_range (pa_cons (pe_call C_law_draw.G hr (by rfl) C_law_draw.m C_law_draw.kp C_law_draw.b .nil pass0 (pa_cons (pv 1) (pa_cons pe_int pa_nil))) pa_nil)) (pg_name (i := 7) sc_law.nd rfl (.inl rfl)) (pss_cons (ps_set (i := 8) sc_law.nd rfl (.inl rfl) (pe_call C_law_draw.G hr (by rfl) C_law_draw.m C_law_draw.kp C_law_draw.b .nil pass0 (pa_cons (pv 1) (pa_cons (pe_op op_add (pe_callB call_len_str (by rfl) Z.m_len PySem.boot_len (pa_cons (pv 5) pa_nil)) pe_int) pa_nil))))
      (pss_cons (ps_set (i := 9) sc_law.nd rfl (.inl rfl) (pe_ix ix_str pe_str (pe_call C_law_draw.G hr (by rfl) C_law_draw.m C_law_draw.kp C_law_draw.b .nil pass0 (pa_cons (pv 1) (pa_cons pe_int pa_nil))) (fun _ _ => rfl)))
      (pss_one (ps_set (i := 5) sc_law.nd rfl (.inl rfl) (pe_ix (r := rIxL K) ix_list (pe_lst (pa_cons (pe_op op_add_str (pe_op op_add_str (pe_slice sl_str (pv 5) po_none (po_some (pv 8))) (pv 9)) (pe_slice sl_str (pv 5) (po_some (pv 8)) po_none)) (pa_cons (pe_op op_add_str (pe_slice sl_str (pv 5) po_none (po_some (pv 8))) (pe_slice sl_str (pv 5) (po_some (pe_op op_add (pv 8) pe_int)) po_none)) (pa_cons (pe_op op_add_str (pe_op op_add_str (pe_slice sl_str (pv 5) po_none (po_some (pv 8))) (pv 9)) (pe_slice sl_str (pv 5) (po_some (pe_op op_add (pv 8) pe_int)) po_none)) pa_nil)))) (pe_call C_law_draw.G hr (by rfl) C_law_draw.m C_law_draw.kp C_law_draw.b .nil pass0 (pa_cons (pv 1) (pa_cons pe_int pa_nil))) (fun _ _ => rfl)))))))
      (pss_cut (ps_if (pt_cmpR op_eq (pe_call C_law_draw.G hr (by rfl) C_law_draw.m C_law_draw.kp C_law_draw.b .nil pass0 (pa_cons (pv 1) (pa_cons pe_int pa_nil))) pe_int (nomark _)) (pss_one (ps_set (i := 5) sc_law.nd rfl (.inl rfl) (pe_ix (r := rIxL K) ix_list (pe_lst (pa_cons (pe_op op_add_str (pv 5) pe_str) (pa_cons (pe_op op_add_str (pv 5) pe_str) (pa_cons (pe_join pe_str (pe_op op_rep (pe_lst (pa_cons pe_str pa_nil)) (pe_op op_add (pv 2) (pv 3)))) (pa_cons (pe_join pe_str (pe_op op_rep (pe_lst (pa_cons pe_str pa_nil)) (pe_op op_add (pv 2) (pv 3)))) (pa_cons (pe_op op_add_str (pv 5) (pe_op op_mul1 pe_str pe_int)) (pa_cons pe_str pa_nil))))))) (pe_call C_law_draw.G hr (by rfl) C_law_draw.m C_law_draw.kp C_law_draw.b .nil pass0 (pa_cons (pv 1) (pa_cons pe_int pa_nil))) (fun _ _ => rfl)))) pss_nil)
      (pss_cons (ps_set (i := 10) sc_law.nd rfl (.inl rfl) (pe_split (pv 5) pe_str))
      (pss_cut (ps_if (pt_cmpR op_eq (pv 3) pe_int (nomark _)) (pss_cons (ps_setLc (i := 11) (own := [("word", 15)]) (g := gName 15) (tt := tYes) (by rfl) sc_law.nd rfl rfl (sw_true rfl rfl rfl (by decide +kernel)) (pi_list (pv 10)) (blkOk_by (own := [("word", 15)]) (N := ["script", "pool", "d", "way", "value", "text", "good", "turn", "at", "sign", "words", "row", "due", "told", "e", "word", "x", "a", "k"]) (sc := defScope s_law) (by first | decide +kernel | kernel_rfl)) (fun _ _ _ _ _ => (pg_name (i := 15) sc_law.nd rfl (.inl rfl))) (fun _ _ _ _ _ => pts_nil) (fun _ _ _ _ _ => (pe_call C_law_frac_in.G hr (by rfl) C_law_frac_in.m C_law_frac_in.kp C_law_frac_in.b .nil pass0 (pa_cons (pv 15) pa_nil))))
      (pss_one (ps_set (i := 12) sc_law.nd rfl (.inl rfl) (pe_ifExp (PW.pt (pw_and (pt_cmpR (r := rNotInD K) (op_notInD (units65 hr)) pe_non (pv 11) (by rfl)) (pw_and1 (pt_cmpR op_eq (pe_callB call_len_seq (by rfl) Z.m_len PySem.boot_len (pa_cons (pv 11) pa_nil)) (pv 2) (nomark _))))) (pe_call C_law_of_coordinates.G hr (by rfl) C_law_of_coordinates.m C_law_of_coordinates.kp C_law_of_coordinates.b .nil pass0 (pa_cons (pv 11) pa_nil)) pe_non)))) (pss_cons (ps_setLc (i := 11) (own := [("word", 15)]) (g := gName 15) (tt := tYes) (by rfl) sc_law.nd rfl rfl (sw_true rfl rfl rfl (by decide +kernel)) (pi_list (pv 10)) (blkOk_by (own := [("word", 15)]) (N := ["script", "pool", "d", "way", "value", "text", "good", "turn", "at", "sign", "words", "row", "due", "told", "e", "word", "x", "a", "k"]) (sc := defScope s_law) (by first | decide +kernel | kernel_rfl)) (fun _ _ _ _ _ => (pg_name (i := 15) sc_law.nd rfl (.inl rfl))) (fun _ _ _ _ _ => pts_nil) (fun _ _ _ _ _ => (pe_call C_law_int_in.G hr (by rfl) C_law_int_in.m C_law_int_in.kp C_law_int_in.b .nil pass0 (pa_cons (pv 15) pa_nil))))
      (pss_cons (ps_set (i := 12) sc_law.nd rfl (.inl rfl) pe_non)
      (pss_one (ps_if (PW.pt (pw_and (pt_cmpR (r := rNotInD K) (op_notInD (units65 hr)) pe_non (pv 11) (by rfl)) (pw_and (pt_cmpR op_eq (pe_callB call_len_seq (by rfl) Z.m_len PySem.boot_len (pa_cons (pv 11) pa_nil)) (pe_op op_add (pv 2) pe_int) (nomark _)) (pw_and (pt_cmpR (r := rEqD K) (op_eqD hr.units) (pe_call C_law_prim.G hr (by rfl) C_law_prim.m C_law_prim.kp C_law_prim.b .nil pass0 (pa_cons (pv 11) pa_nil)) (pe_callTy call_tuple_of (by rfl) Z.m_tuple (by decide +kernel) (pa_cons (pv 11) pa_nil)) (nomark _)) (pw_and1 (pt_cmpR (r := rNeD K) (op_neD hr.units) (pe_slice (r := rSlL K) sl_list (pv 11) (po_some pe_int) po_none) (pe_op op_rep (pe_lst (pa_cons pe_int pa_nil)) (pv 2)) (nomark _))))))) (pss_one (ps_set (i := 12) sc_law.nd rfl (.inl rfl) (pe_callTy call_tuple_of (by rfl) Z.m_tuple (by decide +kernel) (pa_cons (pv 11) pa_nil)))) pss_nil)))))
      (pss_cut (ps_try_as (i := 14) rfl rfl sc_law.nd rfl rfl ⟨rfl, by decide, .inl E_BadText.g⟩ takes0 (fun W pn xe tk _ => (pss_one (ps_set (i := 13) sc_law.nd rfl (.inl rfl) (pe_ifExp (pt_cmpR op_eq (pv 3) pe_int (nomark _)) (pe_callS Cread_point.G hr (by rfl) Cread_point.m Cread_point.kp Cread_point.b (fun σ => passAt tk σ) (pa_cons (pv 2) (pa_cons (pv 5) pa_nil))) (pe_callS Cread_inequality.G hr (by rfl) Cread_inequality.m Cread_inequality.kp Cread_inequality.b (fun σ => passAt tk σ) (pa_cons (pv 2) (pa_cons (pv 5) pa_nil)))))))
      (fun a oe cls d pn hz hf => (pss_one (ps_ret (pe_and (pe_cmp (pc_isN (pv 12))) (pe_one (pe_not (pe_callB (r := rE K D_BadText a cls d) (call_isE2 X_BadText hz hf) (by rfl) Z.m_isinstance (by decide +kernel) (pa_cons (pv 14) (pa_cons (pe_glob (v := .ref D_BadInequality) rfl E_BadInequality rfl) pa_nil))))))))))
      (pss_one (ps_ret (pe_and (pe_cmp (pc_notN (pv 12))) (pe_one (pe_call C_law_same.G hr (by rfl) C_law_same.m C_law_same.kp C_law_same.b .nil pass0 (pa_cons (pv 13) (pa_cons (pv 12) pa_nil))))))))))))))))), ?_⟩
    unfold tNoPart
    refine ⟨_, rfl, sa, ns, rfl, hS, fun H1 p s1 np hP => ?_⟩
    have Tp : T ≠ p := tabG_free hT0 np
    have hT1 := (smT_same hT0 s1).1
    -- d
    refine ⟨_, rfl, p, _, rfl, by decide, by decide, hP, fun v0 H2 l0 u0 P2 B2 => ⟨_, _, rfl, rfl, ?_⟩⟩
    have hT2 := tabG_keep hT1 Tp B2.keep
    obtain ⟨dn, rfl⟩ := Int.eq_ofNat_of_zero_le l0
    have ed : (1 + (dn : Int)) = ((dn + 1 : Nat) : Int) := by omega
    show gName 2 (V.int (1 + (dn : Int))) _ _ _
    rw [ed]
    have d4 : dn + 1 ≤ 4 := by omega
    -- way
    refine ⟨_, rfl, p, _, rfl, by decide, by decide, P2, fun v1 H3 l1 u1 P3 B3 => ?_⟩
    have hT3 := tabG_keep hT2 Tp B3.keep
    refine ⟨fun σ H' => ∃ (r : Addr) (z : Str), σ = [some (.ref sa), some (.ref p), some (.int ((dn + 1 : Nat) : Int)), some (.int v1), some (.ref r), some (.str z), some (.bl true), none, none, none, none, none, none, none, none, none, none, none, none] ∧ z.length ≤ 40 ∧ Pl H' p ∧ TabG H' T, ?_, ?_⟩
    · refine ⟨_, rfl, rfl, _, rfl, ite2 (fun e => ?_) (fun e => ?_)⟩
      · refine ⟨_, rfl, _, rfl, p, dn + 1, 5, rfl, by omega, by decide, by decide, P3, fun H4 r ns7 P4 K4 V4 L4 S4 W4 G4 => ?_⟩
        have hT4 := tabG_keep hT3 Tp K4.k
        obtain ⟨w0, h1, w1⟩ := W4
        cases ns7 with
        | nil => cases h1
        | cons w' xs =>
          have hw' : w' = w0 := Option.some.inj h1
          subst hw'
          have bw := S4 w' List.mem_cons_self
          have bx : ∀ x ∈ xs, x.natAbs ≤ 3 := fun x hx => S4 x (List.mem_cons_of_mem _ hx)
          have lx : xs.length = dn + 1 := by rw [List.length_cons] at L4; omega
          have u290 : ∀ {x : Int}, x.natAbs ≤ 3 → x.natAbs < 2 ^ 290 := fun h => Nat.lt_of_le_of_lt h (by decide +kernel)
          have u190 : ∀ {x : Int}, x.natAbs ≤ 3 → x.natAbs < 2 ^ 190 := fun h => Nat.lt_of_le_of_lt h (by decide +kernel)
          have mp := made_pt w1 G4
          refine ⟨⟨_, rfl⟩, _, rfl, r, w', xs, rfl, V4, w1, u290 bw, fun x hx => u290 (bx x hx), by omega, fun H5 l s5 F5 => ?_⟩
          have smf : ∀ f ∈ xs.map (fun x => (frN x w', frD x w')), Sm f := fun f hf => by
            obtain ⟨x, hx', rfl⟩ := List.mem_map.mp hf
            exact sm_fr (bx x hx') w1 bw
          have lf : (xs.map fun x => (frN x w', frD x w')).length = dn + 1 := by rw [List.length_map]; exact lx
          have ewp : wPt (xs.map fun x => (frN x w', frD x w')) = wPt (xs.map fun x => (frN x w', frD x w')) := rfl
          generalize hfs : xs.map (fun x => (frN x w', frD x w')) = fs at *
          have ne : fs ≠ [] := fun z => by rw [z] at lf; cases lf
          obtain ⟨rs, el, rl, rg⟩ := id F5
          refine ⟨l, rfl, ⟨_, SqL.of el⟩, fun D nD => ?_⟩
          refine lc_list (xs := rs.map V.ref) (fun i H' => Same H5 H' ∧ H' D = some (.lst (((fs.map fun f => wF f.1 f.2).take i).map V.str))) ⟨same_upd nD, upd_same⟩ (fun i H' _ hP => SqL.of (hP.1 _ _ el)) (fun i x H' hx hP => ?_) (fun H6 hP => ?_)
          · obtain ⟨sP, eP⟩ := hP
            obtain ⟨r2, hr1, rfl⟩ := ref_get hx
            obtain ⟨f, ef, hf⟩ := rg _ _ hr1
            have S := smf f (List.mem_of_getElem? ef)
            have X := S.tx
            refine ⟨rfl, ?_⟩
            unfold tYes
            refine iteT ?_
            refine ⟨_, rfl, r2, f.1, f.2, rfl, sP _ _ hf.1, u190 S.1, u190 S.2.1, X.wa, X.wb, fun H7 s7 => ⟨_, s7 _ _ eP, ?_, ?_, ?_⟩⟩
            · rw [List.length_map, List.length_take, List.length_map]
              exact Nat.lt_of_le_of_lt (Nat.min_le_right _ _) (small1000 (by omega))
            · intro x o hx
              rw [upd_ne (ne_of_none hx nD)]
              exact s7 _ _ (sP _ _ hx)
            · have hg : (fs.map fun f => wF f.1 f.2)[i]? = some (wF f.1 f.2) := by rw [List.getElem?_map, ef]; rfl
              rw [upd_same, take_get hg, List.map_append]
              rfl
          obtain ⟨s6, e6⟩ := hP
          rw [show (rs.map V.ref).length = (fs.map fun f => wF f.1 f.2).length by rw [List.length_map, List.length_map, rl], List.take_length] at e6
          have s46 := s5.trans s6
          have wl := wPt_len smf (by omega)
          have m6 := smT_same hT4 s46
          have V6 := V4.same s46
          refine ⟨_, D, fs.map (fun f => wF f.1 f.2), rfl, rfl, .inl (SqL.of e6), by have := sum_len smf; rw [List.length_map]; show _ + fs.length * 1 ≤ 16777216; omega, ?_⟩
          show gName 5 (V.str (wPt fs)) _ _ _
          refine ⟨_, rfl, r, w', xs, rfl, V6, w1, bw, bx, by omega, fun H7 s7 => ?_⟩
          rw [hfs]
          have m7 := m6.trans (smT_same m6.1 s7)
          refine ⟨_, rfl, _, _, rfl, .str _ _, true, rfl, iteT ?_⟩
          have sp := wPt_split smf ne
          have vF := valFs_some (ws := fs.map fun f => wF f.1 f.2) (fs := fs) (List.length_map ..).symm fun i f hf => ⟨wF f.1 f.2, by rw [List.getElem?_map, hf]; rfl, by
            have S := smf f (List.mem_of_getElem? hf)
            exact valF_wF (Nat.lt_of_le_of_lt S.1 (by decide +kernel)) (Nat.lt_of_le_of_lt S.2.1 (by decide +kernel)) S.2.2.1 (congrArg Int.ofNat S.2.2.2)⟩
          refine ⟨_, rfl, _, rfl, dn + 1, wPt fs, rfl, by omega, by omega, by omega, by rw [sp, List.length_map]; omega, fun y hy => by
            rw [sp] at hy
            obtain ⟨f, hf, rfl⟩ := List.mem_map.mp hy
            have := (smf f hf).tx.len
            omega, m7.1, fun fs' _ hv H8 r8 m8 hr8 => ?_, fun hn => ?_⟩
          · rw [sp, vF] at hv
            cases hv
            rw [mp] at hr8
            have V8 := V6.smT m6.1 ((smT_same m6.1 s7).trans m8)
            refine ⟨_, rfl, _, _, rfl, vc_alike 0 hr8 V8 (by rw [List.length_cons]; omega), ?_⟩
            exact ⟨r, wPt fs, rfl, by omega, P4.smT hT4 (m7.trans m8), (m7.trans m8).1⟩
          · rw [sp, vF, List.length_map] at hn
            rcases hn with h | h
            · exact absurd lf h
            · cases h
      · refine ⟨_, rfl, dn + 1, rfl, by omega, by omega, fun D nD => ?_⟩
        refine lc_range (lo := 0) (n := dn + 1) (fun i H' => Dr p H3 D 4 i H') (dr0 P3 nD) (fun i H' hi hW => ?_) (fun H4 hW => ?_)
        · refine ⟨rfl, ?_⟩
          unfold tYes
          refine iteT ?_
          have P5 := hW.1.choose_spec.2.1.pl
          refine ⟨_, rfl, p, _, rfl, by decide, by decide, P5, fun z H6 l6 u6 P6 B6 => ⟨_, _, rfl, rfl, ?_⟩⟩
          obtain ⟨acc, h1, h2, h3⟩ := dr_step (n := z - 4) nD P3 hW B6 P6 (by omega)
          exact ⟨acc, h1, small1000 (by omega), h3⟩
        have K4 := hW.kp
        have hT4 := tabG_keep hT3 Tp K4.k
        obtain ⟨⟨q3, _, hq3, _⟩, _, xs, eD, lx, bX⟩ := hW
        have Dp : D ≠ p := by
          obtain ⟨q0, h0⟩ := P3.q
          exact (h0.ne_free nD).1.symm
        refine ⟨_, rfl, p, _, rfl, by decide, by decide, hq3.pl, fun v4 H5 l4 u4 P5 B5 => ⟨_, _, rfl, rfl, (show 1 ≤ sizeLine by decide), fun D2 nD2 => ?_⟩⟩
        have hT5 := tabG_keep hT4 Tp B5.keep
        have eD5 := B5.keep _ _ Dp eD
        have s5 := same_upd (o := .lst [.int (1 + v4)]) nD2
        refine ⟨D, D2, _, _, rfl, rfl, s5 _ _ eD5, upd_same, ?_, fun D3 nD3 => ?_⟩
        · rw [List.length_map]
          exact Nat.le_of_lt (small1000 (show xs.length + 1 ≤ 1000 by omega))
        have s6 := same_upd (o := .lst (xs.map V.int ++ [.int (1 + v4)])) nD3
        have e6 : (upd (upd H5 D2 (.lst [.int (1 + v4)])) D3 (.lst (xs.map V.int ++ [.int (1 + v4)]))) D3 = some (.lst ((xs ++ [1 + v4]).map V.int)) := by rw [upd_same, List.map_append]; rfl
        have P6 := (P5.same s5).same s6
        have hT6 := (smT_same (smT_same hT5 s5).1 s6).1
        generalize upd (upd H5 D2 (.lst [.int (1 + v4)])) D3 (.lst (xs.map V.int ++ [.int (1 + v4)])) = H6 at *
        have b4 : ∀ x ∈ xs ++ [1 + v4], x.natAbs ≤ 16 := fun x hx => by
          rcases List.mem_append.mp hx with h | h
          · have := bX x h; omega
          · rw [List.mem_singleton.mp h]; omega
        refine ⟨false, D3, xs ++ [1 + v4], rfl, e6, by rw [List.length_append]; show xs.length + 1 ≤ 1000; omega, fun x hx => Nat.lt_of_le_of_lt (b4 x hx) (by decide +kernel), fun H7 r s7 hrow => ?_⟩
        have P7 := P6.same s7
        have hT7 := (smT_same hT6 s7).1
        have g0 : gl (xs ++ [1 + v4]) ≠ 0 := by
          have := gl_pos (ns := xs ++ [1 + v4]) (n := 1 + v4) (by simp) (by omega)
          omega
        have iq : IqN (dn + 1) (prim (xs ++ [1 + v4])) := by
          refine ⟨by rw [prim_len, List.length_append]; show xs.length + 1 = _; omega, ?_, gl_prim g0⟩
          have hl : (prim (xs ++ [1 + v4]))[dn + 1]? = some ((1 + v4) / gl (xs ++ [1 + v4])) := prim_get (by rw [List.getElem?_append_right (by omega), show dn + 1 - xs.length = 0 by omega]; rfl) (by have := gl_nn (xs ++ [1 + v4]); omega)
          rw [List.any_eq_true]
          refine ⟨(1 + v4) / gl (xs ++ [1 + v4]), ?_, ?_⟩
          · refine List.mem_of_getElem? (i := dn) ?_
            rw [List.getElem?_drop, Nat.add_comm]
            exact hl
          · have hd := gl_dvd (ns := xs ++ [1 + v4]) (n := 1 + v4) (by simp)
            have := Int.ediv_pos_of_pos_of_dvd (by omega : 0 < 1 + v4) (gl_nn _) hd
            simp
            omega
        have brow : ∀ n ∈ prim (xs ++ [1 + v4]), n.natAbs ≤ 16 := prim_small b4
        generalize prim (xs ++ [1 + v4]) = row at *
        have lr := iq.1
        have ne : row ≠ [] := fun z => by rw [z] at lr; cases lr
        have b20 : ∀ n ∈ row, n.natAbs ≤ 20 := fun n hn => by have := brow n hn; omega
        refine ⟨⟨_, rfl⟩, _, rfl, r, rfl, ⟨_, SqT.of hrow⟩, fun D4 nD4 => ?_⟩
        refine lc_tup (xs := row.map V.int) (fun i H' => Same H7 H' ∧ H' D4 = some (.lst (((row.map wI).take i).map V.str))) ⟨same_upd nD4, upd_same⟩ (fun i H' _ hP => SqT.of (hP.1 _ _ hrow)) (fun i x H' hx hP => ?_) (fun H8 hP => ?_)
        · obtain ⟨sP, eP⟩ := hP
          obtain ⟨n, hn, rfl⟩ := map_get hx
          have sm := b20 n (List.mem_of_getElem? hn)
          refine ⟨rfl, ?_⟩
          unfold tYes
          refine iteT ?_
          have lg : n.natAbs.log2 < 1920 := Nat.lt_trans (PySem.Flt.log2_lt_of (by decide) (Nat.lt_of_le_of_lt sm (show 20 < 2 ^ 190 by decide +kernel))) (by decide)
          refine ⟨_, rfl, n, rfl, lg, _, eP, ?_, ?_, ?_⟩
          · rw [List.length_map, List.length_take, List.length_map]
            exact Nat.lt_of_le_of_lt (Nat.min_le_right _ _) (small1000 (by omega))
          · intro x o hx
            rw [upd_ne (ne_of_none hx nD4)]
            exact sP _ _ hx
          · have hg : (row.map wI)[i]? = some (wI n) := by rw [List.getElem?_map, hn]; rfl
            rw [upd_same, take_get hg, List.map_append, ← dec_wI]
            rfl
        obtain ⟨s8, e8⟩ := hP
        rw [show (row.map V.int).length = (row.map wI).length by rw [List.length_map, List.length_map], List.take_length] at e8
        refine ⟨_, D4, row.map wI, rfl, rfl, .inl (SqL.of e8), by have := sumI_len b20; rw [List.length_map]; show _ + row.length * 1 ≤ 16777216; omega, ?_⟩
        show gName 5 (V.str (wIq row)) _ _ _
        have m8 := smT_same hT7 s8
        have hrow8 := hrow.same s8
        have wl := wIq_len b20 (by omega)
        refine ⟨_, rfl, r, row, rfl, hrow8, b20, by omega, fun H9 s9 => ?_⟩
        have m9 := m8.trans (smT_same m8.1 s9)
        refine ⟨_, rfl, _, _, rfl, .str _ _, true, rfl, iteT ?_⟩
        have sp := wIq_split ne
        have vI' := valIs_some (ws := row.map wI) (ns := row) (List.length_map ..).symm fun i n hn => ⟨wI n, by rw [List.getElem?_map, hn]; rfl, by
          have S := b20 n (List.mem_of_getElem? hn)
          exact valI_wI (Nat.lt_of_le_of_lt S (by decide +kernel))⟩
        refine ⟨_, rfl, _, rfl, dn + 1, wIq row, rfl, by omega, by omega, by rw [sp, List.length_map]; omega, fun y hy => by
          rw [sp] at hy
          obtain ⟨n, hn, rfl⟩ := List.mem_map.mp hy
          have := (wI_small (b20 n hn)).1
          omega, m9.1, fun ns' hv _ H10 r10 m10 hr10 => ?_, fun hn => ?_⟩
        · rw [sp, vI'] at hv
          cases hv
          have V10 := hrow8.smT m8.1 ((smT_same m8.1 s9).trans m10)
          refine ⟨_, rfl, _, _, rfl, vc_alike 0 hr10 V10 (by omega), ?_⟩
          exact ⟨r, wIq row, rfl, by omega, P7.smT hT7 (m9.trans m10), (m9.trans m10).1⟩
        · rw [sp] at hn
          exact absurd iq (hn row vI')
    · intro σ H4 hW
      obtain ⟨r0, z0, rfl, hz0, P4, hT4⟩ := hW
      refine ⟨_, rfl, true, rfl, iteF ?_⟩
      -- the loop
      refine ⟨fun σ H' => ∃ (z : Str) (y7 y8 y9 : Option V), σ = [some (.ref sa), some (.ref p), some (.int ((dn + 1 : Nat) : Int)), some (.int v1), some (.ref r0), some (.str z), some (.bl true), y7, y8, y9, none, none, none, none, none, none, none, none, none] ∧ z.length ≤ 42 ∧ Pl H' p ∧ TabG H' T, ?_, ?_⟩
      · refine ⟨_, rfl, p, _, rfl, by decide, by decide, P4, fun v H6 l6 u6 P6 B6 => ?_⟩
        obtain ⟨m, rfl⟩ := Int.eq_ofNat_of_zero_le l6
        have hT6 := tabG_keep hT4 Tp B6.keep
        refine ⟨m, rfl, by omega, by omega, ?_⟩
        refine for_range (lo := 0) (n := m) (fun i σ H' => ∃ (z : Str) (y7 y8 y9 : Option V), σ = [some (.ref sa), some (.ref p), some (.int ((dn + 1 : Nat) : Int)), some (.int v1), some (.ref r0), some (.str z), some (.bl true), y7, y8, y9, none, none, none, none, none, none, none, none, none] ∧ z.length ≤ 40 + i ∧ Pl H' p ∧ TabG H' T) ⟨_, _, _, _, rfl, hz0, P6, hT6⟩ (fun i σ H' hi hW => ?_) (fun σ H' hW => ?_)
        · obtain ⟨z, y7, y8, y9, rfl, hz, P7, hT7⟩ := hW
          have zl : z.length ≤ sizeLine := Nat.le_of_lt (small1000 (by omega))
          -- at
          refine ⟨_, rfl, _, rfl, z, rfl, zl, _, _, rfl, rfl, p, _, rfl, by show (0 : Int) < (z.length : Int) + 1; omega, Nat.lt_of_le_of_lt (show ((z.length : Int) + 1).natAbs ≤ 200 by omega) (by decide +kernel), P7, fun v8 H8 l8 u8 P8 B8 => ?_⟩
          have hT8 := tabG_keep hT7 Tp B8.keep
          obtain ⟨at', rfl⟩ := Int.eq_ofNat_of_zero_le l8
          have u8' : at' ≤ z.length := by have : (at' : Int) < (z.length : Int) + 1 := u8; omega
          -- sign
          refine ⟨_, rfl, p, _, rfl, by decide, by decide, P8, fun v9 H9 l9 u9 P9 B9 => ?_⟩
          have hT9 := tabG_keep hT8 Tp B9.keep
          obtain ⟨j, rfl⟩ := Int.eq_ofNat_of_zero_le l9
          have hj : j < ("0123456789-/ x" : Str).cps.toList.length := by
            show j < 14
            have : (j : Int) < 14 := u9
            omega
          refine ⟨_, _, _, rfl, rfl, by decide, atI_nat (j := j) (List.getElem?_eq_getElem hj), ?_⟩
          generalize ("0123456789-/ x" : Str).cps.toList[j] = c
          have sl : (⟨#[c]⟩ : Str).length = 1 := rfl
          have e0 := c0_len z at'
          have e1 := cd_len z at'
          have e2 := cd_len z (at' + 1)
          have ea : ((at' : Int) + 1) = ((at' + 1 : Nat) : Int) := rfl
          have big : ∀ n : Nat, n ≤ 1000 → n ≤ sizeLine := fun n h => Nat.le_of_lt (small1000 h)
          -- the three texts
          refine ⟨_, rfl, _, rfl, _, rfl, z, rfl, zl, _, rfl, _, _, rfl, rfl, big _ (by omega), ?_⟩
          refine ⟨_, rfl, _, rfl, _, rfl, z, rfl, zl, _, _, rfl, rfl, big _ (by rw [app_len]; omega), ?_⟩
          refine ⟨_, rfl, _, rfl, _, rfl, z, rfl, zl, _, rfl, _, rfl, _, _, rfl, rfl, _, rfl, z, rfl, zl, _, _, rfl, rfl, big _ (by rw [ea]; omega), ?_⟩
          refine ⟨_, rfl, _, rfl, _, rfl, z, rfl, zl, _, rfl, _, _, rfl, rfl, big _ (by omega), ?_⟩
          refine ⟨_, rfl, _, rfl, _, _, rfl, rfl, _, rfl, z, rfl, zl, _, _, rfl, rfl, big _ (by rw [app_len, ea]; omega), ?_⟩
          refine ⟨(show 3 ≤ sizeLine by decide), fun l nl => ?_⟩
          have s10 := same_upd (o := .lst [.str (cutS z none (some (at' : Int)) ++ ⟨#[c]⟩ ++ cutS z (some (at' : Int)) none), .str (cutS z none (some (at' : Int)) ++ cutS z (some ((at' : Int) + 1)) none), .str (cutS z none (some (at' : Int)) ++ ⟨#[c]⟩ ++ cutS z (some ((at' : Int) + 1)) none)]) nl
          refine ⟨_, rfl, p, _, rfl, by decide, by decide, P9.same s10, fun v11 H11 l11 u11 P11 B11 => ?_⟩
          have hT11 := tabG_keep (smT_same hT9 s10).1 Tp B11.keep
          obtain ⟨j3, rfl⟩ := Int.eq_ofNat_of_zero_le l11
          have lp : l ≠ p := by
            obtain ⟨q0, h0⟩ := P9.q
            exact (h0.ne_free nl).1.symm
          have hl := (B11.1 l lp).trans upd_same
          obtain ⟨z3, g3, n3⟩ := three (B := 40 + (i + 1)) (t1 := cutS z none (some (at' : Int)) ++ ⟨#[c]⟩ ++ cutS z (some (at' : Int)) none) (t2 := cutS z none (some (at' : Int)) ++ cutS z (some ((at' : Int) + 1)) none) (t3 := cutS z none (some (at' : Int)) ++ ⟨#[c]⟩ ++ cutS z (some ((at' : Int) + 1)) none) (j := j3) (by have : (j3 : Int) < 3 := u11; omega) (by rw [app_len, app_len]; omega) (by rw [app_len, ea]; omega) (by rw [app_len, app_len, ea]; omega)
          exact ⟨_, _, _, _, rfl, rfl, SqL.of hl, atI_nat (j := j3) g3, z3, _, _, _, rfl, n3, P11, hT11⟩
        · obtain ⟨z, y7, y8, y9, rfl, hz, P7, hT7⟩ := hW
          exact ⟨z, _, _, _, rfl, by have : (m : Int) < 3 := u6; omega, P7, hT7⟩
      · intro σ H6 hW
        obtain ⟨z, y7, y8, y9, rfl, hz, P6, hT6⟩ := hW
        refine ⟨fun σ H' => ∃ (z : Str) (y7 y8 y9 : Option V), σ = [some (.ref sa), some (.ref p), some (.int ((dn + 1 : Nat) : Int)), some (.int v1), some (.ref r0), some (.str z), some (.bl true), y7, y8, y9, none, none, none, none, none, none, none, none, none] ∧ z.length ≤ 103 ∧ TabG H' T, ?_, ?_⟩
        · refine ⟨_, rfl, p, _, rfl, by decide, by decide, P6, fun v7 H7 l7 u7 P7 B7 => ?_⟩
          have hT7 := tabG_keep hT6 Tp B7.keep
          refine ⟨rfl, _, rfl, ite2 (fun _ => ?_) (fun _ => ⟨z, _, _, _, rfl, by omega, hT7⟩)⟩
          have big : ∀ n : Nat, n ≤ 1000 → n ≤ sizeLine := fun n h => Nat.le_of_lt (small1000 h)
          refine ⟨_, rfl, _, _, rfl, rfl, big _ (by show z.length + 2 ≤ 1000; omega), ?_⟩
          refine ⟨_, rfl, _, _, rfl, rfl, big _ (by show z.length + 1 ≤ 1000; omega), ?_⟩
          obtain ⟨w1, rfl⟩ := Int.eq_ofNat_of_zero_le l1
          have w2 : w1 < 2 := by have : (w1 : Int) < 2 := u1; omega
          have ek : ((dn + 1 : Nat) : Int) + (w1 : Int) = ((dn + 1 + w1 : Nat) : Int) := rfl
          have tn : ((dn + 1 : Nat) + (w1 : Int)).toNat = dn + 1 + w1 := by omega
          -- the twos
          refine ⟨⟨_, rfl⟩, (show 1 ≤ sizeLine by decide), fun a1 na1 => ?_⟩
          refine ⟨_, rfl, _, rfl, _, _, rfl, rfl, a1, _, _, rfl, rfl, upd_same, by omega, by omega, Nat.le_of_lt (small1000 (by rw [tn]; show 1 * (dn + 1 + w1) ≤ 1000; omega)), fun a2 na2 => ?_⟩
          rw [tn, flat_rep]
          refine ⟨_, a2, List.replicate (dn + 1 + w1) "2", rfl, rfl, .inl (SqL.of upd_same), by rw [sum_rep rfl, List.length_replicate]; show _ + _ * 1 ≤ 16777216; omega, ?_⟩
          have s8 := (same_upd (o := .lst [.str "2"]) na1).trans (same_upd (o := .lst ((List.replicate (dn + 1 + w1) ("2" : Str)).map V.str)) na2)
          generalize upd (upd H7 a1 (.lst [.str "2"])) a2 (.lst ((List.replicate (dn + 1 + w1) ("2" : Str)).map V.str)) = H8 at *
          -- the noughts
          refine ⟨⟨_, rfl⟩, (show 1 ≤ sizeLine by decide), fun a3 na3 => ?_⟩
          refine ⟨_, rfl, _, rfl, _, _, rfl, rfl, a3, _, _, rfl, rfl, upd_same, by omega, by omega, Nat.le_of_lt (small1000 (by rw [tn]; show 1 * (dn + 1 + w1) ≤ 1000; omega)), fun a4 na4 => ?_⟩
          rw [tn, flat_rep]
          refine ⟨_, a4, List.replicate (dn + 1 + w1) "0", rfl, rfl, .inl (SqL.of upd_same), by rw [sum_rep rfl, List.length_replicate]; show _ + _ * 1 ≤ 16777216; omega, ?_⟩
          have s9 := (same_upd (o := .lst [.str "0"]) na3).trans (same_upd (o := .lst ((List.replicate (dn + 1 + w1) ("0" : Str)).map V.str)) na4)
          generalize upd (upd H8 a3 (.lst [.str "0"])) a4 (.lst ((List.replicate (dn + 1 + w1) ("0" : Str)).map V.str)) = H9 at *
          refine ⟨_, rfl, "0", 61, rfl, rfl, rfl, by omega, by omega, fun t5 n5 => ?_⟩
          refine ⟨_, _, rfl, rfl, big _ (by omega), ?_⟩
          refine ⟨(show 6 ≤ sizeLine by decide), fun l nl => ?_⟩
          have j2 := join_rep (s := "2") rfl (dn + 1 + w1)
          have j0 := join_rep (s := "0") rfl (dn + 1 + w1)
          generalize Txt.join " " (List.replicate (dn + 1 + w1) "2") = t3 at *
          generalize Txt.join " " (List.replicate (dn + 1 + w1) "0") = t4 at *
          have s10 := (s8.trans s9).trans (same_upd (o := .lst [.str (z ++ " 0"), .str (z ++ " "), .str t3, .str t4, .str (z ++ t5), .str ""]) nl)
          refine ⟨_, rfl, p, _, rfl, by decide, by decide, P7.same s10, fun v11 H11 l11 u11 P11 B11 => ?_⟩
          have hT11 := tabG_keep (smT_same hT7 s10).1 Tp B11.keep
          obtain ⟨j3, rfl⟩ := Int.eq_ofNat_of_zero_le l11
          have lp : l ≠ p := by
            obtain ⟨q0, h0⟩ := (P7.same (s8.trans s9)).q
            exact (h0.ne_free nl).1.symm
          have hl := (B11.1 l lp).trans upd_same
          obtain ⟨z3, g3, n3⟩ := six (B := 103) (t1 := z ++ " 0") (t2 := z ++ " ") (t3 := t3) (t4 := t4) (t5 := z ++ t5) (t6 := "") (j := j3) (by have : (j3 : Int) < 6 := u11; omega) (by rw [app_len]; show z.length + 2 ≤ 103; omega) (by rw [app_len]; show z.length + 1 ≤ 103; omega) (by omega) (by omega) (by rw [app_len]; omega) (Nat.zero_le _)
          exact ⟨_, _, _, _, rfl, rfl, SqL.of hl, atI_nat (j := j3) g3, z3, _, _, _, rfl, n3, hT11⟩
        · intro σ H7 hW
          obtain ⟨z, y7, y8, y9, rfl, hz, hT7⟩ := hW
          have sw := PyProof.Rows.split_weight z " " (by decide)
          have pl : ∀ y ∈ Txt.split z " ", y.length ≤ 110 := fun y hy => by
            have := le_sum (l := (Txt.split z " ").map (·.length)) (n := y.length) (List.mem_map.mpr ⟨y, hy, rfl⟩)
            omega
          have nw : (Txt.split z " ").length ≤ 110 := by omega
          refine ⟨_, rfl, ⟨_, rfl⟩, _, _, rfl, rfl, rfl, Nat.le_of_lt (small1000 (by omega)), fun pw npw => ?_⟩
          generalize hws : Txt.split z " " = ws at *
          have s8 := same_upd (o := .lst (ws.map V.str)) npw
          have ew : (upd H7 pw (.lst (ws.map V.str))) pw = some (.lst (ws.map V.str)) := upd_same
          have hT8 := (smT_same hT7 s8).1
          generalize upd H7 pw (.lst (ws.map V.str)) = H8 at *
          have lw : (ws.map V.str).length = ws.length := List.length_map ..
          refine ⟨fun σ H' => ∃ (y10 y11 : Option V) (dv : V), σ = [some (.ref sa), some (.ref p), some (.int ((dn + 1 : Nat) : Int)), some (.int v1), some (.ref r0), some (.str z), some (.bl true), y7, y8, y9, y10, y11, some dv, none, none, none, none, none, none] ∧ TabG H' T ∧
            ((v1 = 0 ∧ ((∃ fs r, dv = .ref r ∧ ws.length = dn + 1 ∧ valFs ws = some fs ∧ Vc H' r (over1 (lcmD fs) fs)) ∨ (dv = .non ∧ (ws.length ≠ dn + 1 ∨ valFs ws = none)))) ∨
             (v1 ≠ 0 ∧ ((∃ ns r, dv = .ref r ∧ valIs ws = some ns ∧ IqN (dn + 1) ns ∧ Vc H' r ns) ∨ (dv = .non ∧ ∀ ns, valIs ws = some ns → ¬ IqN (dn + 1) ns)))), ?_, ?_⟩
          · refine ⟨_, rfl, rfl, _, rfl, ite2 (fun e => ?_) (fun e => ?_)⟩
            · have e0 : v1 = 0 := V.int.inj (of_decide_eq_true e)
              refine ⟨_, rfl, pw, rfl, ⟨_, SqL.of ew⟩, fun D nD => ?_⟩
              refine lc_list (xs := ws.map V.str) (fun i H' => Same H8 H' ∧ ∃ xs, H' D = some (.lst xs) ∧ RowF H' ((ws.take i).map valF) xs) ⟨same_upd nD, [], upd_same, .nil⟩ (fun i H' _ hP => SqL.of (hP.1 _ _ ew)) (fun i x H' hx hP => ?_) (fun H9 hP => ?_)
              · rw [List.getElem?_map] at hx
                obtain ⟨y, hy, rfl⟩ := Option.map_eq_some_iff.mp hx
                obtain ⟨sP, xs, eP, rP⟩ := hP
                have hi := lt_of_get hy
                have lx := rP.len
                rw [List.length_map, List.length_take] at lx
                refine ⟨rfl, ?_⟩
                unfold tYes
                refine iteT ?_
                have go : ∀ (x : V) (H3 : Hp), Same H' H3 → CellF H3 (valF y) x → ∃ acc, H3 D = some (.lst acc) ∧ acc.length < sizeLine ∧ Same H8 (upd H3 D (.lst (acc ++ [x]))) ∧ ∃ xs, (upd H3 D (.lst (acc ++ [x]))) D = some (.lst xs) ∧ RowF (upd H3 D (.lst (acc ++ [x]))) ((ws.take (i + 1)).map valF) xs := fun x H3 s3 c => by
                  have e3 := s3 _ _ eP
                  have mv : ∀ (a : Addr) (ns : List Int), Vc H3 a ns → Vc (upd H3 D (.lst (xs ++ [x]))) a ns := fun a ns ha => by
                    have : a ≠ D := ne_of ha e3 (fun z => nomatch z)
                    unfold Vc
                    rw [upd_ne this]
                    exact ha
                  refine ⟨xs, e3, small1000 (by omega), fun a o ha => ?_, _, upd_same, ?_⟩
                  · rw [upd_ne (ne_of_none ha nD)]
                    exact s3 _ _ (sP _ _ ha)
                  · rw [take_get hy, List.map_append]
                    refine RowF.snoc ((rP.move fun a ns ha => s3 _ _ ha).move mv) ?_
                    cases hv : valF y with
                    | none => rw [hv] at c; exact c
                    | some f =>
                      rw [hv] at c
                      obtain ⟨r, e, v⟩ := c
                      exact ⟨r, e, mv _ _ v⟩
                refine ⟨_, rfl, y, rfl, by have := pl y (List.mem_of_getElem? hy); omega, fun hv H3 s3 => ?_, fun a b hv H3 r s3 hr => ?_⟩
                · exact go .non H3 s3 (by rw [hv]; rfl)
                · exact go (.ref r) H3 s3 (by rw [hv]; exact ⟨r, rfl, hr⟩)
              · obtain ⟨s9, xs, eD, rF⟩ := hP
                rw [lw, List.take_length] at rF
                have hT9 := (smT_same hT8 s9).1
                refine ⟨_, rfl, .none, (ws.map valF).map fD, .non, .lst (SqL.of eD) rF.dp, shapedN, shaped_fD _, ?_⟩
                rw [any_fD, valFs_any]
                refine ⟨_, rfl, ?_⟩
                cases hv : valFs ws with
                | none =>
                  exact iteF ⟨_, _, _, rfl, hT9, .inl ⟨e0, .inr ⟨rfl, .inr rfl⟩⟩⟩
                | some fs =>
                  have lx : xs.length = ws.length := by rw [rF.len, List.length_map]
                  rw [valFs_map hv] at rF
                  obtain ⟨rs, rfl, lr, gr⟩ := rF.refs
                  rw [List.length_map] at lx
                  refine iteT ⟨_, rfl, D, _, rfl, .inl (SqL.of eD), _, rfl, rfl, _, rfl, ?_⟩
                  rw [List.length_map]
                  by_cases hd : ws.length = dn + 1
                  · rw [show ((rs.length : Nat) : Int) = ((dn + 1 : Nat) : Int) by omega]
                    refine ite2 (fun _ => ?_) (fun e => absurd (decide_eq_true rfl) e)
                    have low := valFs_low hv
                    have mm := mm_len hv
                    have m395 : mmF fs < 2 ^ 395 := Nat.lt_of_le_of_lt (Nat.le_trans mm (Nat.pow_le_pow_right (by decide) (show _ ≤ 104 by omega))) (by decide +kernel)
                    have u300 : ∀ {x : Nat}, x < 10 ^ 60 → x < 2 ^ 300 := fun h => Nat.lt_trans h (by decide +kernel)
                    refine ⟨_, rfl, D, fs, rfl, ⟨rs, eD, lr, fun i r hr => ?_⟩, fun f hf => (low f hf).1, ?_, fun f hf => ?_, by omega, fun H10 r s10 hr => ?_⟩
                    · obtain ⟨f, h1, h2⟩ := gr i r hr
                      have lf := low f (List.mem_of_getElem? h1)
                      exact ⟨f, h1, h2, lf.1.1, u300 lf.2.1, u300 lf.2.2⟩
                    · rw [prodD_pr]
                      exact Nat.lt_of_le_of_lt (pr_mm fs) m395
                    · rw [prodD_pr]
                      exact Nat.lt_of_le_of_lt (ent_mm hf (by have := (low f hf).1.1; omega)) m395
                    · exact ⟨_, _, _, rfl, (smT_same hT9 s10).1, .inl ⟨e0, .inl ⟨fs, r, rfl, hd, rfl, hr⟩⟩⟩
                  · refine ite2 (fun e => ?_) (fun _ => ⟨_, _, _, rfl, hT9, .inl ⟨e0, .inr ⟨rfl, .inl hd⟩⟩⟩)
                    exact absurd (of_decide_eq_true e) (fun h => hd (by have := V.int.inj h; omega))
            · have e0 : v1 ≠ 0 := fun h => e (decide_eq_true (by rw [h]))
              refine ⟨_, rfl, pw, rfl, ⟨_, SqL.of ew⟩, fun D nD => ?_⟩
              refine lc_list (xs := ws.map V.str) (fun i H' => Same H8 H' ∧ H' D = some (.lst (((ws.map valI).take i).map vI))) ⟨same_upd nD, upd_same⟩ (fun i H' _ hP => SqL.of (hP.1 _ _ ew)) (fun i x H' hx hP => ?_) (fun H9 hP => ?_)
              · rw [List.getElem?_map] at hx
                obtain ⟨y, hy, rfl⟩ := Option.map_eq_some_iff.mp hx
                refine ⟨rfl, ?_⟩
                unfold tYes
                refine iteT ?_
                have hg : (ws.map valI)[i]? = some (valI y) := by rw [List.getElem?_map, hy]; rfl
                refine ⟨_, rfl, y, rfl, by have := pl y (List.mem_of_getElem? hy); omega, fun H3 s3 => ⟨_, s3 _ _ hP.2, ?_, fun x o hx => ?_, ?_⟩⟩
                · rw [List.length_map, List.length_take, List.length_map]
                  exact Nat.lt_of_le_of_lt (Nat.min_le_right _ _) (small1000 (by omega))
                · rw [upd_ne (ne_of_none hx nD)]
                  exact s3 _ _ (hP.1 _ _ hx)
                · rw [upd_same, take_get hg, List.map_append]
                  rfl
              · obtain ⟨s9, eD⟩ := hP
                rw [lw, ← List.length_map (f := valI), List.take_length] at eD
                have hT9 := (smT_same hT8 s9).1
                refine ⟨_, rfl, .none, (ws.map valI).map iD, .non, .lst (SqL.of eD) (dp_iD _), shapedN, shaped_iD _, ?_⟩
                rw [any_iD, valIs_any]
                refine ⟨_, rfl, ?_⟩
                cases hv : valIs ws with
                | none =>
                  exact iteF ⟨_, _, _, rfl, hT9, .inr ⟨e0, .inr ⟨rfl, fun ns h => (by cases h)⟩⟩⟩
                | some ns =>
                  have em := valIs_map hv
                  have lx : ns.length = ws.length := by
                    have := congrArg List.length em
                    rw [List.length_map, List.length_map] at this
                    exact this.symm
                  rw [em, List.map_map] at eD
                  have eD : H9 D = some (.lst (ns.map V.int)) := eD
                  have small : ∀ n ∈ ns, n.natAbs < 10 ^ 60 := fun n hn => by
                    have : some n ∈ ws.map valI := by rw [em]; exact List.mem_map.mpr ⟨n, hn, rfl⟩
                    obtain ⟨y, _, h⟩ := List.mem_map.mp this
                    exact (valI_some h).2.2
                  have no : ∀ H', TabG H' T → ¬ IqN (dn + 1) ns → ∃ (y10 y11 : Option V) (dv : V), [some (V.ref sa), some (.ref p), some (.int ((dn + 1 : Nat) : Int)), some (.int v1), some (.ref r0), some (.str z), some (.bl true), y7, y8, y9, some (.ref pw), some (.ref D), some .non, none, none, none, none, none, none] = [some (.ref sa), some (.ref p), some (.int ((dn + 1 : Nat) : Int)), some (.int v1), some (.ref r0), some (.str z), some (.bl true), y7, y8, y9, y10, y11, some dv, none, none, none, none, none, none] ∧ TabG H' T ∧
                    ((v1 = 0 ∧ ((∃ fs r, dv = .ref r ∧ ws.length = dn + 1 ∧ valFs ws = some fs ∧ Vc H' r (over1 (lcmD fs) fs)) ∨ (dv = .non ∧ (ws.length ≠ dn + 1 ∨ valFs ws = none)))) ∨
                     (v1 ≠ 0 ∧ ((∃ ns' r, dv = .ref r ∧ some ns = some ns' ∧ IqN (dn + 1) ns' ∧ Vc H' r ns') ∨ (dv = .non ∧ ∀ ns', some ns = some ns' → ¬ IqN (dn + 1) ns')))) := fun H' hT' hn =>
                    ⟨_, _, _, rfl, hT', .inr ⟨e0, .inr ⟨rfl, fun ns' h => by cases h; exact hn⟩⟩⟩
                  refine iteT ⟨_, rfl, D, _, rfl, .inl (SqL.of eD), _, rfl, _, _, rfl, rfl, rfl, _, rfl, ?_⟩
                  rw [List.length_map]
                  by_cases hd : ws.length = dn + 2
                  · have hl : ns.length = dn + 1 + 1 := by omega
                    have hq := prim_iq hl
                    rw [show ((ns.length : Nat) : Int) = ((dn + 1 : Nat) : Int) + 1 by omega]
                    refine ite2 (fun _ => ?_) (fun e => absurd (decide_eq_true rfl) e)
                    refine ⟨_, rfl, false, D, ns, rfl, eD, by omega, fun n hn => Nat.lt_trans (small n hn) (by decide +kernel), fun H10 r s10 hr => ?_⟩
                    have hT10 := (smT_same hT9 s10).1
                    have eD10 := s10 _ _ eD
                    refine ⟨_, rfl, D, _, rfl, .inl ⟨SqL.of eD10, fun t nt => ?_⟩⟩
                    have s11 := same_upd (o := .tup (ns.map V.int)) nt
                    have hT11 := (smT_same hT10 s11).1
                    have ht : (upd H10 t (.tup (ns.map V.int))) t = some (.tup (ns.map V.int)) := upd_same
                    generalize upd H10 t (.tup (ns.map V.int)) = H11 at *
                    have hr11 := hr.same s11
                    have eD11 := s11 _ _ eD10
                    refine ⟨_, _, .tup (SqT.of hr11) (dp_ints _), .tup (SqT.of ht) (dp_ints _), shaped_ints _ (by rw [prim_len]; omega), shaped_ints _ (by omega), ?_⟩
                    rw [PyData.eqv, eqv_ints]
                    refine ⟨_, rfl, ite2 (fun e5 => ?_) (fun e5 => ?_)⟩
                    · have e6 : prim ns = ns := of_decide_eq_true e5
                      refine ⟨_, rfl, 1, rfl, D, _, rfl, SqL.of eD11, fun a1 na1 => ?_⟩
                      rw [show (1 : Int) = ((1 : Nat) : Int) from rfl, cut_drop, ← List.map_drop]
                      have s12 := same_upd (o := .lst ((ns.drop 1).map V.int)) na1
                      have ha1 : (upd H11 a1 (.lst ((ns.drop 1).map V.int))) a1 = some (.lst ((ns.drop 1).map V.int)) := upd_same
                      have hT12 := (smT_same hT11 s12).1
                      have eD12 := s12 _ _ eD11
                      generalize upd H11 a1 (.lst ((ns.drop 1).map V.int)) = H12 at *
                      refine ⟨(show 1 ≤ sizeLine by decide), fun a2 na2 => ?_⟩
                      have s13 := same_upd (o := .lst [.int 0]) na2
                      refine ⟨_, rfl, a2, _, _, rfl, rfl, upd_same, by omega, by omega, Nat.le_of_lt (small1000 (by rw [Int.toNat_natCast]; show 1 * (dn + 1) ≤ 1000; omega)), fun a3 na3 => ?_⟩
                      rw [Int.toNat_natCast, flat_rep0]
                      have s14 := same_upd (o := .lst ((List.replicate (dn + 1) (0 : Int)).map V.int)) na3
                      have ha3 : (upd (upd H12 a2 (.lst [.int 0])) a3 (.lst ((List.replicate (dn + 1) (0 : Int)).map V.int))) a3 = some (.lst ((List.replicate (dn + 1) (0 : Int)).map V.int)) := upd_same
                      have s24 := s13.trans s14
                      generalize upd (upd H12 a2 (.lst [.int 0])) a3 (.lst ((List.replicate (dn + 1) (0 : Int)).map V.int)) = H14 at *
                      have hT14 := (smT_same hT12 s24).1
                      refine ⟨_, _, .lst (SqL.of (s24 _ _ ha1)) (dp_ints _), .lst (SqL.of ha3) (dp_ints _), shapedL_ints _ (by rw [List.length_drop]; omega), shapedL_ints _ (by rw [List.length_replicate]; omega), ?_⟩
                      rw [PyData.eqv, eqv_ints]
                      refine ⟨_, rfl, ?_⟩
                      by_cases h0 : ns.drop 1 = List.replicate (dn + 1) 0
                      · rw [decide_eq_true h0]
                        exact iteF (no H14 hT14 fun h => (hq.mp h).2 h0)
                      · rw [decide_eq_false h0]
                        refine iteT ⟨_, rfl, D, _, rfl, .inl ⟨SqL.of (s24 _ _ eD12), fun t2 nt2 => ?_⟩⟩
                        exact ⟨_, _, _, rfl, (smT_same hT14 (same_upd nt2)).1, .inr ⟨e0, .inl ⟨ns, t2, rfl, rfl, hq.mpr ⟨e6, h0⟩, upd_same⟩⟩⟩
                    · exact no H11 hT11 fun h => e5 (decide_eq_true (hq.mp h).1)
                  · refine ite2 (fun e => ?_) (fun _ => no H9 hT9 fun h => hd (by have := h.1; omega))
                    exact absurd (of_decide_eq_true e) (fun h => hd (by have := V.int.inj h; omega))
          · intro σ H9 hW
            obtain ⟨y10, y11, dv, rfl, hT9, hdue⟩ := hW
            have zl : z.length ≤ 600 := by omega
            rcases hdue with ⟨e0, hdue⟩ | ⟨e0, hdue⟩
            · subst e0
              rcases hdue with ⟨fs, r, rfl, hd, hv, hr⟩ | ⟨rfl, hn⟩
              · refine ⟨fun σ H' => ∃ (y14 : Option V) (r2 : Addr), σ = [some (.ref sa), some (.ref p), some (.int ((dn + 1 : Nat) : Int)), some (.int 0), some (.ref r0), some (.str z), some (.bl true), y7, y8, y9, y10, y11, some (.ref r), some (.ref r2), y14, none, none, none, none] ∧ Vc H' r (over1 (lcmD fs) fs) ∧ Vc H' r2 (over1 (lcmD fs) fs), ?_, ?_⟩
                · refine ⟨_, rfl, rfl, _, rfl, iteT ?_⟩
                  refine ⟨_, rfl, _, rfl, dn + 1, z, rfl, zl, by omega, by omega, by rw [hws]; omega, fun y hy => by rw [hws] at hy; have := pl y hy; omega, hT9, fun fs' _ hv' H10 r2 m10 hr2 => ?_, fun hn => ?_⟩
                  · rw [hws, hv] at hv'
                    cases hv'
                    exact ⟨_, r2, rfl, hr.smT hT9 m10, hr2⟩
                  · rw [hws, hv] at hn
                    rcases hn with h | h
                    · exact absurd hd h
                    · cases h
                · intro σ H10 hW
                  obtain ⟨y14, r2, rfl, h1, h2⟩ := hW
                  have lfs : fs.length = ws.length := by
                    have := congrArg List.length (valFs_map hv)
                    rw [List.length_map, List.length_map] at this
                    exact this.symm
                  refine ⟨_, rfl, true, rfl, iteT ?_⟩
                  exact ⟨_, rfl, _, rfl, _, _, rfl, vc_alike 0 h2 h1 (by unfold over1; rw [List.length_cons, List.length_map]; omega), q _⟩
              · refine ⟨fun _ _ => False, ?_, fun _ _ h => h.elim⟩
                refine ⟨_, rfl, rfl, _, rfl, iteT ?_⟩
                refine ⟨_, rfl, _, rfl, dn + 1, z, rfl, zl, by omega, by omega, by rw [hws]; omega, fun y hy => by rw [hws] at hy; have := pl y hy; omega, hT9, fun fs' hd' hv' => ?_, fun _ H10 m10 => ?_⟩
                · rw [hws] at hd' hv'
                  rcases hn with h | h
                  · exact absurd hd' h
                  · rw [hv'] at h; cases h
                · refine ⟨true, E_BadText.em, fun _ e ne => ?_, fun z => nomatch z⟩
                  refine ⟨_, rfl, true, rfl, iteT ?_⟩
                  exact ⟨_, rfl, rfl, rfl, _, _, _, rfl, fun u hu => hu, I1, _, rfl, q _⟩
            · rcases hdue with ⟨ns, r, rfl, hv, hi, hr⟩ | ⟨rfl, hn⟩
              · refine ⟨fun σ H' => ∃ (y14 : Option V) (r2 : Addr), σ = [some (.ref sa), some (.ref p), some (.int ((dn + 1 : Nat) : Int)), some (.int v1), some (.ref r0), some (.str z), some (.bl true), y7, y8, y9, y10, y11, some (.ref r), some (.ref r2), y14, none, none, none, none] ∧ Vc H' r ns ∧ Vc H' r2 ns, ?_, ?_⟩
                · refine ⟨_, rfl, rfl, _, rfl, ite2 (fun e => absurd (V.int.inj (of_decide_eq_true e)) e0) (fun _ => ?_)⟩
                  refine ⟨_, rfl, _, rfl, dn + 1, z, rfl, zl, by omega, by rw [hws]; omega, fun y hy => by rw [hws] at hy; have := pl y hy; omega, hT9, fun ns' hv' _ H10 r2 m10 hr2 => ?_, fun hn => ?_⟩
                  · rw [hws, hv] at hv'
                    cases hv'
                    exact ⟨_, r2, rfl, hr.smT hT9 m10, hr2⟩
                  · rw [hws] at hn
                    exact absurd hi (hn ns hv)
                · intro σ H10 hW
                  obtain ⟨y14, r2, rfl, h1, h2⟩ := hW
                  have hl := hi.1
                  refine ⟨_, rfl, true, rfl, iteT ?_⟩
                  exact ⟨_, rfl, _, rfl, _, _, rfl, vc_alike 0 h2 h1 (by omega), q _⟩
              · refine ⟨fun _ _ => False, ?_, fun _ _ h => h.elim⟩
                refine ⟨_, rfl, rfl, _, rfl, ite2 (fun e => absurd (V.int.inj (of_decide_eq_true e)) e0) (fun _ => ?_)⟩
                refine ⟨_, rfl, _, rfl, dn + 1, z, rfl, zl, by omega, by rw [hws]; omega, fun y hy => by rw [hws] at hy; have := pl y hy; omega, hT9, fun ns' hv' hi' => ?_, fun _ H10 m10 => ?_⟩
                · rw [hws] at hv'
                  exact absurd hi' (hn ns' hv')
                · refine ⟨true, E_BadText.em, fun _ e ne => ?_, fun z => nomatch z⟩
                  refine ⟨_, rfl, true, rfl, iteT ?_⟩
                  exact ⟨_, rfl, rfl, rfl, _, _, _, rfl, fun u hu => hu, I1, _, rfl, q _⟩

end
/-! ### the end: the law is called where the table of one def stands -/
theorem walk_top {l : PySem.W.OpenLaw} {n k : Nat} {q : Program} {loose : List Str} {XP : (Str → Option Value) → Heap → Prop} {YP : World → Heap → Prop} {d : DefRec} {K : Params → PySem.W.Frag} {CX : World → CXT} {x : Str}
    (hn : l.most = some n) (hn2 : n ≤ sizeLine) (hdf : d.params.defaults = []) (hr : Room k callerA) (hY : ∀ (w : World) (h : Heap), YP w h → (K w.params).In h)
    (F : ∀ (w : World) (mg : Str → Option Value) (fa : Addr) (h : Heap), YP w h → (K w.params).In h → h.Ns mainGlobals mg → mg d.name = some (.ref fa) →
      (∀ (nm : Str) (c T : Addr), ((recsOf q).any fun e => e.name == nm) = true → PySem.W.tabIn (K w.params) nm = some (c, T) → PySem.W.CodeHd h c T ∧ h.get? T = some { cls := .none, data := .fields #[] }) → LamX.LawAtS l w (K w.params) (CX w) k n x mg fa h)
    (hCX : ∀ (w : World) (H : Hp) (s : Shared) (e : Value) (s' : Shared), CX w [] H s (fun _ _ _ => False) e s' → False) :
    PySem.W.WalkO q loose XP YP l.row.toRowW d [] (fun f vs => PySem.call f vs) := by
  refine Att.attach_callB hn hdf fun w s₀ s₁ mg mb fa o pm cd doc a vs ns G Y ho hd hcd hmg hobj hints hlen hbits hg => ?_
  have KX := hY w _ Y
  obtain ⟨fd, cs, sp, hT, nT, C, hb, hsp, hF⟩ := F w mg fa _ Y KX G.T.g hmg fun nm c T hm ht => by
    cases hf : (recsOf q).find? fun e => e.name == nm with
    | none =>
      obtain ⟨e, he, hn⟩ := List.any_eq_true.mp hm
      exact absurd hn (List.find?_eq_none.mp hf e he)
    | some e => exact PySem.W.tab_of G.T KX hf ht
  exact LamX.law_callTs KX G.T.g G.T.b G.T.builtins G.T.nolimit hg hT nT C G.T.bmain hobj hints (Nat.le_trans hlen hn2) hr hF hb (fun H hH hS => hsp H a ns hlen hbits hH hS) fun H e s' => hCX w H s₁ e s'
theorem tabIn_of {K : PySem.W.Frag} {nm : Str} {f c T : Addr} {oc ec : Value} {od ed : Option Addr} {fd : FuncData} {sl es : Array (Option Value)} {vs : Array Value} (a : PySem.W.nsIn K mainGlobals nm = some (some (.ref f))) (l : K.lookup f = some ⟨oc, od, .func fd, sl⟩) (e : fd.code = .ref c)
    (lc : K.lookup c = some ⟨ec, ed, .fields vs, es⟩) (e11 : vs[11]? = some (.ref T)) : PySem.W.tabIn K nm = some (c, T) := by
  unfold PySem.W.tabIn
  rw [a]
  simp only [l, e, lc, e11]
theorem at_mk {l : PySem.W.OpenLaw} {w : World} {K : PySem.W.Frag} {q : Program} {k n : Nat} {mg : Str → Option Value} {fa : Addr} {h : Heap} {nm : Str} {c T : Addr}
    (TT : ∀ (nm : Str) (c T : Addr), ((recsOf q).any fun e => e.name == nm) = true → PySem.W.tabIn K nm = some (c, T) → PySem.W.CodeHd h c T ∧ h.get? T = some { cls := .none, data := .fields #[] })
    (hm : ((recsOf q).any fun e => e.name == nm) = true)
    (F : PySem.W.tabIn K nm = some (c, T) ∧ K.lookup T = none ∧ ∃ fd : FuncData, (∀ (s : Shared) (v : Value), BindsTo s fd ⟨[v], []⟩ [("script", v)]) ∧ ∀ base : Heap, K.In base → base.Ns mainGlobals mg → GxR.TabB base mg c T → FnOk l.prog w K mg base CX0 k fa fd ["script"] (spLaw T K)) :
    LamX.LawAtS l w K CX0 k n "script" mg fa h := by
  obtain ⟨ht, nT, fd, hb, hF⟩ := F
  obtain ⟨h1, h2⟩ := TT nm c T hm ht
  refine ⟨fd, [(c, T)], spLaw T K, fun p hp => ?_, fun p hp => ?_, fun p hp => ?_, hb, fun H a ns _ _ hT hS => ⟨a, ns, rfl, hS, ⟨#[], hT (c, T) List.mem_cons_self, trivial⟩, fun _ => rfl⟩, fun base KX G TB => hF base KX G ?_⟩
  · rw [List.mem_singleton.mp hp]; exact h2
  · rw [List.mem_singleton.mp hp]; exact nT
  · rw [List.mem_singleton.mp hp]; exact h1
  · have t := TB (c, T) List.mem_cons_self
    exact ⟨t.code, t.bm, t.gP⟩
section
variable {P : Program} {w : World} {K : PySem.W.Frag} {mg : Str → Option Value} {base : Heap}

end
/-! ### what the top has written -/
theorem all_mk {l : PySem.W.OpenLaw} {w : World} {K : PySem.W.Frag} {h : Heap} {mg : Str → Option Value} {fa f__law_same f__law_gcd f__law_spread f__law_draw f__law_pool f__law_frac f_common_divisor f__law_prim f__law_point f__law_shown f__law_coordinates f__law_of_coordinates f__law_int_in f__law_frac_in f_fraction f_coordinates f_made_point f_write_integer f_write_fraction f_write_point f_write_inequality f_is_number f_read_integer f_read_fraction f_read_point f_is_integer f_is_vector f_is_inequality f_read_inequality f_law D_BadText D_BadInequality : Addr} (X : K.In h) (G : h.Ns mainGlobals mg) (hfa : mg "law" = some (.ref fa))
    {od__law_same an__law_same od__law_gcd an__law_gcd od__law_spread an__law_spread od__law_draw an__law_draw od__law_pool an__law_pool od__law_frac an__law_frac od_common_divisor an_common_divisor od__law_prim an__law_prim od__law_point an__law_point od__law_shown an__law_shown od__law_coordinates an__law_coordinates od__law_of_coordinates an__law_of_coordinates od__law_int_in an__law_int_in od__law_frac_in an__law_frac_in od_fraction an_fraction od_coordinates an_coordinates od_made_point an_made_point od_write_integer an_write_integer od_write_fraction an_write_fraction od_write_point an_write_point od_write_inequality an_write_inequality od_is_number an_is_number od_read_integer an_read_integer od_read_fraction an_read_fraction od_read_point an_read_point od_is_integer an_is_integer od_is_vector an_is_vector od_is_inequality an_is_inequality od_read_inequality an_read_inequality od_law an_law : Option Addr} {sl__law_same sl__law_gcd sl__law_spread sl__law_draw sl__law_pool sl__law_frac sl_common_divisor sl__law_prim sl__law_point sl__law_shown sl__law_coordinates sl__law_of_coordinates sl__law_int_in sl__law_frac_in sl_fraction sl_coordinates sl_made_point sl_write_integer sl_write_fraction sl_write_point sl_write_inequality sl_is_number sl_read_integer sl_read_fraction sl_read_point sl_is_integer sl_is_vector sl_is_inequality sl_read_inequality sl_law : Array (Option Value)} {oc__law_same kV__law_same dc__law_same pm__law_same cd__law_same ct__law_same oc__law_gcd kV__law_gcd dc__law_gcd pm__law_gcd cd__law_gcd ct__law_gcd oc__law_spread kV__law_spread dc__law_spread pm__law_spread cd__law_spread ct__law_spread oc__law_draw kV__law_draw dc__law_draw pm__law_draw cd__law_draw ct__law_draw oc__law_pool kV__law_pool dc__law_pool pm__law_pool cd__law_pool ct__law_pool oc__law_frac kV__law_frac dc__law_frac pm__law_frac cd__law_frac ct__law_frac oc_common_divisor kV_common_divisor dc_common_divisor pm_common_divisor cd_common_divisor ct_common_divisor oc__law_prim kV__law_prim dc__law_prim pm__law_prim cd__law_prim ct__law_prim oc__law_point kV__law_point dc__law_point pm__law_point cd__law_point ct__law_point oc__law_shown kV__law_shown dc__law_shown pm__law_shown cd__law_shown ct__law_shown oc__law_coordinates kV__law_coordinates dc__law_coordinates pm__law_coordinates cd__law_coordinates ct__law_coordinates oc__law_of_coordinates kV__law_of_coordinates dc__law_of_coordinates pm__law_of_coordinates cd__law_of_coordinates ct__law_of_coordinates oc__law_int_in kV__law_int_in dc__law_int_in pm__law_int_in cd__law_int_in ct__law_int_in oc__law_frac_in kV__law_frac_in dc__law_frac_in pm__law_frac_in cd__law_frac_in ct__law_frac_in oc_fraction kV_fraction dc_fraction pm_fraction cd_fraction ct_fraction oc_coordinates kV_coordinates dc_coordinates pm_coordinates cd_coordinates ct_coordinates oc_made_point kV_made_point dc_made_point pm_made_point cd_made_point ct_made_point oc_write_integer kV_write_integer dc_write_integer pm_write_integer cd_write_integer ct_write_integer oc_write_fraction kV_write_fraction dc_write_fraction pm_write_fraction cd_write_fraction ct_write_fraction oc_write_point kV_write_point dc_write_point pm_write_point cd_write_point ct_write_point oc_write_inequality kV_write_inequality dc_write_inequality pm_write_inequality cd_write_inequality ct_write_inequality oc_is_number kV_is_number dc_is_number pm_is_number ct_is_number oc_read_integer kV_read_integer dc_read_integer pm_read_integer cd_read_integer ct_read_integer oc_read_fraction kV_read_fraction dc_read_fraction pm_read_fraction cd_read_fraction ct_read_fraction oc_read_point kV_read_point dc_read_point pm_read_point cd_read_point ct_read_point oc_is_integer kV_is_integer dc_is_integer pm_is_integer cd_is_integer ct_is_integer oc_is_vector kV_is_vector dc_is_vector pm_is_vector cd_is_vector ct_is_vector oc_is_inequality kV_is_inequality dc_is_inequality pm_is_inequality cd_is_inequality ct_is_inequality oc_read_inequality kV_read_inequality dc_read_inequality pm_read_inequality cd_read_inequality ct_read_inequality oc_law kV_law dc_law pm_law cd_law ct_law : Value}
    {c_I T_I : Addr} {t_most : _} {ec_I : Value} {ed_I : Option Addr} {vs_I : Array Value} {es_I : Array (Option Value)}
    (a__law_same : PySem.W.nsIn K mainGlobals "_law_same" = some (some (.ref f__law_same))) (l__law_same : K.lookup f__law_same = some ⟨oc__law_same, od__law_same, .func (PySem.W.fnOf "_law_same" "_law_same" (defArgs s__law_same) (defBody s__law_same) (defScope s__law_same) .none kV__law_same dc__law_same pm__law_same an__law_same cd__law_same ct__law_same), sl__law_same⟩) (c__law_same : PySem.W.codeIn K cd__law_same "_law_same" = true) (k__law_same : PySem.W.keepIn K (.ref f__law_same) = true)
    (a__law_gcd : PySem.W.nsIn K mainGlobals "_law_gcd" = some (some (.ref f__law_gcd))) (l__law_gcd : K.lookup f__law_gcd = some ⟨oc__law_gcd, od__law_gcd, .func (PySem.W.fnOf "_law_gcd" "_law_gcd" (defArgs s__law_gcd) (defBody s__law_gcd) (defScope s__law_gcd) .none kV__law_gcd dc__law_gcd pm__law_gcd an__law_gcd cd__law_gcd ct__law_gcd), sl__law_gcd⟩) (c__law_gcd : PySem.W.codeIn K cd__law_gcd "_law_gcd" = true) (k__law_gcd : PySem.W.keepIn K (.ref f__law_gcd) = true)
    (a__law_spread : PySem.W.nsIn K mainGlobals "_law_spread" = some (some (.ref f__law_spread))) (l__law_spread : K.lookup f__law_spread = some ⟨oc__law_spread, od__law_spread, .func (PySem.W.fnOf "_law_spread" "_law_spread" (defArgs s__law_spread) (defBody s__law_spread) (defScope s__law_spread) .none kV__law_spread dc__law_spread pm__law_spread an__law_spread cd__law_spread ct__law_spread), sl__law_spread⟩) (c__law_spread : PySem.W.codeIn K cd__law_spread "_law_spread" = true) (k__law_spread : PySem.W.keepIn K (.ref f__law_spread) = true)
    (a__law_draw : PySem.W.nsIn K mainGlobals "_law_draw" = some (some (.ref f__law_draw))) (l__law_draw : K.lookup f__law_draw = some ⟨oc__law_draw, od__law_draw, .func (PySem.W.fnOf "_law_draw" "_law_draw" (defArgs s__law_draw) (defBody s__law_draw) (defScope s__law_draw) .none kV__law_draw dc__law_draw pm__law_draw an__law_draw cd__law_draw ct__law_draw), sl__law_draw⟩) (c__law_draw : PySem.W.codeIn K cd__law_draw "_law_draw" = true) (k__law_draw : PySem.W.keepIn K (.ref f__law_draw) = true)
    (a__law_pool : PySem.W.nsIn K mainGlobals "_law_pool" = some (some (.ref f__law_pool))) (l__law_pool : K.lookup f__law_pool = some ⟨oc__law_pool, od__law_pool, .func (PySem.W.fnOf "_law_pool" "_law_pool" (defArgs s__law_pool) (defBody s__law_pool) (defScope s__law_pool) .none kV__law_pool dc__law_pool pm__law_pool an__law_pool cd__law_pool ct__law_pool), sl__law_pool⟩) (c__law_pool : PySem.W.codeIn K cd__law_pool "_law_pool" = true) (k__law_pool : PySem.W.keepIn K (.ref f__law_pool) = true)
    (a__law_frac : PySem.W.nsIn K mainGlobals "_law_frac" = some (some (.ref f__law_frac))) (l__law_frac : K.lookup f__law_frac = some ⟨oc__law_frac, od__law_frac, .func (PySem.W.fnOf "_law_frac" "_law_frac" (defArgs s__law_frac) (defBody s__law_frac) (defScope s__law_frac) .none kV__law_frac dc__law_frac pm__law_frac an__law_frac cd__law_frac ct__law_frac), sl__law_frac⟩) (c__law_frac : PySem.W.codeIn K cd__law_frac "_law_frac" = true) (k__law_frac : PySem.W.keepIn K (.ref f__law_frac) = true)
    (a_common_divisor : PySem.W.nsIn K mainGlobals "common_divisor" = some (some (.ref f_common_divisor))) (l_common_divisor : K.lookup f_common_divisor = some ⟨oc_common_divisor, od_common_divisor, .func (PySem.W.fnOf "common_divisor" "common_divisor" (defArgs s_common_divisor) (defBody s_common_divisor) (defScope s_common_divisor) .none kV_common_divisor dc_common_divisor pm_common_divisor an_common_divisor cd_common_divisor ct_common_divisor), sl_common_divisor⟩) (c_common_divisor : PySem.W.codeIn K cd_common_divisor "common_divisor" = true) (k_common_divisor : PySem.W.keepIn K (.ref f_common_divisor) = true)
    (a__law_prim : PySem.W.nsIn K mainGlobals "_law_prim" = some (some (.ref f__law_prim))) (l__law_prim : K.lookup f__law_prim = some ⟨oc__law_prim, od__law_prim, .func (PySem.W.fnOf "_law_prim" "_law_prim" (defArgs s__law_prim) (defBody s__law_prim) (defScope s__law_prim) .none kV__law_prim dc__law_prim pm__law_prim an__law_prim cd__law_prim ct__law_prim), sl__law_prim⟩) (c__law_prim : PySem.W.codeIn K cd__law_prim "_law_prim" = true) (k__law_prim : PySem.W.keepIn K (.ref f__law_prim) = true)
    (a__law_point : PySem.W.nsIn K mainGlobals "_law_point" = some (some (.ref f__law_point))) (l__law_point : K.lookup f__law_point = some ⟨oc__law_point, od__law_point, .func (PySem.W.fnOf "_law_point" "_law_point" (defArgs s__law_point) (defBody s__law_point) (defScope s__law_point) .none kV__law_point dc__law_point pm__law_point an__law_point cd__law_point ct__law_point), sl__law_point⟩) (c__law_point : PySem.W.codeIn K cd__law_point "_law_point" = true) (k__law_point : PySem.W.keepIn K (.ref f__law_point) = true)
    (a__law_shown : PySem.W.nsIn K mainGlobals "_law_shown" = some (some (.ref f__law_shown))) (l__law_shown : K.lookup f__law_shown = some ⟨oc__law_shown, od__law_shown, .func (PySem.W.fnOf "_law_shown" "_law_shown" (defArgs s__law_shown) (defBody s__law_shown) (defScope s__law_shown) .none kV__law_shown dc__law_shown pm__law_shown an__law_shown cd__law_shown ct__law_shown), sl__law_shown⟩) (c__law_shown : PySem.W.codeIn K cd__law_shown "_law_shown" = true) (k__law_shown : PySem.W.keepIn K (.ref f__law_shown) = true)
    (a__law_coordinates : PySem.W.nsIn K mainGlobals "_law_coordinates" = some (some (.ref f__law_coordinates))) (l__law_coordinates : K.lookup f__law_coordinates = some ⟨oc__law_coordinates, od__law_coordinates, .func (PySem.W.fnOf "_law_coordinates" "_law_coordinates" (defArgs s__law_coordinates) (defBody s__law_coordinates) (defScope s__law_coordinates) .none kV__law_coordinates dc__law_coordinates pm__law_coordinates an__law_coordinates cd__law_coordinates ct__law_coordinates), sl__law_coordinates⟩) (c__law_coordinates : PySem.W.codeIn K cd__law_coordinates "_law_coordinates" = true) (k__law_coordinates : PySem.W.keepIn K (.ref f__law_coordinates) = true)
    (a__law_of_coordinates : PySem.W.nsIn K mainGlobals "_law_of_coordinates" = some (some (.ref f__law_of_coordinates))) (l__law_of_coordinates : K.lookup f__law_of_coordinates = some ⟨oc__law_of_coordinates, od__law_of_coordinates, .func (PySem.W.fnOf "_law_of_coordinates" "_law_of_coordinates" (defArgs s__law_of_coordinates) (defBody s__law_of_coordinates) (defScope s__law_of_coordinates) .none kV__law_of_coordinates dc__law_of_coordinates pm__law_of_coordinates an__law_of_coordinates cd__law_of_coordinates ct__law_of_coordinates), sl__law_of_coordinates⟩) (c__law_of_coordinates : PySem.W.codeIn K cd__law_of_coordinates "_law_of_coordinates" = true) (k__law_of_coordinates : PySem.W.keepIn K (.ref f__law_of_coordinates) = true)
    (a__law_int_in : PySem.W.nsIn K mainGlobals "_law_int_in" = some (some (.ref f__law_int_in))) (l__law_int_in : K.lookup f__law_int_in = some ⟨oc__law_int_in, od__law_int_in, .func (PySem.W.fnOf "_law_int_in" "_law_int_in" (defArgs s__law_int_in) (defBody s__law_int_in) (defScope s__law_int_in) .none kV__law_int_in dc__law_int_in pm__law_int_in an__law_int_in cd__law_int_in ct__law_int_in), sl__law_int_in⟩) (c__law_int_in : PySem.W.codeIn K cd__law_int_in "_law_int_in" = true) (k__law_int_in : PySem.W.keepIn K (.ref f__law_int_in) = true)
    (a__law_frac_in : PySem.W.nsIn K mainGlobals "_law_frac_in" = some (some (.ref f__law_frac_in))) (l__law_frac_in : K.lookup f__law_frac_in = some ⟨oc__law_frac_in, od__law_frac_in, .func (PySem.W.fnOf "_law_frac_in" "_law_frac_in" (defArgs s__law_frac_in) (defBody s__law_frac_in) (defScope s__law_frac_in) .none kV__law_frac_in dc__law_frac_in pm__law_frac_in an__law_frac_in cd__law_frac_in ct__law_frac_in), sl__law_frac_in⟩) (c__law_frac_in : PySem.W.codeIn K cd__law_frac_in "_law_frac_in" = true) (k__law_frac_in : PySem.W.keepIn K (.ref f__law_frac_in) = true)
    (a_fraction : PySem.W.nsIn K mainGlobals "fraction" = some (some (.ref f_fraction))) (l_fraction : K.lookup f_fraction = some ⟨oc_fraction, od_fraction, .func (PySem.W.fnOf "fraction" "fraction" (defArgs s_fraction) (defBody s_fraction) (defScope s_fraction) .none kV_fraction dc_fraction pm_fraction an_fraction cd_fraction ct_fraction), sl_fraction⟩) (c_fraction : PySem.W.codeIn K cd_fraction "fraction" = true) (k_fraction : PySem.W.keepIn K (.ref f_fraction) = true)
    (a_coordinates : PySem.W.nsIn K mainGlobals "coordinates" = some (some (.ref f_coordinates))) (l_coordinates : K.lookup f_coordinates = some ⟨oc_coordinates, od_coordinates, .func (PySem.W.fnOf "coordinates" "coordinates" (defArgs s_coordinates) (defBody s_coordinates) (defScope s_coordinates) .none kV_coordinates dc_coordinates pm_coordinates an_coordinates cd_coordinates ct_coordinates), sl_coordinates⟩) (c_coordinates : PySem.W.codeIn K cd_coordinates "coordinates" = true) (k_coordinates : PySem.W.keepIn K (.ref f_coordinates) = true)
    (a_made_point : PySem.W.nsIn K mainGlobals "made_point" = some (some (.ref f_made_point))) (l_made_point : K.lookup f_made_point = some ⟨oc_made_point, od_made_point, .func (PySem.W.fnOf "made_point" "made_point" (defArgs s_made_point) (defBody s_made_point) (defScope s_made_point) .none kV_made_point dc_made_point pm_made_point an_made_point cd_made_point ct_made_point), sl_made_point⟩) (c_made_point : PySem.W.codeIn K cd_made_point "made_point" = true) (k_made_point : PySem.W.keepIn K (.ref f_made_point) = true)
    (a_write_integer : PySem.W.nsIn K mainGlobals "write_integer" = some (some (.ref f_write_integer))) (l_write_integer : K.lookup f_write_integer = some ⟨oc_write_integer, od_write_integer, .func (PySem.W.fnOf "write_integer" "write_integer" (defArgs s_write_integer) (defBody s_write_integer) (defScope s_write_integer) .none kV_write_integer dc_write_integer pm_write_integer an_write_integer cd_write_integer ct_write_integer), sl_write_integer⟩) (c_write_integer : PySem.W.codeIn K cd_write_integer "write_integer" = true) (k_write_integer : PySem.W.keepIn K (.ref f_write_integer) = true)
    (a_write_fraction : PySem.W.nsIn K mainGlobals "write_fraction" = some (some (.ref f_write_fraction))) (l_write_fraction : K.lookup f_write_fraction = some ⟨oc_write_fraction, od_write_fraction, .func (PySem.W.fnOf "write_fraction" "write_fraction" (defArgs s_write_fraction) (defBody s_write_fraction) (defScope s_write_fraction) .none kV_write_fraction dc_write_fraction pm_write_fraction an_write_fraction cd_write_fraction ct_write_fraction), sl_write_fraction⟩) (c_write_fraction : PySem.W.codeIn K cd_write_fraction "write_fraction" = true) (k_write_fraction : PySem.W.keepIn K (.ref f_write_fraction) = true)
    (a_write_point : PySem.W.nsIn K mainGlobals "write_point" = some (some (.ref f_write_point))) (l_write_point : K.lookup f_write_point = some ⟨oc_write_point, od_write_point, .func (PySem.W.fnOf "write_point" "write_point" (defArgs s_write_point) (defBody s_write_point) (defScope s_write_point) .none kV_write_point dc_write_point pm_write_point an_write_point cd_write_point ct_write_point), sl_write_point⟩) (c_write_point : PySem.W.codeIn K cd_write_point "write_point" = true) (k_write_point : PySem.W.keepIn K (.ref f_write_point) = true)
    (a_write_inequality : PySem.W.nsIn K mainGlobals "write_inequality" = some (some (.ref f_write_inequality))) (l_write_inequality : K.lookup f_write_inequality = some ⟨oc_write_inequality, od_write_inequality, .func (PySem.W.fnOf "write_inequality" "write_inequality" (defArgs s_write_inequality) (defBody s_write_inequality) (defScope s_write_inequality) .none kV_write_inequality dc_write_inequality pm_write_inequality an_write_inequality cd_write_inequality ct_write_inequality), sl_write_inequality⟩) (c_write_inequality : PySem.W.codeIn K cd_write_inequality "write_inequality" = true) (k_write_inequality : PySem.W.keepIn K (.ref f_write_inequality) = true)
    (a_is_number : PySem.W.nsIn K mainGlobals "is_number" = some (some (.ref f_is_number))) (l_is_number : K.lookup f_is_number = some ⟨oc_is_number, od_is_number, .func (PySem.W.fnOf "is_number" "is_number" (defArgs s_is_number) (defBody s_is_number) (defScope s_is_number) .none kV_is_number dc_is_number pm_is_number an_is_number (.ref c_I) ct_is_number), sl_is_number⟩) (c_is_number : PySem.W.codeIn K (.ref c_I) "is_number" = true) (k_is_number : PySem.W.keepIn K (.ref f_is_number) = true)
    (a_read_integer : PySem.W.nsIn K mainGlobals "read_integer" = some (some (.ref f_read_integer))) (l_read_integer : K.lookup f_read_integer = some ⟨oc_read_integer, od_read_integer, .func (PySem.W.fnOf "read_integer" "read_integer" (defArgs s_read_integer) (defBody s_read_integer) (defScope s_read_integer) .none kV_read_integer dc_read_integer pm_read_integer an_read_integer cd_read_integer ct_read_integer), sl_read_integer⟩) (c_read_integer : PySem.W.codeIn K cd_read_integer "read_integer" = true) (k_read_integer : PySem.W.keepIn K (.ref f_read_integer) = true)
    (a_read_fraction : PySem.W.nsIn K mainGlobals "read_fraction" = some (some (.ref f_read_fraction))) (l_read_fraction : K.lookup f_read_fraction = some ⟨oc_read_fraction, od_read_fraction, .func (PySem.W.fnOf "read_fraction" "read_fraction" (defArgs s_read_fraction) (defBody s_read_fraction) (defScope s_read_fraction) .none kV_read_fraction dc_read_fraction pm_read_fraction an_read_fraction cd_read_fraction ct_read_fraction), sl_read_fraction⟩) (c_read_fraction : PySem.W.codeIn K cd_read_fraction "read_fraction" = true) (k_read_fraction : PySem.W.keepIn K (.ref f_read_fraction) = true)
    (a_read_point : PySem.W.nsIn K mainGlobals "read_point" = some (some (.ref f_read_point))) (l_read_point : K.lookup f_read_point = some ⟨oc_read_point, od_read_point, .func (PySem.W.fnOf "read_point" "read_point" (defArgs s_read_point) (defBody s_read_point) (defScope s_read_point) .none kV_read_point dc_read_point pm_read_point an_read_point cd_read_point ct_read_point), sl_read_point⟩) (c_read_point : PySem.W.codeIn K cd_read_point "read_point" = true) (k_read_point : PySem.W.keepIn K (.ref f_read_point) = true)
    (a_is_integer : PySem.W.nsIn K mainGlobals "is_integer" = some (some (.ref f_is_integer))) (l_is_integer : K.lookup f_is_integer = some ⟨oc_is_integer, od_is_integer, .func (PySem.W.fnOf "is_integer" "is_integer" (defArgs s_is_integer) (defBody s_is_integer) (defScope s_is_integer) .none kV_is_integer dc_is_integer pm_is_integer an_is_integer cd_is_integer ct_is_integer), sl_is_integer⟩) (c_is_integer : PySem.W.codeIn K cd_is_integer "is_integer" = true) (k_is_integer : PySem.W.keepIn K (.ref f_is_integer) = true)
    (a_is_vector : PySem.W.nsIn K mainGlobals "is_vector" = some (some (.ref f_is_vector))) (l_is_vector : K.lookup f_is_vector = some ⟨oc_is_vector, od_is_vector, .func (PySem.W.fnOf "is_vector" "is_vector" (defArgs s_is_vector) (defBody s_is_vector) (defScope s_is_vector) .none kV_is_vector dc_is_vector pm_is_vector an_is_vector cd_is_vector ct_is_vector), sl_is_vector⟩) (c_is_vector : PySem.W.codeIn K cd_is_vector "is_vector" = true) (k_is_vector : PySem.W.keepIn K (.ref f_is_vector) = true)
    (a_is_inequality : PySem.W.nsIn K mainGlobals "is_inequality" = some (some (.ref f_is_inequality))) (l_is_inequality : K.lookup f_is_inequality = some ⟨oc_is_inequality, od_is_inequality, .func (PySem.W.fnOf "is_inequality" "is_inequality" (defArgs s_is_inequality) (defBody s_is_inequality) (defScope s_is_inequality) .none kV_is_inequality dc_is_inequality pm_is_inequality an_is_inequality cd_is_inequality ct_is_inequality), sl_is_inequality⟩) (c_is_inequality : PySem.W.codeIn K cd_is_inequality "is_inequality" = true) (k_is_inequality : PySem.W.keepIn K (.ref f_is_inequality) = true)
    (a_read_inequality : PySem.W.nsIn K mainGlobals "read_inequality" = some (some (.ref f_read_inequality))) (l_read_inequality : K.lookup f_read_inequality = some ⟨oc_read_inequality, od_read_inequality, .func (PySem.W.fnOf "read_inequality" "read_inequality" (defArgs s_read_inequality) (defBody s_read_inequality) (defScope s_read_inequality) .none kV_read_inequality dc_read_inequality pm_read_inequality an_read_inequality cd_read_inequality ct_read_inequality), sl_read_inequality⟩) (c_read_inequality : PySem.W.codeIn K cd_read_inequality "read_inequality" = true) (k_read_inequality : PySem.W.keepIn K (.ref f_read_inequality) = true)
    (a_law : PySem.W.nsIn K mainGlobals "law" = some (some (.ref f_law))) (l_law : K.lookup f_law = some ⟨oc_law, od_law, .func (PySem.W.fnOf "law" "law" (defArgs s_law) (defBody s_law) (defScope s_law) .none kV_law dc_law pm_law an_law cd_law ct_law), sl_law⟩) (c_law : PySem.W.codeIn K cd_law "law" = true) (k_law : PySem.W.keepIn K (.ref f_law) = true)
    (eg_BadText : PySem.W.nsIn K mainGlobals "BadText" = some (some (.ref D_BadText))) (ex_BadText : PySem.W.excIn K D_BadText VE "ValueError.__new__" = true) (ek_BadText : PySem.W.keepIn K (.ref D_BadText) = true) (eb_BadText : PySem.W.subIn K (.ref D_BadText) (.type "BaseException") = some true) (et_BadText : PySem.W.typeIn K (.ref D_BadText) = some (.type "type")) (ed_BadText : PySem.W.hasDictIn K D_BadText = true) (es_BadText : PySem.W.subIn K (.ref D_BadText) (.ref D_BadText) = some true)
    (eg_BadInequality : PySem.W.nsIn K mainGlobals "BadInequality" = some (some (.ref D_BadInequality)))
    (xg_BadText : PySem.W.findIn K (.ref D_BadText) "__getattribute__" = some (some (.builtin "BaseException.__getattribute__"))) (xk_BadText : PySem.W.findIn K (.ref D_BadText) "__getattr__" = some none) (xa_BadText : PySem.W.findIn K (.ref D_BadText) "__class__" = some (some (.builtin "object.__class__"))) (xn_BadText : PySem.W.specialIn K (.builtin "object.__class__") "__get__" = some (some (.builtin "getset_descriptor.__get__"))) (xt_BadText : PySem.W.takesIn K (.builtin "object.__class__") = some true) (xm_BadText : PySem.W.mroIn K D_BadText (.type "object") = some true)
    (kit_BadText_BadInequality : PySem.W.kitOne K (.ref D_BadText) (.ref D_BadInequality) = some false)
    (z_len : PySem.W.nsIn K mainGlobals "len" = some none) (z_range : PySem.W.nsIn K mainGlobals "range" = some none) (z_int : PySem.W.nsIn K mainGlobals "int" = some none) (z_list : PySem.W.nsIn K mainGlobals "list" = some none) (z_tuple : PySem.W.nsIn K mainGlobals "tuple" = some none) (z_bool : PySem.W.nsIn K mainGlobals "bool" = some none) (z_isinstance : PySem.W.nsIn K mainGlobals "isinstance" = some none) (z_abs : PySem.W.nsIn K mainGlobals "abs" = some none) (z_sum : PySem.W.nsIn K mainGlobals "sum" = some none) (z_zip : PySem.W.nsIn K mainGlobals "zip" = some none) (z_str : PySem.W.nsIn K mainGlobals "str" = some none) (z_any : PySem.W.nsIn K mainGlobals "any" = some none) (z_all : PySem.W.nsIn K mainGlobals "all" = some none) (z_reversed : PySem.W.nsIn K mainGlobals "reversed" = some none) (z_divmod : PySem.W.nsIn K mainGlobals "divmod" = some none)
    (z_gcd : PySem.W.nsIn K mainGlobals "gcd" = some (some (.builtin "math.gcd")))
    (z_lcm : PySem.W.nsIn K mainGlobals "lcm" = some (some (.builtin "math.lcm")))
    (z_most : PySem.W.nsIn K mainGlobals "MOST_DIGITS" = some (some (.int 60 t_most)))
    (t_I : K.lookup c_I = some ⟨ec_I, ed_I, .fields vs_I, es_I⟩) (e_I : vs_I[11]? = some (.ref T_I)) (n_I : K.lookup T_I = none)
    : PySem.W.tabIn K "is_number" = some (c_I, T_I) ∧ K.lookup T_I = none ∧ ∃ fd : FuncData, (∀ (s : Shared) (v : Value), BindsTo s fd ⟨[v], []⟩ [("script", v)]) ∧ ∀ base : Heap, K.In base → base.Ns mainGlobals mg → GxR.TabB base mg c_I T_I → FnOk l.prog w K mg base CX0 5 fa fd ["script"] (spLaw T_I K) := by
  have e := hfa.symm.trans (PySem.W.mg_of X G a_law)
  cases e
  have F__law_same := fun_mk (st := s__law_same) l__law_same c__law_same k__law_same
  have b__law_same := F__law_same.binds (ps := ["actual", "due"]) fun _ _ _ _ _ _ us hl => match us, hl with | [_, _], _ => rfl
  have F__law_gcd := fun_mk (st := s__law_gcd) l__law_gcd c__law_gcd k__law_gcd
  have b__law_gcd := F__law_gcd.binds (ps := ["a", "b"]) fun _ _ _ _ _ _ us hl => match us, hl with | [_, _], _ => rfl
  have F__law_spread := fun_mk (st := s__law_spread) l__law_spread c__law_spread k__law_spread
  have b__law_spread := F__law_spread.binds (ps := ["cell"]) fun _ _ _ _ _ _ us hl => match us, hl with | [_], _ => rfl
  have F__law_draw := fun_mk (st := s__law_draw) l__law_draw c__law_draw k__law_draw
  have b__law_draw := F__law_draw.binds (ps := ["pool", "many"]) fun _ _ _ _ _ _ us hl => match us, hl with | [_, _], _ => rfl
  have F__law_pool := fun_mk (st := s__law_pool) l__law_pool c__law_pool k__law_pool
  have b__law_pool := F__law_pool.binds (ps := ["script"]) fun _ _ _ _ _ _ us hl => match us, hl with | [_], _ => rfl
  have F__law_frac := fun_mk (st := s__law_frac) l__law_frac c__law_frac k__law_frac
  have b__law_frac := F__law_frac.binds (ps := ["a", "b"]) fun _ _ _ _ _ _ us hl => match us, hl with | [_, _], _ => rfl
  have F_common_divisor := fun_mk (st := s_common_divisor) l_common_divisor c_common_divisor k_common_divisor
  have b_common_divisor := F_common_divisor.binds (ps := ["v"]) fun _ _ _ _ _ _ us hl => match us, hl with | [_], _ => rfl
  have F__law_prim := fun_mk (st := s__law_prim) l__law_prim c__law_prim k__law_prim
  have b__law_prim := F__law_prim.binds (ps := ["v"]) fun _ _ _ _ _ _ us hl => match us, hl with | [_], _ => rfl
  have F__law_point := fun_mk (st := s__law_point) l__law_point c__law_point k__law_point
  have b__law_point := F__law_point.binds (ps := ["pool", "d", "most"]) fun _ _ _ _ _ _ us hl => match us, hl with | [_, _, _], _ => rfl
  have F__law_shown := fun_mk (st := s__law_shown) l__law_shown c__law_shown k__law_shown
  have b__law_shown := F__law_shown.binds (ps := ["x"]) fun _ _ _ _ _ _ us hl => match us, hl with | [_], _ => rfl
  have F__law_coordinates := fun_mk (st := s__law_coordinates) l__law_coordinates c__law_coordinates k__law_coordinates
  have b__law_coordinates := F__law_coordinates.binds (ps := ["point"]) fun _ _ _ _ _ _ us hl => match us, hl with | [_], _ => rfl
  have F__law_of_coordinates := fun_mk (st := s__law_of_coordinates) l__law_of_coordinates c__law_of_coordinates k__law_of_coordinates
  have b__law_of_coordinates := F__law_of_coordinates.binds (ps := ["row"]) fun _ _ _ _ _ _ us hl => match us, hl with | [_], _ => rfl
  have F__law_int_in := fun_mk (st := s__law_int_in) l__law_int_in c__law_int_in k__law_int_in
  have b__law_int_in := F__law_int_in.binds (ps := ["text"]) fun _ _ _ _ _ _ us hl => match us, hl with | [_], _ => rfl
  have F__law_frac_in := fun_mk (st := s__law_frac_in) l__law_frac_in c__law_frac_in k__law_frac_in
  have b__law_frac_in := F__law_frac_in.binds (ps := ["text"]) fun _ _ _ _ _ _ us hl => match us, hl with | [_], _ => rfl
  have F_fraction := fun_mk (st := s_fraction) l_fraction c_fraction k_fraction
  have b_fraction := F_fraction.binds (ps := ["a", "b"]) fun _ _ _ _ _ _ us hl => match us, hl with | [_, _], _ => rfl
  have F_coordinates := fun_mk (st := s_coordinates) l_coordinates c_coordinates k_coordinates
  have b_coordinates := F_coordinates.binds (ps := ["point"]) fun _ _ _ _ _ _ us hl => match us, hl with | [_], _ => rfl
  have F_made_point := fun_mk (st := s_made_point) l_made_point c_made_point k_made_point
  have b_made_point := F_made_point.binds (ps := ["coordinates"]) fun _ _ _ _ _ _ us hl => match us, hl with | [_], _ => rfl
  have F_write_integer := fun_mk (st := s_write_integer) l_write_integer c_write_integer k_write_integer
  have b_write_integer := F_write_integer.binds (ps := ["number"]) fun _ _ _ _ _ _ us hl => match us, hl with | [_], _ => rfl
  have F_write_fraction := fun_mk (st := s_write_fraction) l_write_fraction c_write_fraction k_write_fraction
  have b_write_fraction := F_write_fraction.binds (ps := ["x"]) fun _ _ _ _ _ _ us hl => match us, hl with | [_], _ => rfl
  have F_write_point := fun_mk (st := s_write_point) l_write_point c_write_point k_write_point
  have b_write_point := F_write_point.binds (ps := ["point"]) fun _ _ _ _ _ _ us hl => match us, hl with | [_], _ => rfl
  have F_write_inequality := fun_mk (st := s_write_inequality) l_write_inequality c_write_inequality k_write_inequality
  have b_write_inequality := F_write_inequality.binds (ps := ["inequality"]) fun _ _ _ _ _ _ us hl => match us, hl with | [_], _ => rfl
  have F_is_number := fun_mk (st := s_is_number) l_is_number c_is_number k_is_number
  have b_is_number := F_is_number.binds (ps := ["digits"]) fun _ _ _ _ _ _ us hl => match us, hl with | [_], _ => rfl
  have F_read_integer := fun_mk (st := s_read_integer) l_read_integer c_read_integer k_read_integer
  have b_read_integer := F_read_integer.binds (ps := ["text", "most_digits"]) fun _ _ _ _ _ _ us hl => match us, hl with | [_, _], _ => rfl
  have F_read_fraction := fun_mk (st := s_read_fraction) l_read_fraction c_read_fraction k_read_fraction
  have b_read_fraction := F_read_fraction.binds (ps := ["text"]) fun _ _ _ _ _ _ us hl => match us, hl with | [_], _ => rfl
  have F_read_point := fun_mk (st := s_read_point) l_read_point c_read_point k_read_point
  have b_read_point := F_read_point.binds (ps := ["d", "text"]) fun _ _ _ _ _ _ us hl => match us, hl with | [_, _], _ => rfl
  have F_is_integer := fun_mk (st := s_is_integer) l_is_integer c_is_integer k_is_integer
  have b_is_integer := F_is_integer.binds (ps := ["value"]) fun _ _ _ _ _ _ us hl => match us, hl with | [_], _ => rfl
  have F_is_vector := fun_mk (st := s_is_vector) l_is_vector c_is_vector k_is_vector
  have b_is_vector := F_is_vector.binds (ps := ["length", "value"]) fun _ _ _ _ _ _ us hl => match us, hl with | [_, _], _ => rfl
  have F_is_inequality := fun_mk (st := s_is_inequality) l_is_inequality c_is_inequality k_is_inequality
  have b_is_inequality := F_is_inequality.binds (ps := ["d", "value"]) fun _ _ _ _ _ _ us hl => match us, hl with | [_, _], _ => rfl
  have F_read_inequality := fun_mk (st := s_read_inequality) l_read_inequality c_read_inequality k_read_inequality
  have b_read_inequality := F_read_inequality.binds (ps := ["d", "text"]) fun _ _ _ _ _ _ us hl => match us, hl with | [_, _], _ => rfl
  have F_law := fun_mk (st := s_law) l_law c_law k_law
  have Z : Glb mg := ⟨PySem.W.mg_none_of X G z_len, PySem.W.mg_none_of X G z_range, PySem.W.mg_none_of X G z_int, PySem.W.mg_none_of X G z_list, PySem.W.mg_none_of X G z_tuple, PySem.W.mg_none_of X G z_bool, PySem.W.mg_none_of X G z_isinstance, PySem.W.mg_none_of X G z_abs, PySem.W.mg_none_of X G z_sum, PySem.W.mg_none_of X G z_zip, PySem.W.mg_none_of X G z_str, PySem.W.mg_none_of X G z_any, PySem.W.mg_none_of X G z_all, PySem.W.mg_none_of X G z_reversed, PySem.W.mg_none_of X G z_divmod, PySem.W.mg_of X G z_gcd, PySem.W.mg_of X G z_lcm, ⟨_, PySem.W.mg_of X G z_most⟩⟩
  have FC_is_number : FunC K "is_number" "is_number" s_is_number f_is_number _ c_I := ⟨_, _, _, _, _, _, _, _, rfl, l_is_number, c_is_number⟩
  refine ⟨tabIn_of a_is_number l_is_number rfl t_I e_I, n_I, ?_⟩
  have E_BadText : Er K mg "BadText" D_BadText := ⟨PySem.W.mg_of X G eg_BadText, ex_BadText, ek_BadText, eb_BadText, et_BadText, ed_BadText, es_BadText⟩
  have X_BadText : ExcC K D_BadText := ⟨xg_BadText, xk_BadText, eb_BadText, ed_BadText, xa_BadText, xn_BadText, xt_BadText, xm_BadText⟩
  refine ⟨PySem.W.fnOf "law" "law" (defArgs s_law) (defBody s_law) (defScope s_law) .none kV_law dc_law pm_law an_law cd_law ct_law, fun s v => .of_eq rfl, fun base _ _ TB => ?_⟩
  have S__law_pool_4 : FnOk l.prog w K mg base CX0 4 f__law_pool _ ["script"] (spPool K) := ok_pool (k := 3) F__law_pool Z 
  have C__law_pool_4 : Call l.prog w K mg base 4 "_law_pool" ["script"] (spPool K) := ⟨f__law_pool, _, S__law_pool_4, PySem.W.mg_of X G a__law_pool, F__law_pool.kp, b__law_pool⟩
  have S__law_spread_3 : FnOk l.prog w K mg base CX0 3 f__law_spread _ ["cell"] spSpread := ok_spread (k := 2) F__law_spread Z 
  have C__law_spread_3 : Call l.prog w K mg base 3 "_law_spread" ["cell"] spSpread := ⟨f__law_spread, _, S__law_spread_3, PySem.W.mg_of X G a__law_spread, F__law_spread.kp, b__law_spread⟩
  have S__law_draw_4 : FnOk l.prog w K mg base CX0 4 f__law_draw _ ["pool", "many"] spDraw := ok_draw (k := 3) F__law_draw Z  C__law_spread_3
  have C__law_draw_4 : Call l.prog w K mg base 4 "_law_draw" ["pool", "many"] spDraw := ⟨f__law_draw, _, S__law_draw_4, PySem.W.mg_of X G a__law_draw, F__law_draw.kp, b__law_draw⟩
  have S_same_0_3 := ok_same (P := l.prog) (w := w) (base := base) (k := 2) (n := 0) F__law_same Z (fun m e => absurd e (by omega)) (PySem.W.mg_of X G a__law_same) b__law_same
  have S_same_1_4 := ok_same (P := l.prog) (w := w) (base := base) (k := 3) (n := 1) F__law_same Z (fun m e => by cases e; exact S_same_0_3) (PySem.W.mg_of X G a__law_same) b__law_same
  have DS_same_1_4 : Call l.prog w K mg base 4 "_law_same" ["actual", "due"] (spSame 1) := ⟨f__law_same, _, S_same_1_4, PySem.W.mg_of X G a__law_same, F__law_same.kp, b__law_same⟩
  have S__law_spread_2 : FnOk l.prog w K mg base CX0 2 f__law_spread _ ["cell"] spSpread := ok_spread (k := 1) F__law_spread Z 
  have C__law_spread_2 : Call l.prog w K mg base 2 "_law_spread" ["cell"] spSpread := ⟨f__law_spread, _, S__law_spread_2, PySem.W.mg_of X G a__law_spread, F__law_spread.kp, b__law_spread⟩
  have S__law_draw_3 : FnOk l.prog w K mg base CX0 3 f__law_draw _ ["pool", "many"] spDraw := ok_draw (k := 2) F__law_draw Z  C__law_spread_2
  have C__law_draw_3 : Call l.prog w K mg base 3 "_law_draw" ["pool", "many"] spDraw := ⟨f__law_draw, _, S__law_draw_3, PySem.W.mg_of X G a__law_draw, F__law_draw.kp, b__law_draw⟩
  have S__law_gcd_2 : FnOk l.prog w K mg base CX0 2 f__law_gcd _ ["a", "b"] spGcd := ok_gcd (k := 1) F__law_gcd Z 
  have C__law_gcd_2 : Call l.prog w K mg base 2 "_law_gcd" ["a", "b"] spGcd := ⟨f__law_gcd, _, S__law_gcd_2, PySem.W.mg_of X G a__law_gcd, F__law_gcd.kp, b__law_gcd⟩
  have S__law_prim_3 : FnOk l.prog w K mg base CX0 3 f__law_prim _ ["v"] spPrimK := ok_lprimK (k := 2) F__law_prim Z  C__law_gcd_2
  have C__law_prim_3 : Call l.prog w K mg base 3 "_law_prim" ["v"] spPrimK := ⟨f__law_prim, _, S__law_prim_3, PySem.W.mg_of X G a__law_prim, F__law_prim.kp, b__law_prim⟩
  have S__law_point_4 : FnOk l.prog w K mg base CX0 4 f__law_point _ ["pool", "d", "most"] spPoint := ok_point (k := 3) F__law_point Z  C__law_draw_3 C__law_prim_3
  have C__law_point_4 : Call l.prog w K mg base 4 "_law_point" ["pool", "d", "most"] spPoint := ⟨f__law_point, _, S__law_point_4, PySem.W.mg_of X G a__law_point, F__law_point.kp, b__law_point⟩
  have S__law_shown_4 : FnOk l.prog w K mg base CX0 4 f__law_shown _ ["x"] spShown := ok_shown (k := 3) F__law_shown Z 
  have C__law_shown_4 : Call l.prog w K mg base 4 "_law_shown" ["x"] spShown := ⟨f__law_shown, _, S__law_shown_4, PySem.W.mg_of X G a__law_shown, F__law_shown.kp, b__law_shown⟩
  have S__law_frac_3 : FnOk l.prog w K mg base CX0 3 f__law_frac _ ["a", "b"] spFr := ok_lfrac (k := 2) F__law_frac Z  C__law_gcd_2
  have C__law_frac_3 : Call l.prog w K mg base 3 "_law_frac" ["a", "b"] spFr := ⟨f__law_frac, _, S__law_frac_3, PySem.W.mg_of X G a__law_frac, F__law_frac.kp, b__law_frac⟩
  have S__law_coordinates_4 : FnOk l.prog w K mg base CX0 4 f__law_coordinates _ ["point"] spCoord := ok_lcoord (k := 3) F__law_coordinates Z  C__law_frac_3
  have C__law_coordinates_4 : Call l.prog w K mg base 4 "_law_coordinates" ["point"] spCoord := ⟨f__law_coordinates, _, S__law_coordinates_4, PySem.W.mg_of X G a__law_coordinates, F__law_coordinates.kp, b__law_coordinates⟩
  have S__law_gcd_3 : FnOk l.prog w K mg base CX0 3 f__law_gcd _ ["a", "b"] spGcd := ok_gcd (k := 2) F__law_gcd Z 
  have C__law_gcd_3 : Call l.prog w K mg base 3 "_law_gcd" ["a", "b"] spGcd := ⟨f__law_gcd, _, S__law_gcd_3, PySem.W.mg_of X G a__law_gcd, F__law_gcd.kp, b__law_gcd⟩
  have S__law_prim_4 : FnOk l.prog w K mg base CX0 4 f__law_prim _ ["v"] spPrimK := ok_lprimK (k := 3) F__law_prim Z  C__law_gcd_3
  have C__law_prim_4 : Call l.prog w K mg base 4 "_law_prim" ["v"] spPrimK := ⟨f__law_prim, _, S__law_prim_4, PySem.W.mg_of X G a__law_prim, F__law_prim.kp, b__law_prim⟩
  have S__law_int_in_3 : FnOk l.prog w K mg base CX0 3 f__law_int_in _ ["text"] spLII := ok_lii (k := 2) F__law_int_in Z 
  have C__law_int_in_3 : Call l.prog w K mg base 3 "_law_int_in" ["text"] spLII := ⟨f__law_int_in, _, S__law_int_in_3, PySem.W.mg_of X G a__law_int_in, F__law_int_in.kp, b__law_int_in⟩
  have S__law_frac_in_4 : FnOk l.prog w K mg base CX0 4 f__law_frac_in _ ["text"] spLFI := ok_lfi (k := 3) F__law_frac_in Z  C__law_int_in_3 C__law_gcd_3
  have C__law_frac_in_4 : Call l.prog w K mg base 4 "_law_frac_in" ["text"] spLFI := ⟨f__law_frac_in, _, S__law_frac_in_4, PySem.W.mg_of X G a__law_frac_in, F__law_frac_in.kp, b__law_frac_in⟩
  have S__law_of_coordinates_4 : FnOk l.prog w K mg base CX0 4 f__law_of_coordinates _ ["row"] spOfC := ok_ofc (k := 3) F__law_of_coordinates Z  C__law_prim_3
  have C__law_of_coordinates_4 : Call l.prog w K mg base 4 "_law_of_coordinates" ["row"] spOfC := ⟨f__law_of_coordinates, _, S__law_of_coordinates_4, PySem.W.mg_of X G a__law_of_coordinates, F__law_of_coordinates.kp, b__law_of_coordinates⟩
  have S__law_int_in_4 : FnOk l.prog w K mg base CX0 4 f__law_int_in _ ["text"] spLII := ok_lii (k := 3) F__law_int_in Z 
  have C__law_int_in_4 : Call l.prog w K mg base 4 "_law_int_in" ["text"] spLII := ⟨f__law_int_in, _, S__law_int_in_4, PySem.W.mg_of X G a__law_int_in, F__law_int_in.kp, b__law_int_in⟩
  have S_fraction_2 : FnOk l.prog w K mg base CX0 2 f_fraction _ ["a", "b"] spFr := ok_frac (k := 1) F_fraction Z 
  have C_fraction_2 : Call l.prog w K mg base 2 "fraction" ["a", "b"] spFr := ⟨f_fraction, _, S_fraction_2, PySem.W.mg_of X G a_fraction, F_fraction.kp, b_fraction⟩
  have S_coordinates_3 : FnOk l.prog w K mg base CX0 3 f_coordinates _ ["point"] spCoord := ok_coord (k := 2) F_coordinates Z  C_fraction_2
  have C_coordinates_3 : Call l.prog w K mg base 3 "coordinates" ["point"] spCoord := ⟨f_coordinates, _, S_coordinates_3, PySem.W.mg_of X G a_coordinates, F_coordinates.kp, b_coordinates⟩
  have S_write_integer_v_0_1 : FnOk l.prog w K mg base CX0 1 f_write_integer _ ["number"] spWI0 := ok_wi0 (k := 0) F_write_integer Z 
  have C_write_integer_v_0_1 : Call l.prog w K mg base 1 "write_integer" ["number"] spWI0 := ⟨f_write_integer, _, S_write_integer_v_0_1, PySem.W.mg_of X G a_write_integer, F_write_integer.kp, b_write_integer⟩
  have S_write_integer_2 : FnOk l.prog w K mg base CX0 2 f_write_integer _ ["number"] spWI := ok_wi (k := 1) F_write_integer Z S_write_integer_v_0_1 (PySem.W.mg_of X G a_write_integer) b_write_integer
  have C_write_integer_2 : Call l.prog w K mg base 2 "write_integer" ["number"] spWI := ⟨f_write_integer, _, S_write_integer_2, PySem.W.mg_of X G a_write_integer, F_write_integer.kp, b_write_integer⟩
  have S_write_fraction_3 : FnOk l.prog w K mg base CX0 3 f_write_fraction _ ["x"] spWF := ok_wf (k := 2) F_write_fraction Z  C_write_integer_2
  have C_write_fraction_3 : Call l.prog w K mg base 3 "write_fraction" ["x"] spWF := ⟨f_write_fraction, _, S_write_fraction_3, PySem.W.mg_of X G a_write_fraction, F_write_fraction.kp, b_write_fraction⟩
  have S_write_point_4 : FnOk l.prog w K mg base CX0 4 f_write_point _ ["point"] spWP := ok_wp (k := 3) F_write_point Z  C_coordinates_3 C_write_fraction_3
  have C_write_point_4 : Call l.prog w K mg base 4 "write_point" ["point"] spWP := ⟨f_write_point, _, S_write_point_4, PySem.W.mg_of X G a_write_point, F_write_point.kp, b_write_point⟩
  have S_write_integer_v_0_2 : FnOk l.prog w K mg base CX0 2 f_write_integer _ ["number"] spWI0 := ok_wi0 (k := 1) F_write_integer Z 
  have C_write_integer_v_0_2 : Call l.prog w K mg base 2 "write_integer" ["number"] spWI0 := ⟨f_write_integer, _, S_write_integer_v_0_2, PySem.W.mg_of X G a_write_integer, F_write_integer.kp, b_write_integer⟩
  have S_write_integer_3 : FnOk l.prog w K mg base CX0 3 f_write_integer _ ["number"] spWI := ok_wi (k := 2) F_write_integer Z S_write_integer_v_0_2 (PySem.W.mg_of X G a_write_integer) b_write_integer
  have C_write_integer_3 : Call l.prog w K mg base 3 "write_integer" ["number"] spWI := ⟨f_write_integer, _, S_write_integer_3, PySem.W.mg_of X G a_write_integer, F_write_integer.kp, b_write_integer⟩
  have S_write_inequality_4 : FnOk l.prog w K mg base CX0 4 f_write_inequality _ ["inequality"] spWQ := ok_wq (k := 3) F_write_inequality Z  C_write_integer_3
  have C_write_inequality_4 : Call l.prog w K mg base 4 "write_inequality" ["inequality"] spWQ := ⟨f_write_inequality, _, S_write_inequality_4, PySem.W.mg_of X G a_write_inequality, F_write_inequality.kp, b_write_inequality⟩
  have S_is_number_1 : FnOk l.prog w K mg base CX0 1 f_is_number _ ["digits"] (spIsNum T_I) := ok_isnum (k := 0) FC_is_number Z TB
  have C_is_number_1 : Call l.prog w K mg base 1 "is_number" ["digits"] (spIsNum T_I) := ⟨f_is_number, _, S_is_number_1, PySem.W.mg_of X G a_is_number, F_is_number.kp, b_is_number⟩
  have S_read_integer_2 : FnOk l.prog w K mg base (L2.CX l.prog w) 2 f_read_integer _ ["text", "most_digits"] (spRdIX T_I D_BadText) := ok_rdiX (k := 1) F_read_integer Z E_BadText C_is_number_1
  have C_read_integer_2 : CallX l.prog w K mg base 2 "read_integer" ["text", "most_digits"] (spRdIX T_I D_BadText) := ⟨f_read_integer, _, S_read_integer_2, PySem.W.mg_of X G a_read_integer, F_read_integer.kp, b_read_integer⟩
  have S_read_fraction_3 : FnOk l.prog w K mg base (L2.CX l.prog w) 3 f_read_fraction _ ["text"] (spRdFX T_I D_BadText) := ok_rdfX (k := 2) F_read_fraction Z E_BadText C_read_integer_2
  have C_read_fraction_3 : CallX l.prog w K mg base 3 "read_fraction" ["text"] (spRdFX T_I D_BadText) := ⟨f_read_fraction, _, S_read_fraction_3, PySem.W.mg_of X G a_read_fraction, F_read_fraction.kp, b_read_fraction⟩
  have S_made_point_3 : FnOk l.prog w K mg base CX0 3 f_made_point _ ["coordinates"] spMadePt := ok_madept (k := 2) F_made_point Z 
  have C_made_point_3 : Call l.prog w K mg base 3 "made_point" ["coordinates"] spMadePt := ⟨f_made_point, _, S_made_point_3, PySem.W.mg_of X G a_made_point, F_made_point.kp, b_made_point⟩
  have S_read_point_4 : FnOk l.prog w K mg base (L2.CX l.prog w) 4 f_read_point _ ["d", "text"] (spRPX T_I D_BadText) := ok_rpX (k := 3) F_read_point Z E_BadText C_read_fraction_3 C_made_point_3
  have C_read_point_4 : CallX l.prog w K mg base 4 "read_point" ["d", "text"] (spRPX T_I D_BadText) := ⟨f_read_point, _, S_read_point_4, PySem.W.mg_of X G a_read_point, F_read_point.kp, b_read_point⟩
  have S_is_number_2 : FnOk l.prog w K mg base CX0 2 f_is_number _ ["digits"] (spIsNum T_I) := ok_isnum (k := 1) FC_is_number Z TB
  have C_is_number_2 : Call l.prog w K mg base 2 "is_number" ["digits"] (spIsNum T_I) := ⟨f_is_number, _, S_is_number_2, PySem.W.mg_of X G a_is_number, F_is_number.kp, b_is_number⟩
  have S_read_integer_3 : FnOk l.prog w K mg base (L2.CX l.prog w) 3 f_read_integer _ ["text", "most_digits"] (spRdIX T_I D_BadText) := ok_rdiX (k := 2) F_read_integer Z E_BadText C_is_number_2
  have C_read_integer_3 : CallX l.prog w K mg base 3 "read_integer" ["text", "most_digits"] (spRdIX T_I D_BadText) := ⟨f_read_integer, _, S_read_integer_3, PySem.W.mg_of X G a_read_integer, F_read_integer.kp, b_read_integer⟩
  have S_is_integer_1 : FnOk l.prog w K mg base CX0 1 f_is_integer _ ["value"] (spIsI K "value") := ok_pint (k := 0) F_is_integer Z 
  have C_is_integer_1 : Call l.prog w K mg base 1 "is_integer" ["value"] (spIsI K "value") := ⟨f_is_integer, _, S_is_integer_1, PySem.W.mg_of X G a_is_integer, F_is_integer.kp, b_is_integer⟩
  have S_is_vector_2 : FnOk l.prog w K mg base CX0 2 f_is_vector _ ["length", "value"] (spIsVec "length" "value") := ok_pvec (k := 1) F_is_vector Z  C_is_integer_1
  have C_is_vector_2 : Call l.prog w K mg base 2 "is_vector" ["length", "value"] (spIsVec "length" "value") := ⟨f_is_vector, _, S_is_vector_2, PySem.W.mg_of X G a_is_vector, F_is_vector.kp, b_is_vector⟩
  have S_common_divisor_2 : FnOk l.prog w K mg base CX0 2 f_common_divisor _ ["v"] spCd := ok_cd (k := 1) F_common_divisor Z 
  have C_common_divisor_2 : Call l.prog w K mg base 2 "common_divisor" ["v"] spCd := ⟨f_common_divisor, _, S_common_divisor_2, PySem.W.mg_of X G a_common_divisor, F_common_divisor.kp, b_common_divisor⟩
  have S_is_inequality_3 : FnOk l.prog w K mg base CX0 3 f_is_inequality _ ["d", "value"] (spIs IsIq) := ok_iq (k := 2) F_is_inequality Z  C_is_vector_2 C_common_divisor_2
  have C_is_inequality_3 : Call l.prog w K mg base 3 "is_inequality" ["d", "value"] (spIs IsIq) := ⟨f_is_inequality, _, S_is_inequality_3, PySem.W.mg_of X G a_is_inequality, F_is_inequality.kp, b_is_inequality⟩
  have S_read_inequality_4 : FnOk l.prog w K mg base (L2.CX l.prog w) 4 f_read_inequality _ ["d", "text"] (spRIX T_I D_BadText) := ok_riX (k := 3) F_read_inequality Z E_BadText C_read_integer_3 C_is_inequality_3
  have C_read_inequality_4 : CallX l.prog w K mg base 4 "read_inequality" ["d", "text"] (spRIX T_I D_BadText) := ⟨f_read_inequality, _, S_read_inequality_4, PySem.W.mg_of X G a_read_inequality, F_read_inequality.kp, b_read_inequality⟩
  exact ok_law (P := l.prog) (w := w) (base := base) (k := 4) F_law Z E_BadText X_BadText (PySem.W.mg_of X G eg_BadInequality) kit_BadText_BadInequality C__law_pool_4 C__law_draw_4 DS_same_1_4 C__law_point_4 C__law_shown_4 C__law_coordinates_4 C__law_prim_4 C__law_frac_in_4 C__law_of_coordinates_4 C__law_int_in_4 C_write_point_4 C_write_inequality_4 C_read_point_4 C_read_inequality_4
end HwP
open PySem PySem.W PyProof.Rows
set_option maxHeartbeats 0 in
theorem PySem.Challenge.cw_hullwright_k11_texts_of_points_and_inequ_holds : PySem.Challenge.rw_hullwright_k11_texts_of_points_and_inequ.Holds := by
  w_on; o_law; k_head; (case hw => w_witness2)
  k_fill
  refine HwP.walk_top (l := PySem.Challenge.rw_hullwright_k11_texts_of_points_and_inequ) (n := 63) (k := 5) (x := "script") (CX := fun _ => L2.CX0) rfl (by decide) rfl ⟨rfl, by decide, by decide⟩ (fun w h Y => PySem.W.kIn_of Y) ?F (fun _ _ _ _ _ h => h)
  case F =>
    intro w mg fa h Y KX G hmg TT
    refine' HwP.at_mk (nm := "is_number") TT (by decide +kernel) (HwP.all_mk KX G hmg (a__law_same := ?a__law_same) (l__law_same := ?l__law_same) (c__law_same := ?c__law_same) (k__law_same := ?k__law_same) (a__law_gcd := ?a__law_gcd) (l__law_gcd := ?l__law_gcd) (c__law_gcd := ?c__law_gcd) (k__law_gcd := ?k__law_gcd) (a__law_spread := ?a__law_spread) (l__law_spread := ?l__law_spread) (c__law_spread := ?c__law_spread) (k__law_spread := ?k__law_spread) (a__law_draw := ?a__law_draw) (l__law_draw := ?l__law_draw) (c__law_draw := ?c__law_draw) (k__law_draw := ?k__law_draw) (a__law_pool := ?a__law_pool) (l__law_pool := ?l__law_pool) (c__law_pool := ?c__law_pool) (k__law_pool := ?k__law_pool) (a__law_frac := ?a__law_frac) (l__law_frac := ?l__law_frac) (c__law_frac := ?c__law_frac) (k__law_frac := ?k__law_frac) (a_common_divisor := ?a_common_divisor) (l_common_divisor := ?l_common_divisor) (c_common_divisor := ?c_common_divisor) (k_common_divisor := ?k_common_divisor) (a__law_prim := ?a__law_prim) (l__law_prim := ?l__law_prim) (c__law_prim := ?c__law_prim) (k__law_prim := ?k__law_prim) (a__law_point := ?a__law_point) (l__law_point := ?l__law_point) (c__law_point := ?c__law_point) (k__law_point := ?k__law_point) (a__law_shown := ?a__law_shown) (l__law_shown := ?l__law_shown) (c__law_shown := ?c__law_shown) (k__law_shown := ?k__law_shown) (a__law_coordinates := ?a__law_coordinates) (l__law_coordinates := ?l__law_coordinates) (c__law_coordinates := ?c__law_coordinates) (k__law_coordinates := ?k__law_coordinates) (a__law_of_coordinates := ?a__law_of_coordinates) (l__law_of_coordinates := ?l__law_of_coordinates) (c__law_of_coordinates := ?c__law_of_coordinates) (k__law_of_coordinates := ?k__law_of_coordinates) (a__law_int_in := ?a__law_int_in) (l__law_int_in := ?l__law_int_in) (c__law_int_in := ?c__law_int_in) (k__law_int_in := ?k__law_int_in) (a__law_frac_in := ?a__law_frac_in) (l__law_frac_in := ?l__law_frac_in) (c__law_frac_in := ?c__law_frac_in) (k__law_frac_in := ?k__law_frac_in) (a_fraction := ?a_fraction) (l_fraction := ?l_fraction) (c_fraction := ?c_fraction) (k_fraction := ?k_fraction) (a_coordinates := ?a_coordinates) (l_coordinates := ?l_coordinates) (c_coordinates := ?c_coordinates) (k_coordinates := ?k_coordinates) (a_made_point := ?a_made_point) (l_made_point := ?l_made_point) (c_made_point := ?c_made_point) (k_made_point := ?k_made_point) (a_write_integer := ?a_write_integer) (l_write_integer := ?l_write_integer) (c_write_integer := ?c_write_integer) (k_write_integer := ?k_write_integer) (a_write_fraction := ?a_write_fraction) (l_write_fraction := ?l_write_fraction) (c_write_fraction := ?c_write_fraction) (k_write_fraction := ?k_write_fraction) (a_write_point := ?a_write_point) (l_write_point := ?l_write_point) (c_write_point := ?c_write_point) (k_write_point := ?k_write_point) (a_write_inequality := ?a_write_inequality) (l_write_inequality := ?l_write_inequality) (c_write_inequality := ?c_write_inequality) (k_write_inequality := ?k_write_inequality) (a_is_number := ?a_is_number) (l_is_number := ?l_is_number) (c_is_number := ?c_is_number) (k_is_number := ?k_is_number) (a_read_integer := ?a_read_integer) (l_read_integer := ?l_read_integer) (c_read_integer := ?c_read_integer) (k_read_integer := ?k_read_integer) (a_read_fraction := ?a_read_fraction) (l_read_fraction := ?l_read_fraction) (c_read_fraction := ?c_read_fraction) (k_read_fraction := ?k_read_fraction) (a_read_point := ?a_read_point) (l_read_point := ?l_read_point) (c_read_point := ?c_read_point) (k_read_point := ?k_read_point) (a_is_integer := ?a_is_integer) (l_is_integer := ?l_is_integer) (c_is_integer := ?c_is_integer) (k_is_integer := ?k_is_integer) (a_is_vector := ?a_is_vector) (l_is_vector := ?l_is_vector) (c_is_vector := ?c_is_vector) (k_is_vector := ?k_is_vector) (a_is_inequality := ?a_is_inequality) (l_is_inequality := ?l_is_inequality) (c_is_inequality := ?c_is_inequality) (k_is_inequality := ?k_is_inequality) (a_read_inequality := ?a_read_inequality) (l_read_inequality := ?l_read_inequality) (c_read_inequality := ?c_read_inequality) (k_read_inequality := ?k_read_inequality) (a_law := ?a_law) (l_law := ?l_law) (c_law := ?c_law) (k_law := ?k_law) (eg_BadText := ?eg_BadText) (ex_BadText := ?ex_BadText) (ek_BadText := ?ek_BadText) (eb_BadText := ?eb_BadText) (et_BadText := ?et_BadText) (ed_BadText := ?ed_BadText) (es_BadText := ?es_BadText) (eg_BadInequality := ?eg_BadInequality) (xg_BadText := ?xg_BadText) (xk_BadText := ?xk_BadText) (xa_BadText := ?xa_BadText) (xn_BadText := ?xn_BadText) (xt_BadText := ?xt_BadText) (xm_BadText := ?xm_BadText) (kit_BadText_BadInequality := ?kit_BadText_BadInequality) (z_len := ?z_len) (z_range := ?z_range) (z_int := ?z_int) (z_list := ?z_list) (z_tuple := ?z_tuple) (z_bool := ?z_bool) (z_isinstance := ?z_isinstance) (z_abs := ?z_abs) (z_sum := ?z_sum) (z_zip := ?z_zip) (z_str := ?z_str) (z_any := ?z_any) (z_all := ?z_all) (z_reversed := ?z_reversed) (z_divmod := ?z_divmod) (z_gcd := ?z_gcd) (z_lcm := ?z_lcm) (z_most := ?z_most) (t_I := ?t_I) (e_I := ?e_I) (n_I := ?n_I))
    (case a__law_same => k_is)
    (case l__law_same => k_is)
    (case c__law_same => k_is)
    (case k__law_same => k_is)
    (case a__law_gcd => k_is)
    (case l__law_gcd => k_is)
    (case c__law_gcd => k_is)
    (case k__law_gcd => k_is)
    (case a__law_spread => k_is)
    (case l__law_spread => k_is)
    (case c__law_spread => k_is)
    (case k__law_spread => k_is)
    (case a__law_draw => k_is)
    (case l__law_draw => k_is)
    (case c__law_draw => k_is)
    (case k__law_draw => k_is)
    (case a__law_pool => k_is)
    (case l__law_pool => k_is)
    (case c__law_pool => k_is)
    (case k__law_pool => k_is)
    (case a__law_frac => k_is)
    (case l__law_frac => k_is)
    (case c__law_frac => k_is)
    (case k__law_frac => k_is)
    (case a_common_divisor => k_is)
    (case l_common_divisor => k_is)
    (case c_common_divisor => k_is)
    (case k_common_divisor => k_is)
    (case a__law_prim => k_is)
    (case l__law_prim => k_is)
    (case c__law_prim => k_is)
    (case k__law_prim => k_is)
    (case a__law_point => k_is)
    (case l__law_point => k_is)
    (case c__law_point => k_is)
    (case k__law_point => k_is)
    (case a__law_shown => k_is)
    (case l__law_shown => k_is)
    (case c__law_shown => k_is)
    (case k__law_shown => k_is)
    (case a__law_coordinates => k_is)
    (case l__law_coordinates => k_is)
    (case c__law_coordinates => k_is)
    (case k__law_coordinates => k_is)
    (case a__law_of_coordinates => k_is)
    (case l__law_of_coordinates => k_is)
    (case c__law_of_coordinates => k_is)
    (case k__law_of_coordinates => k_is)
    (case a__law_int_in => k_is)
    (case l__law_int_in => k_is)
    (case c__law_int_in => k_is)
    (case k__law_int_in => k_is)
    (case a__law_frac_in => k_is)
    (case l__law_frac_in => k_is)
    (case c__law_frac_in => k_is)
    (case k__law_frac_in => k_is)
    (case a_fraction => k_is)
    (case l_fraction => k_is)
    (case c_fraction => k_is)
    (case k_fraction => k_is)
    (case a_coordinates => k_is)
    (case l_coordinates => k_is)
    (case c_coordinates => k_is)
    (case k_coordinates => k_is)
    (case a_made_point => k_is)
    (case l_made_point => k_is)
    (case c_made_point => k_is)
    (case k_made_point => k_is)
    (case a_write_integer => k_is)
    (case l_write_integer => k_is)
    (case c_write_integer => k_is)
    (case k_write_integer => k_is)
    (case a_write_fraction => k_is)
    (case l_write_fraction => k_is)
    (case c_write_fraction => k_is)
    (case k_write_fraction => k_is)
    (case a_write_point => k_is)
    (case l_write_point => k_is)
    (case c_write_point => k_is)
    (case k_write_point => k_is)
    (case a_write_inequality => k_is)
    (case l_write_inequality => k_is)
    (case c_write_inequality => k_is)
    (case k_write_inequality => k_is)
    (case a_is_number => k_is)
    (case l_is_number => k_is)
    (case c_is_number => k_is)
    (case k_is_number => k_is)
    (case a_read_integer => k_is)
    (case l_read_integer => k_is)
    (case c_read_integer => k_is)
    (case k_read_integer => k_is)
    (case a_read_fraction => k_is)
    (case l_read_fraction => k_is)
    (case c_read_fraction => k_is)
    (case k_read_fraction => k_is)
    (case a_read_point => k_is)
    (case l_read_point => k_is)
    (case c_read_point => k_is)
    (case k_read_point => k_is)
    (case a_is_integer => k_is)
    (case l_is_integer => k_is)
    (case c_is_integer => k_is)
    (case k_is_integer => k_is)
    (case a_is_vector => k_is)
    (case l_is_vector => k_is)
    (case c_is_vector => k_is)
    (case k_is_vector => k_is)
    (case a_is_inequality => k_is)
    (case l_is_inequality => k_is)
    (case c_is_inequality => k_is)
    (case k_is_inequality => k_is)
    (case a_read_inequality => k_is)
    (case l_read_inequality => k_is)
    (case c_read_inequality => k_is)
    (case k_read_inequality => k_is)
    (case a_law => k_is)
    (case l_law => k_is)
    (case c_law => k_is)
    (case k_law => k_is)
    (case eg_BadText => k_is)
    (case ex_BadText => k_exc)
    (case ek_BadText => k_is)
    (case eb_BadText => k_is)
    (case et_BadText => k_is)
    (case ed_BadText => k_is)
    (case es_BadText => first | rfl | k_is)
    (case eg_BadInequality => k_is)
    (case xg_BadText => k_is)
    (case xk_BadText => k_is)
    (case xa_BadText => k_is)
    (case xn_BadText => first | rfl | k_is)
    (case xt_BadText => first | rfl | k_is)
    (case xm_BadText => k_is)
    (case kit_BadText_BadInequality => first | rfl | k_is)
    (case z_len => k_is)
    (case z_range => k_is)
    (case z_int => k_is)
    (case z_list => k_is)
    (case z_tuple => k_is)
    (case z_bool => k_is)
    (case z_isinstance => k_is)
    (case z_abs => k_is)
    (case z_sum => k_is)
    (case z_zip => k_is)
    (case z_str => k_is)
    (case z_any => k_is)
    (case z_all => k_is)
    (case z_reversed => k_is)
    (case z_divmod => k_is)
    (case z_gcd => k_is)
    (case z_lcm => k_is)
    (case z_most => k_is)
    (case t_I => k_is)
    (case e_I => rfl)
    (case n_I => kernel_rfl)

