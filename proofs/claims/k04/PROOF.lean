import PyProof.Rows.All
import Wide.All
import OpenK.AllK
import Wide.FinOn
import HandS.ForMost
import HandS.Wide
import HandS.Gcd
import HandS.IsInst
import HandS.Codes
import HandS.Zip
import HandS.Walk
import HandS.TupMul
import PySem.Challenge.RW_hullwright_k04_vectors
set_option Elab.async false
set_option linter.all false
set_option maxRecDepth 100000
set_option maxHeartbeats 4000000

namespace Hw
/-- Euclid's loop, by its turn -/
def Fit (i A B : Nat) : Prop := (i = 0 ∧ A * B < 2 ^ 598) ∨ (1 ≤ i ∧ B < A ∧ A * B * 2 ^ (i - 1) < 2 ^ 598)
theorem fit0 {A B : Nat} (ha : A < 2 ^ 299) (hb : B < 2 ^ 299) : Fit 0 A B := by
  refine .inl ⟨rfl, ?_⟩
  have h : A * B < 2 ^ 299 * 2 ^ 299 := Nat.mul_lt_mul'' ha hb
  rwa [← Nat.pow_add] at h
theorem fit_step {i A B : Nat} (h : Fit i A B) (hb : B ≠ 0) : Fit (i + 1) B (A % B) := by
  have hr : A % B < B := Nat.mod_lt _ (Nat.pos_of_ne_zero hb)
  refine .inr ⟨by omega, hr, ?_⟩
  rcases h with ⟨rfl, h⟩ | ⟨hi, hlt, h⟩
  · have h1 : B * (A % B) ≤ B * A := Nat.mul_le_mul_left _ (Nat.mod_le _ _)
    rw [Nat.mul_comm B A] at h1
    show B * (A % B) * 2 ^ 0 < 2 ^ 598
    rw [Nat.pow_zero, Nat.mul_one]
    omega
  · obtain ⟨j, rfl⟩ : ∃ j, i = j + 1 := ⟨i - 1, by omega⟩
    show B * (A % B) * 2 ^ (j + 1) < 2 ^ 598
    have h2 : 2 * (A % B) ≤ A := by
      have e : B * (A / B) + A % B = A := Nat.div_add_mod A B
      have q : 1 ≤ A / B := Nat.div_pos (Nat.le_of_lt hlt) (Nat.pos_of_ne_zero hb)
      have m : B * 1 ≤ B * (A / B) := Nat.mul_le_mul_left _ q
      omega
    have h3 : B * (2 * (A % B)) ≤ B * A := Nat.mul_le_mul_left _ h2
    have h4 : B * (A % B) * 2 ^ (j + 1) = B * (2 * (A % B)) * 2 ^ j := by
      rw [Nat.pow_succ]
      simp only [Nat.mul_assoc, Nat.mul_left_comm, Nat.mul_comm]
    rw [h4]
    refine Nat.lt_of_le_of_lt (Nat.mul_le_mul_right _ h3) ?_
    rw [Nat.mul_comm B A]
    exact h
theorem fit_end {A B : Nat} (h : Fit 600 A B) : B = 0 := by
  rcases h with ⟨h, _⟩ | ⟨_, hlt, h⟩
  · omega
  · by_cases hb : B = 0
    · exact hb
    · exfalso
      have h1 : 1 ≤ A * B := Nat.mul_pos (by omega) (by omega)
      have h2 : 1 * 2 ^ (600 - 1) ≤ A * B * 2 ^ (600 - 1) := Nat.mul_le_mul_right _ h1
      have h3 : (2 : Nat) ^ 598 < 2 ^ (600 - 1) := Nat.pow_lt_pow_right (by decide) (by decide)
      omega
theorem gcd_turn (A B : Nat) : Nat.gcd B (A % B) = Nat.gcd A B := by
  rw [Nat.gcd_comm B, ← Nat.gcd_rec, Nat.gcd_comm]
/-- the greatest common divisor, an int -/
def g2 (a b : Int) : Int := ((Nat.gcd a.natAbs b.natAbs : Nat) : Int)
theorem g2_pos {a b : Int} (hb : b ≠ 0) : 0 < g2 a b := by
  unfold g2
  have : 0 < Nat.gcd a.natAbs b.natAbs := Nat.gcd_pos_of_pos_right _ (by omega)
  omega
theorem g2_le {a b : Int} (hb : b ≠ 0) : (g2 a b).natAbs ≤ b.natAbs := by
  unfold g2
  have : Nat.gcd a.natAbs b.natAbs ≤ b.natAbs := Nat.gcd_le_right _ (by omega)
  omega
/-- a fraction's two entries, b > 0 -/
def frN (a b : Int) : Int := a / g2 a b
def frD (a b : Int) : Int := b / g2 a b
theorem g2_dvd_l (a b : Int) : g2 a b ∣ a := by
  unfold g2
  exact Int.ofNat_dvd_left.mpr (Nat.gcd_dvd_left _ _)
theorem g2_dvd_r (a b : Int) : g2 a b ∣ b := by
  unfold g2
  exact Int.ofNat_dvd_left.mpr (Nat.gcd_dvd_right _ _)
theorem frD_pos {a b : Int} (hb : 0 < b) : 0 < frD a b := by
  have g := g2_pos (a := a) (b := b) (by omega)
  exact Int.ediv_pos_of_pos_of_dvd hb (Int.le_of_lt g) (g2_dvd_r a b)
theorem ediv_abs {a g : Int} (hg : 0 < g) : (a / g).natAbs ≤ a.natAbs := by
  have h1 := Int.mul_ediv_self_le (x := a) (k := g) (by omega)
  have h2 := Int.lt_mul_ediv_self_add (x := a) (k := g) hg
  generalize hq : a / g = q at *
  by_cases c : 0 ≤ q
  · have : 1 * q ≤ g * q := Int.mul_le_mul_of_nonneg_right (by omega) c
    omega
  · have h3 : g * q ≤ g * (-1) + (q + 1) := by
      have : g * (q + 1) ≤ 1 * (q + 1) := Int.mul_le_mul_of_nonpos_right (by omega) (by omega)
      rw [Int.mul_add, Int.mul_one, Int.one_mul] at this
      omega
    omega
theorem frN_abs {a b : Int} (hb : b ≠ 0) : (frN a b).natAbs ≤ a.natAbs := ediv_abs (g2_pos hb)
theorem frD_abs {a b : Int} (hb : b ≠ 0) : (frD a b).natAbs ≤ b.natAbs := ediv_abs (g2_pos hb)
theorem mul_pow {x y : Int} {a b : Nat} (ha : x.natAbs < 2 ^ a) (hb : y.natAbs < 2 ^ b) : (x * y).natAbs < 2 ^ (a + b) := by
  rw [Int.natAbs_mul, Nat.pow_add]
  exact Nat.mul_lt_mul'' ha hb
theorem add_pow {x y : Int} {a : Nat} (ha : x.natAbs < 2 ^ a) (hb : y.natAbs < 2 ^ a) : (x + y).natAbs < 2 ^ (a + 1) := by
  rw [Nat.pow_succ]
  omega
theorem sub_pow {x y : Int} {a : Nat} (ha : x.natAbs < 2 ^ a) (hb : y.natAbs < 2 ^ a) : (x - y).natAbs < 2 ^ (a + 1) := by
  rw [Nat.pow_succ]
  omega
theorem up_pow {x : Nat} {a b : Nat} (h : x < 2 ^ a) (l : a ≤ b) : x < 2 ^ b := Nat.lt_of_lt_of_le h (Nat.pow_le_pow_right (by decide) l)
/-- the sign of an int -/
def sg (a : Int) : Int := if 0 < a then 1 else if a < 0 then -1 else 0
theorem sg_frN {a b : Int} (hb : b ≠ 0) : sg (frN a b) = sg a := by
  have g := g2_pos (a := a) hb
  obtain ⟨c, hc⟩ := g2_dvd_l a b
  have e : frN a b = c := by
    unfold frN
    generalize g2 a b = k at *
    subst hc
    exact Int.mul_ediv_cancel_left _ (by omega)
  rw [e]
  generalize g2 a b = k at *
  subst hc
  unfold sg
  have p1 : 0 < k * c ↔ 0 < c := ⟨fun h => Int.pos_of_mul_pos_right h (by omega), fun h => Int.mul_pos g h⟩
  have p2 : k * c < 0 ↔ c < 0 := by
    constructor
    · intro h
      by_cases q : c < 0
      · exact q
      · have := Int.mul_nonneg (Int.le_of_lt g) (show 0 ≤ c by omega)
        omega
    · intro h
      exact Int.mul_neg_of_pos_of_neg g h
  simp only [p1, p2]
end Hw

/-! ### operations that the layer lacks -/
namespace HwG
open PySem PySem.Spec PyProof.Rows L2 RZ
theorem tuple_mul1 (l : Addr) (items : Array Value) (n : Nat) (dd : Option Addr) (sl : Array (Option Value)) (x : Int) (u : Tok) (c0 : (decide (x < -(2 ^ 63)) || decide (x ≥ 2 ^ 63)) = false) (c1 : (items.isEmpty || x == 1) = true) :
    Meets (Builtin.«tuple.__mul__» ⟨[.ref l, .int x u], []⟩) (fun _ R s => s.heap.get? l = some { cls := .type "tuple", dict := dd, data := .seq items n, slots := sl } ∧
      R (.ok (.ret (Value.ref l))) s) :=
  .of_wp fun prog w A R s h => by
    obtain ⟨hp, g, d, tk, os⟩ := s
    obtain ⟨hl, h⟩ := h
    have f1 := AutoSeq1.idx_int
    wp_walk using wpAny_loadPart' hl
    repeat (first
      | (refine wpAny_ite_false (decide_eq_false (by rw [c0]; exact Bool.false_ne_true)) ?_; wp_walk using wpAny_loadPart' hl)
      | (refine wpAny_ite_true (decide_eq_true c1) ?_; wp_walk using wpAny_loadPart' hl))
    exact ⟨_, rfl, h⟩
def rRepT1 (K : PySem.W.Frag) : R2 := fun x y H Q => ∃ l xs, x = .ref l ∧ y = .int 1 ∧ SqT K H l xs ∧ Q (.ref l) H
section
variable {X : Cx}
theorem op_repT1 : OpR X (binaryOp .Mult) (rRepT1 X.K) := by
  intro pins s σ H x y v u Q I rx ry h
  obtain ⟨l, xs, rfl, rfl, hT, q⟩ := h
  cases rx
  obtain ⟨t, rfl⟩ := ry
  obtain ⟨its, r, ⟨⟨cls, dd, data, sl⟩, ho, hc, n, hd⟩, hs⟩ := I.tuple hT
  simp only at hc hd
  subst hc hd
  have c0 : (decide ((1 : Int) < -(2 ^ 63)) || decide ((1 : Int) ≥ 2 ^ 63)) = false := by decide
  have c1 : (its.toArray.isEmpty || (1 : Int) == 1) = true := by
    rw [show ((1 : Int) == 1) = true by decide, Bool.or_true]
  exact wpAny_binaryOp_repeat_ref (T := "tuple") (U := "int") (by decide) ⟨_, ho, rfl⟩ (fun s' => typeIs_int s' 1 t) noFill_tuple_mul F.fills_int_mul F.slot_int_rmul repeat_tuple F.slot_int_index.lookup
    (call_meets F.slot_int_rmul (typeIs_int s 1 t) F.entry_int_rmul (F.args_int_rmul_2 _ _) (int_rmul_tuple 1 t l its.toArray n dd sl)
      ⟨ho, rfl, ⟨_, ho, rfl⟩, call_meets F.slot_tuple_mul ⟨_, ho, rfl⟩ F.entry_tuple_mul (F.args_tuple_mul_2 _ _) (tuple_mul1 l its.toArray n dd sl 1 t c0 c1) ⟨ho, .ref l, H, I, rfl, q⟩⟩)
def rRepA (K : PySem.W.Frag) : R2 := fun x y H Q => rRepT K x y H Q ∨ rRepT1 K x y H Q
/-- a tuple times 1 .. 1000 -/
theorem op_repA : OpR X (binaryOp .Mult) (rRepA X.K) := by
  intro pins s σ H x y v u Q I rx ry q
  rcases q with q | q
  · exact op_repT pins s σ H x y v u Q I rx ry q
  · exact op_repT1 pins s σ H x y v u Q I rx ry q
/-- // by a divisor of any sign -/
def CDivA (_ j : Int) : Prop := j ≠ 0 ∧ j.natAbs.log2 < 9000
theorem op_fdivA : OpR X (binaryOp .FloorDiv) (rI CDivA fun i j => .int (i.fdiv j)) := opI fun i j _ _ _ _ _ hc q => floordiv_int hc.1 q (.inl (PyProof.noPylong_of_log2 hc.2))
end
/-- zip of two tuples, walked -/
theorem walk_zipT {K : PySem.W.Frag} {a b : Addr} {xs ys : List V} {n : Nat} (h1 : xs.length = n) (h2 : ys.length = n) : Walk (ItzT K a b) n (fun H => SqT K H a xs ∧ SqT K H b ys) (YPair (fun i => xs[i]?) (fun i => ys[i]?)) :=
  ⟨fun i H hi hG => ⟨xs, ys, xs[i], ys[i], hG.1, hG.2, List.getElem?_eq_getElem (by omega), List.getElem?_eq_getElem (by omega)⟩, fun H hG => ⟨xs, ys, hG.1, hG.2, .inl (by omega)⟩,
    fun i H x H' hi hG y => by
      obtain ⟨T, u, v, e1, e2, e3, e4, e5⟩ := y
      exact ⟨T, u, v, e1, e2, e3, e4 _ hG.1, e5 _ hG.2⟩⟩
end HwG

namespace HwP
open PySem PySem.Spec PyProof.Rows L2 Hw
open C8 (pss_cut tCut)
open HwG RZ
def topS (i : Nat) : Stmt := PySem.Challenge.pw_hullwright_k04_vectors.main.body.getD i (.Pass ⟨0, 0, 0, 0⟩)
/-- the built-in names that the text leaves as they are, and gcd -/
structure Glb (mg : Str → Option Value) : Prop where
  m_len : mg "len" = none
  m_range : mg "range" = none
  m_int : mg "int" = none
  m_list : mg "list" = none
  m_tuple : mg "tuple" = none
  m_bool : mg "bool" = none
  m_isinstance : mg "isinstance" = none
  m_abs : mg "abs" = none
  m_sum : mg "sum" = none
  m_zip : mg "zip" = none
  m_str : mg "str" = none
  m_gcd : mg "gcd" = some (.builtin "math.gcd")
/-- what a body that calls a def wants of it -/
structure Call (P : Program) (w : World) (K : PySem.W.Frag) (mg : Str → Option Value) (base : Heap) (k : Nat) (nm : Str) (ps : List Str) (sp : Sp) where
  g : Addr
  gd : FuncData
  G : FnOk P w K mg base CX0 k g gd ps sp
  m : mg nm = some (.ref g)
  kp : PySem.W.keepIn K (.ref g) = true
  b : Binds K gd ps []
section
variable {P : Program} {w : World} {K : PySem.W.Frag} {mg : Str → Option Value} {base : Heap}

/-! ### the law's greatest common divisor -/
abbrev s__law_gcd : Stmt := topS 10
theorem sc__law_gcd : FnScope ["a", "b", "k", "hold"] ["a", "b"] (defScope s__law_gcd) := ⟨rfl, rfl, rfl, by decide +kernel, rfl, by decide +kernel, by decide +kernel⟩
def spGcd : Sp := fun vs H Q _ => ∃ a b : Int, vs = [.int a, .int b] ∧ a.natAbs < 2 ^ 299 ∧ b.natAbs < 2 ^ 299 ∧ Q (.int (g2 a b)) H
theorem abs_of (a : Int) : (if a < 0 then -a else a) = ((a.natAbs : Nat) : Int) := by
  split <;> omega
theorem ok_gcd {f : Addr} {fd : FuncData} {k : Nat} (F : Fun K "_law_gcd" "_law_gcd" s__law_gcd f fd) (Z : Glb mg) : FnOk P w K mg base CX0 (k + 1) f fd ["a", "b"] spGcd := by
  refine F.ok sc__law_gcd (fun vs H Q E h => ?_) (fun cdv A outer s H vs Q E hr h => ?_)
  · obtain ⟨a, b, rfl, _⟩ := h
    rfl
  · obtain ⟨a, b, rfl, ha, hb, q⟩ := h
    refine ⟨_, (pss_cons (ps_set (i := 0) sc__law_gcd.nd rfl (.inl rfl) (pe_callB call_abs (by rfl) Z.m_abs (by decide +kernel) (pa_cons (pv 0) pa_nil)))
      (pss_cons (ps_set (i := 1) sc__law_gcd.nd rfl (.inl rfl) (pe_callB call_abs (by rfl) Z.m_abs (by decide +kernel) (pa_cons (pv 1) pa_nil)))
      (pss_cons (ps_for PassesOwn.never rfl (pi_range1 rfl Z.m_range (pa_cons pe_int pa_nil)) (pg_name (i := 2) sc__law_gcd.nd rfl (.inl rfl)) (pss_cons (ps_if (pt_cmpR op_eq (pv 1) pe_int (nomark _)) (pss_one ps_break) pss_nil)
      (pss_cons (ps_set (i := 3) sc__law_gcd.nd rfl (.inl rfl) (pe_op op_modN (pe_callTy call_int1 (by rfl) Z.m_int (by decide +kernel) (pa_cons (pv 0) pa_nil)) (pv 1)))
      (pss_cons (ps_set (i := 0) sc__law_gcd.nd rfl (.inl rfl) (pv 1))
      (pss_one (ps_set (i := 1) sc__law_gcd.nd rfl (.inl rfl) (pv 3)))))))
      (pss_one (ps_ret (pv 0)))))), ?_⟩
    refine ⟨_, rfl, a, rfl, _, rfl, b, rfl, 600, rfl, by decide, by decide, ?_⟩
    rw [abs_of, abs_of]
    refine for_range (lo := 0) (n := 600) (fun i σ H' => H' = H ∧ ∃ (A B : Nat) (y2 y3 : Option V), σ = [some (.int A), some (.int B), y2, y3] ∧ Nat.gcd A B = Nat.gcd a.natAbs b.natAbs ∧ Fit i A B) ⟨rfl, _, _, _, _, rfl, rfl, fit0 ha hb⟩ (fun i σ H' hi hP => ?_) (fun σ H' hP => ?_)
    · obtain ⟨rfl, A', B', y2, y3, rfl, hg, hf⟩ := hP
      refine ⟨_, rfl, rfl, _, rfl, ite2 (fun e => ?_) (fun e => ?_)⟩
      · have e0 : B' = 0 := by
          have := V.int.inj (of_decide_eq_true e)
          omega
        subst e0
        refine ⟨_, rfl, ?_⟩
        rw [Nat.gcd_zero_right] at hg
        rw [hg]
        exact q
      · have e0 : B' ≠ 0 := fun z => e (by subst z; exact decide_eq_true rfl)
        refine ⟨_, rfl, .inl ⟨_, rfl, _, rfl, _, _, rfl, rfl, by omega, ?_⟩⟩
        have em : ((A' : Int).fmod (B' : Int)) = ((A' % B' : Nat) : Int) := by
          rw [Int.fmod_eq_emod_of_nonneg _ (by omega)]
          rfl
        refine ⟨_, rfl, _, rfl, rfl, B', A' % B', some (.int (0 + (i : Int))), some (.int ((A' % B' : Nat) : Int)), ?_, ?_, fit_step hf e0⟩
        · rw [← em]
          rfl
        · rw [gcd_turn, hg]
    · obtain ⟨rfl, A', B', y2, y3, rfl, hg, hf⟩ := hP
      have e0 := fit_end hf
      subst e0
      rw [Nat.gcd_zero_right] at hg
      refine ⟨_, rfl, ?_⟩
      rw [hg]
      exact q

/-! ### the law's draws: what they leave is told by bounds alone -/
abbrev s__law_spread : Stmt := topS 7
theorem sc__law_spread : FnScope ["cell", "mixed", "total", "k"] ["cell"] (defScope s__law_spread) := ⟨rfl, rfl, rfl, by decide +kernel, rfl, by decide +kernel, by decide +kernel⟩
def spSpread : Sp := fun vs H Q _ => ∃ c : Int, vs = [.int c] ∧ ∀ t : Int, Q (.int t) H
theorem ok_spread {f : Addr} {fd : FuncData} {k : Nat} (F : Fun K "_law_spread" "_law_spread" s__law_spread f fd) (Z : Glb mg) : FnOk P w K mg base CX0 (k + 1) f fd ["cell"] spSpread := by
  refine F.ok sc__law_spread (fun vs H Q E h => ?_) (fun cdv A outer s H vs Q E hr h => ?_)
  · obtain ⟨c, rfl, _⟩ := h
    rfl
  · obtain ⟨c, rfl, q⟩ := h
    refine ⟨_, (pss_cons (ps_set (i := 1) sc__law_spread.nd rfl (.inl rfl) (pe_op op_modN (pe_callTy call_int1 (by rfl) Z.m_int (by decide +kernel) (pa_cons (pv 0) pa_nil)) pe_int))
      (pss_cons (ps_set (i := 2) sc__law_spread.nd rfl (.inl rfl) pe_int)
      (pss_cons (ps_for PassesOwn.never rfl (pi_range1 rfl Z.m_range (pa_cons pe_int pa_nil)) (pg_name (i := 3) sc__law_spread.nd rfl (.inl rfl)) (pss_cons (ps_set (i := 1) sc__law_spread.nd rfl (.inl rfl) (pe_op op_modN (pe_callTy call_int1 (by rfl) Z.m_int (by decide +kernel) (pa_cons (pe_op op_add (pe_op op_add (pe_op op_mul (pv 1) pe_int) pe_int) (pv 3)) pa_nil)) pe_int))
      (pss_one (ps_set (i := 2) sc__law_spread.nd rfl (.inl rfl) (pe_op op_add (pe_op op_mul (pv 2) pe_int) (pv 1))))))
      (pss_one (ps_ret (pv 2)))))), ?_⟩
    refine ⟨_, rfl, .inl ⟨_, rfl, _, _, rfl, rfl, (by show (2147483647 : Int) ≠ 0; decide), 4, rfl, by decide, by decide, ?_⟩⟩
    refine for_range (lo := 0) (n := 4) (fun i σ H' => H' = H ∧ ∃ (m t : Int) (y3 : Option V), σ = [some (.int c), some (.int m), some (.int t), y3]) ⟨rfl, _, _, _, rfl⟩ (fun i σ H' hi hP => ?_) (fun σ H' hP => ?_)
    · obtain ⟨rfl, m, t, y3, rfl⟩ := hP
      refine ⟨_, rfl, _, _, rfl, rfl, .inr ⟨by decide, by decide⟩, _, _, rfl, rfl, _, rfl, _, _, rfl, rfl, .inl ⟨_, rfl, _, _, rfl, rfl, (by show (2147483647 : Int) ≠ 0; decide), ?_⟩⟩
      exact ⟨_, rfl, _, _, rfl, rfl, .inr ⟨by decide, by decide⟩, _, rfl, _, _, rfl, rfl, rfl, _, _, _, rfl⟩
    · obtain ⟨rfl, m, t, y3, rfl⟩ := hP
      exact ⟨_, rfl, q t⟩
/-- a pool: its script's ints, then four ints -/
def Pl (H : Hp) (p : Addr) : Prop := ∃ (q : Addr) (ns : List Int) (a : Nat) (b c d : Int), H p = some (.lst [.ref q, .int a, .int b, .int c, .int d]) ∧ H q = some (.lst (ns.map V.int)) ∧ q ≠ p
/-- the head of the list at p -/
def Hd (H : Hp) (p q : Addr) : Prop := ∃ l, H p = some (.lst (.ref q :: l))
/-- all but p is as it was, and p has its head -/
def But (p : Addr) (H H' : Hp) : Prop := (∀ x, x ≠ p → H' x = H x) ∧ ∀ q, Hd H p q → Hd H' p q
theorem But.refl (p : Addr) (H : Hp) : But p H H := ⟨fun _ _ => rfl, fun _ h => h⟩
theorem But.trans {p : Addr} {H H1 H2 : Hp} (a : But p H H1) (b : But p H1 H2) : But p H H2 := ⟨fun x h => (b.1 x h).trans (a.1 x h), fun q h => b.2 q (a.2 q h)⟩
theorem But.upd {p q : Addr} {H : Hp} {l l' : List V} (hp : H p = some (.lst (.ref q :: l))) : But p H (upd H p (.lst (.ref q :: l'))) :=
  ⟨fun _ h => upd_ne h, fun q' h => by
    obtain ⟨l2, e⟩ := h
    have := hp.symm.trans e
    injection this with this
    injection this with this
    injection this with this
    injection this with this
    subst this
    exact ⟨l', upd_same⟩⟩
theorem pl_upd {H : Hp} {p q : Addr} {ns : List Int} (a : Nat) (b c d : Int) (hq : H q = some (.lst (ns.map V.int))) (ne : q ≠ p) : Pl (upd H p (.lst [.ref q, .int a, .int b, .int c, .int d])) p :=
  ⟨q, ns, a, b, c, d, upd_same, by rw [upd_ne ne]; exact hq, ne⟩
abbrev s__law_draw : Stmt := topS 8
theorem sc__law_draw : FnScope ["pool", "many", "cell", "mixed", "value"] ["pool", "many"] (defScope s__law_draw) := ⟨rfl, rfl, rfl, by decide +kernel, rfl, by decide +kernel, by decide +kernel⟩
def spDraw : Sp := fun vs H Q _ => ∃ (p : Addr) (m : Int), vs = [.ref p, .int m] ∧ 0 < m ∧ m.natAbs < 2 ^ 8000 ∧ Pl H p ∧ ∀ (v : Int) (H' : Hp), 0 ≤ v → v < m → Pl H' p → But p H H' → Q (.int v) H'
theorem ok_draw {f : Addr} {fd : FuncData} {k : Nat} (F : Fun K "_law_draw" "_law_draw" s__law_draw f fd) (Z : Glb mg)
    (C_law_spread : Call P w K mg base k "_law_spread" ["cell"] spSpread) : FnOk P w K mg base CX0 (k + 1) f fd ["pool", "many"] spDraw := by
  refine F.ok sc__law_draw (fun vs H Q E h => ?_) (fun cdv A outer s H vs Q E hr h => ?_)
  · obtain ⟨p, m, rfl, _⟩ := h
    rfl
  · obtain ⟨p, m, rfl, hm, hb, hP, q⟩ := h
    refine ⟨_, (pss_cut (ps_if (PW.pt (pw_and (pt_cmpR op_le (pe_ix (r := rIxL K) ix_list (pv 0) pe_int (fun _ _ => rfl)) pe_int (nomark _)) (pw_and1 (pt_cmpR op_lt (pe_ix (r := rIxL K) ix_list (pv 0) pe_int (fun _ _ => rfl)) (pe_callB call_len_seq (by rfl) Z.m_len PySem.boot_len (pa_cons (pe_ix (r := rIxL K) ix_list (pv 0) pe_int (fun _ _ => rfl)) pa_nil)) (nomark _))))) (pss_cons (ps_set (i := 2) sc__law_draw.nd rfl (.inl rfl) (pe_ix (r := rIxL K) ix_list (pe_ix (r := rIxL K) ix_list (pv 0) pe_int (fun _ _ => rfl)) (pe_ix (r := rIxL K) ix_list (pv 0) pe_int (fun _ _ => rfl)) (fun _ _ => rfl)))
      (pss_cons (ps_asg (pe_op op_add (pe_ix (r := rIxL K) ix_list (pv 0) pe_int (fun _ _ => rfl)) pe_int) (pg_sub (pv 0) pe_int set_list))
      (pss_cons (ps_asg (pv 2) (pg_sub (pv 0) pe_int set_list))
      (pss_one (ps_if (pt_cmpR op_lt (pv 2) pe_int (nomark _)) (pss_one (ps_asg (pe_call C_law_spread.G hr (by rfl) C_law_spread.m C_law_spread.kp C_law_spread.b .nil pass0 (pa_cons (pv 2) pa_nil)) (pg_sub (pv 0) pe_int set_list))) pss_nil))))) pss_nil)
      (pss_cons (ps_asg (pe_op op_add (pe_ix (r := rIxL K) ix_list (pv 0) pe_int (fun _ _ => rfl)) pe_int) (pg_sub (pv 0) pe_int set_list))
      (pss_cons (ps_if (pt_cmpR op_le (pe_ix (r := rIxL K) ix_list (pv 0) pe_int (fun _ _ => rfl)) pe_int (nomark _)) (pss_cons (ps_set (i := 3) sc__law_draw.nd rfl (.inl rfl) (pe_op op_modN (pe_callTy call_int1 (by rfl) Z.m_int (by decide +kernel) (pa_cons (pe_op op_add (pe_op op_add (pe_op op_mul (pe_ix (r := rIxL K) ix_list (pv 0) pe_int (fun _ _ => rfl)) pe_int) (pe_op op_mul (pe_ix (r := rIxL K) ix_list (pv 0) pe_int (fun _ _ => rfl)) pe_int)) pe_int) pa_nil)) pe_int))
      (pss_cons (ps_set (i := 3) sc__law_draw.nd rfl (.inl rfl) (pe_op op_modN (pe_callTy call_int1 (by rfl) Z.m_int (by decide +kernel) (pa_cons (pe_op op_add (pe_op op_mul (pv 3) pe_int) (pe_ix (r := rIxL K) ix_list (pv 0) pe_int (fun _ _ => rfl))) pa_nil)) pe_int))
      (pss_one (ps_ret (pe_op op_modN (pe_op op_fdivN (pv 3) pe_int) (pv 1)))))) pss_nil)
      (pss_cons (ps_set (i := 4) sc__law_draw.nd rfl (.inl rfl) (pe_op op_modN (pe_callTy call_int1 (by rfl) Z.m_int (by decide +kernel) (pa_cons (pe_ix (r := rIxL K) ix_list (pv 0) pe_int (fun _ _ => rfl)) pa_nil)) (pv 1)))
      (pss_cons (ps_asg (pe_op op_fdivW (pe_ix (r := rIxL K) ix_list (pv 0) pe_int (fun _ _ => rfl)) (pv 1)) (pg_sub (pv 0) pe_int set_list))
      (pss_one (ps_ret (pv 4)))))))), ?_⟩
    refine ⟨fun σ H' => ∃ y2 : Option V, σ = [some (.ref p), some (.int m), y2, none, none] ∧ Pl H' p ∧ But p H H', ?_, ?_⟩
    · obtain ⟨q', ns, a, b, c, d, hp, hq, ne⟩ := hP
      refine ⟨_, rfl, _, _, _, _, rfl, rfl, SqL.of hp, atI_nat (j := 2) rfl, _, _, rfl, rfl, _, rfl, ite2 (fun e1 => ?_) (fun e1 => ?_)⟩
      · refine ⟨_, rfl, _, _, _, _, rfl, rfl, SqL.of hp, atI_nat (j := 1) rfl, _, rfl, _, _, _, _, rfl, rfl, SqL.of hp, atI_nat (j := 0) rfl, _, _, rfl, .inl (SqL.of hq), _, _, rfl, rfl, _, rfl, ite2 (fun e2 => ?_) (fun e2 => ?_)⟩
        · have e3 : a < ns.length := by
            have := of_decide_eq_true e2
            rw [List.length_map] at this
            omega
          have g1 : (ns.map V.int)[a]? = some (.int ns[a]) := by
            rw [List.getElem?_map, List.getElem?_eq_getElem e3]
            rfl
          -- cell = pool[0][pool[1]]
          refine ⟨_, rfl, _, _, _, _, rfl, rfl, SqL.of hp, atI_nat (j := 0) rfl, _, rfl, _, _, _, _, rfl, rfl, SqL.of hp, atI_nat (j := 1) rfl, _, _, _, _, rfl, rfl, SqL.of hq, atI_nat g1, ?_⟩
          -- pool[1] = pool[1] + 1
          refine ⟨_, rfl, _, _, _, _, rfl, rfl, SqL.of hp, atI_nat (j := 1) rfl, _, _, rfl, rfl, _, rfl, _, _, _, 1, rfl, rfl, hp, rfl, ?_⟩
          -- pool[2] = cell
          refine ⟨_, rfl, _, rfl, _, _, _, 2, rfl, rfl, upd_same, rfl, ?_⟩
          rw [upd_upd]
          refine ⟨_, rfl, _, _, rfl, rfl, _, rfl, ite2 (fun e4 => ?_) (fun e4 => ?_)⟩
          · refine ⟨_, rfl, _, rfl, fun t => ⟨_, rfl, _, _, _, 2, rfl, rfl, upd_same, rfl, ?_⟩⟩
            rw [upd_upd]
            exact ⟨some (.int ns[a]), rfl, pl_upd (a + 1) t c d hq ne, (But.upd hp)⟩
          · exact ⟨some (.int ns[a]), rfl, pl_upd (a + 1) ns[a] c d hq ne, (But.upd hp)⟩
        · exact ⟨none, rfl, ⟨q', ns, a, b, c, d, hp, hq, ne⟩, But.refl _ _⟩
      · exact iteF ⟨none, rfl, ⟨q', ns, a, b, c, d, hp, hq, ne⟩, But.refl _ _⟩
    · intro σ H1 hW
      obtain ⟨y2, rfl, ⟨q', ns, a, b, c, d, hp, hq, ne⟩, hB⟩ := hW
      -- pool[3] = pool[3] + 1
      refine ⟨_, rfl, _, _, _, _, rfl, rfl, SqL.of hp, atI_nat (j := 3) rfl, _, _, rfl, rfl, _, rfl, _, _, _, 3, rfl, rfl, hp, rfl, ?_⟩
      have h0 : (upd H1 p (.lst [.ref q', .int a, .int b, .int (c + 1), .int d])) p = some (.lst [.ref q', .int a, .int b, .int (c + 1), .int d]) := upd_same
      refine ⟨_, rfl, _, _, _, _, rfl, rfl, SqL.of h0, atI_nat (j := 2) rfl, _, _, rfl, rfl, _, rfl, ite2 (fun e1 => ?_) (fun e1 => ?_)⟩
      · refine ⟨_, rfl, _, _, _, _, rfl, rfl, SqL.of h0, atI_nat (j := 4) rfl, _, _, rfl, rfl, .inr ⟨by decide, by decide⟩, _, rfl, _, _, _, _, rfl, rfl, SqL.of h0, atI_nat (j := 3) rfl, _, _, rfl, rfl, .inr ⟨by decide, by decide⟩, _, _, rfl, rfl, _, _, rfl, rfl, .inl ⟨_, rfl, _, _, rfl, rfl, (by show (2147483647 : Int) ≠ 0; decide), ?_⟩⟩
        refine ⟨_, rfl, _, _, rfl, rfl, .inr ⟨by decide, by decide⟩, _, rfl, _, _, _, _, rfl, rfl, SqL.of h0, atI_nat (j := 3) rfl, _, _, rfl, rfl, .inl ⟨_, rfl, _, _, rfl, rfl, (by show (2147483629 : Int) ≠ 0; decide), ?_⟩⟩
        refine ⟨_, rfl, _, _, rfl, rfl, ⟨by decide, by decide⟩, _, rfl, _, _, rfl, rfl, (by show m ≠ 0; omega), ?_⟩
        exact q _ _ (Int.fmod_nonneg_of_pos _ hm) (Int.fmod_lt_of_pos _ hm) (pl_upd a b (c + 1) d hq ne) (hB.trans (But.upd hp))
      · refine ⟨_, rfl, _, _, _, _, rfl, rfl, SqL.of h0, atI_nat (j := 2) rfl, .inl ⟨_, rfl, _, rfl, _, _, rfl, rfl, (by show m ≠ 0; omega), ?_⟩⟩
        refine ⟨_, rfl, _, _, _, _, rfl, rfl, SqL.of h0, atI_nat (j := 2) rfl, _, rfl, _, _, rfl, rfl, wide_div hm hb (by decide) (by decide), _, rfl, _, _, _, 2, rfl, rfl, h0, rfl, ?_⟩
        rw [upd_upd]
        refine ⟨_, rfl, ?_⟩
        exact q _ _ (Int.fmod_nonneg_of_pos _ hm) (Int.fmod_lt_of_pos _ hm) (pl_upd a _ (c + 1) d hq ne) (hB.trans (But.upd hp))

/-! ### the law's pool -/
abbrev s__law_pool : Stmt := topS 6
theorem sc__law_pool : FnScope ["script", "salt", "cell"] ["script"] (defScope s__law_pool) := ⟨rfl, rfl, rfl, by decide +kernel, rfl, by decide +kernel, by decide +kernel⟩
theorem same_upd {H : Hp} {p : Addr} {o : HO} (h : H p = none) : Same H (upd H p o) := fun b x e => by
  rw [upd_ne (ne_of_none e h)]
  exact e
theorem cut_int {ns : List Int} {lo hi : Option Int} {i : Nat} {x : V} (h : (cutV (ns.map V.int) lo hi)[i]? = some x) : ∃ n : Int, x = .int n := by
  have m := List.mem_of_getElem? h
  unfold cutV at m
  have m2 := List.mem_of_mem_drop (List.mem_of_mem_take m)
  obtain ⟨n, _, e⟩ := List.mem_map.mp m2
  exact ⟨n, e.symm⟩
def spPool (K : PySem.W.Frag) : Sp := fun vs H Q _ => ∃ (a : Addr) (ns : List Int), vs = [.ref a] ∧ SqL K H a (ns.map V.int) ∧ ∀ (H' : Hp) (p : Addr), Same H H' → H p = none → Pl H' p → Q (.ref p) H'
theorem ok_pool {f : Addr} {fd : FuncData} {k : Nat} (F : Fun K "_law_pool" "_law_pool" s__law_pool f fd) (Z : Glb mg) : FnOk P w K mg base CX0 (k + 1) f fd ["script"] (spPool K) := by
  refine F.ok sc__law_pool (fun vs H Q E h => ?_) (fun cdv A outer s H vs Q E hr h => ?_)
  · obtain ⟨a, ns, rfl, _⟩ := h
    rfl
  · obtain ⟨a, ns, rfl, hS, q⟩ := h
    refine ⟨_, (pss_cons (ps_set (i := 1) sc__law_pool.nd rfl (.inl rfl) pe_int)
      (pss_cons (ps_for PassesOwn.never rfl (pi_list (pe_slice sl_list (pv 0) po_none (po_some pe_int))) (pg_name (i := 2) sc__law_pool.nd rfl (.inl rfl)) (pss_one (ps_set (i := 1) sc__law_pool.nd rfl (.inl rfl) (pe_op op_modN (pe_callTy call_int1 (by rfl) Z.m_int (by decide +kernel) (pa_cons (pe_op op_add (pe_op op_mul (pv 1) pe_int) (pv 2)) pa_nil)) pe_int))))
      (pss_one (ps_ret (pe_lst (pa_cons (pe_callTy call_list_of (by rfl) Z.m_list (by decide +kernel) (pa_cons (pv 0) pa_nil)) (pa_cons pe_int (pa_cons pe_int (pa_cons pe_int (pa_cons (pv 1) pa_nil)))))))))), ?_⟩
    refine ⟨_, rfl, _, rfl, a, ns.map V.int, rfl, hS, fun c nc => ?_⟩
    have s1 : Same H (upd H c (.lst (cutV (ns.map V.int) none (some 63)))) := same_upd nc
    refine ⟨c, rfl, ⟨_, SqL.of upd_same⟩, ?_⟩
    refine for_list (xs := cutV (ns.map V.int) none (some 63)) (fun i σ H' => H' = upd H c (.lst (cutV (ns.map V.int) none (some 63))) ∧ ∃ (m : Int) (y2 : Option V), σ = [some (.ref a), some (.int m), y2]) ⟨rfl, _, _, rfl⟩ (fun i σ H' _ hP => by obtain ⟨rfl, _⟩ := hP; exact SqL.of upd_same) (fun i x σ H' hx hP => ?_) (fun σ H' hP => ?_)
    · obtain ⟨rfl, m, y2, rfl⟩ := hP
      obtain ⟨n, rfl⟩ := cut_int hx
      exact ⟨_, rfl, _, _, rfl, rfl, .inr ⟨by decide, by decide⟩, _, rfl, _, _, rfl, rfl, .inl ⟨_, rfl, _, _, rfl, rfl, (by show (1000003 : Int) ≠ 0; decide), rfl, _, _, rfl⟩⟩
    · obtain ⟨rfl, m, y2, rfl⟩ := hP
      refine ⟨_, rfl, a, ns.map V.int, rfl, .inl (s1.seq hS), fun l nl => ⟨_, rfl, ?_, fun p np => ?_⟩⟩
      · exact Nat.le_of_lt (small1000 (show 5 ≤ 1000 by decide))
      · have s2 : Same (upd H c (.lst (cutV (ns.map V.int) none (some 63)))) (upd (upd H c (.lst (cutV (ns.map V.int) none (some 63)))) l (.lst (ns.map V.int))) := same_upd nl
        have lp : l ≠ p := ne_of_none upd_same np
        refine q _ _ ((s1.trans s2).trans (same_upd np)) ((s1.trans s2).free np) ⟨l, ns, 0, 0, 0, m, upd_same, ?_, lp⟩
        rw [upd_ne lp]
        exact upd_same

/-! ### the law's comparison of two answers: alike data is told to be the same -/
inductive Alike (H : Hp) : Nat → V → V → Prop where
  | int (n : Nat) (i : Int) : Alike H n (.int i) (.int i)
  | bl (n : Nat) (b : Bool) : Alike H n (.bl b) (.bl b)
  | non (n : Nat) : Alike H n .non .non
  | tup {n : Nat} {a b : Addr} {xs ys : List V} (ha : H a = some (.tup xs)) (hb : H b = some (.tup ys)) (hl : xs.length = ys.length) (hm : xs.length ≤ 1000000) (h : ∀ (i : Nat) (x y : V), xs[i]? = some x → ys[i]? = some y → Alike H n x y) : Alike H (n + 1) (.ref a) (.ref b)
  | lst {n : Nat} {a b : Addr} {xs ys : List V} (ha : H a = some (.lst xs)) (hb : H b = some (.lst ys)) (hl : xs.length = ys.length) (hm : xs.length ≤ 1000000) (h : ∀ (i : Nat) (x y : V), xs[i]? = some x → ys[i]? = some y → Alike H n x y) : Alike H (n + 1) (.ref a) (.ref b)
abbrev s__law_same : Stmt := topS 9
theorem sc__law_same : FnScope ["actual", "due", "k"] ["actual", "due"] (defScope s__law_same) := ⟨rfl, rfl, rfl, by decide +kernel, rfl, by decide +kernel, by decide +kernel⟩
def spSame (n : Nat) : Sp := fun vs H Q _ => ∃ x y : V, vs = [x, y] ∧ Alike H n x y ∧ Q (.bl true) H
structure SameG (mg : Str → Option Value) : Prop where
  mIs : mg "isinstance" = none
  mT : mg "tuple" = none
  mLi : mg "list" = none
  mL : mg "len" = none
  mR : mg "range" = none
  mB : mg "bool" = none
  mI : mg "int" = none
theorem ok_same {f : Addr} {fd : FuncData} {k n : Nat} (F : Fun K "_law_same" "_law_same" s__law_same f fd) (Z : Glb mg)
    (G : ∀ m, n = m + 1 → FnOk P w K mg base CX0 k f fd ["actual", "due"] (spSame m)) (gS : mg "_law_same" = some (.ref f)) (bS : Binds K fd ["actual", "due"] []) : FnOk P w K mg base CX0 (k + 1) f fd ["actual", "due"] (spSame n) := by
  refine F.ok sc__law_same (fun vs H Q E h => ?_) (fun cdv A outer s H vs Q E hr h => ?_)
  · obtain ⟨x, y, rfl, _⟩ := h
    rfl
  · obtain ⟨x, y, rfl, hA, q⟩ := h
    have nd := sc__law_same.nd
    cases hA with
    | int n i =>
      refine ⟨_, pss_cons (ps_if (PW.pt (pw_or (pt_val (pe_callB call_isi (by rfl) Z.m_isinstance (by decide +kernel) (pa_cons (pv 1) (pa_cons (pe_bltn (u := .type "tuple") (v := .ty "tuple") (by rfl) Z.m_tuple (by decide +kernel) rfl) pa_nil)))) (pw_or1 (pt_val (pe_callB call_isi (by rfl) Z.m_isinstance (by decide +kernel) (pa_cons (pv 1) (pa_cons (pe_bltn (u := .type "list") (v := .ty "list") (by rfl) Z.m_list (by decide +kernel) rfl) pa_nil))))))) (pss_cons ps_never (pss_cons ps_never (pss_cons ps_never (pss_one ps_never)))) pss_nil)
        (pss_cons (ps_if (pt_cmp (pc_isN (pv 1))) (pss_one ps_never) pss_nil)
        (pss_cons (ps_if (pt_val (pe_callB call_isi (by rfl) Z.m_isinstance (by decide +kernel) (pa_cons (pv 1) (pa_cons (pe_bltn (u := .type "bool") (v := .ty "bool") (by rfl) Z.m_bool (by decide +kernel) rfl) pa_nil)))) (pss_one ps_never) pss_nil)
        (pss_cons (ps_if (pt_val (pe_callB call_isi (by rfl) Z.m_isinstance (by decide +kernel) (pa_cons (pv 1) (pa_cons (pe_bltn (u := .type "int") (v := .ty "int") (by rfl) Z.m_int (by decide +kernel) rfl) pa_nil))))
          (pss_one (ps_ret (pe_and (pe_callB call_isi (by rfl) Z.m_isinstance (by decide +kernel) (pa_cons (pv 0) (pa_cons (pe_bltn (u := .type "int") (v := .ty "int") (by rfl) Z.m_int (by decide +kernel) rfl) pa_nil)))
            (pe_and (pe_not (pe_callB call_isi (by rfl) Z.m_isinstance (by decide +kernel) (pa_cons (pv 0) (pa_cons (pe_bltn (u := .type "bool") (v := .ty "bool") (by rfl) Z.m_bool (by decide +kernel) rfl) pa_nil))))
            (pe_one (pe_cmpR op_eq (pv 0) (pv 1) (nomark _))))))) pss_nil)
        (pss_one ps_never)))), ?_⟩
      have ty : TyX K H (.int i) (.type "int") := .base (.int i)
      refine ⟨_, rfl, _, _, _, _, _, rfl, ClsV.ty _, ty, kit_ty (by decide +kernel), false, rfl, iteF ⟨_, rfl, _, _, _, _, _, rfl, ClsV.ty _, ty, kit_ty (by decide +kernel), false, rfl, iteF ?_⟩⟩
      refine ⟨_, rfl, false, rfl, iteF ?_⟩
      refine ⟨_, rfl, _, _, _, _, _, rfl, ClsV.ty _, ty, kit_ty (by decide +kernel), false, rfl, iteF ?_⟩
      refine ⟨_, rfl, _, _, _, _, _, rfl, ClsV.ty _, ty, kit_ty (by decide +kernel), true, rfl, iteT ?_⟩
      refine ⟨_, rfl, _, _, _, _, _, rfl, ClsV.ty _, ty, kit_ty (by decide +kernel), true, rfl, iteT ?_⟩
      refine ⟨_, rfl, _, _, _, _, _, rfl, ClsV.ty _, ty, kit_ty (b := "bool") (r := false) (by decide +kernel), false, rfl, true, rfl, iteT ?_⟩
      refine ⟨_, rfl, _, rfl, rfl, ?_⟩
      rw [decide_eq_true rfl]
      exact q
    | bl n b =>
      refine ⟨_, pss_cons (ps_if (PW.pt (pw_or (pt_val (pe_callB call_isi (by rfl) Z.m_isinstance (by decide +kernel) (pa_cons (pv 1) (pa_cons (pe_bltn (u := .type "tuple") (v := .ty "tuple") (by rfl) Z.m_tuple (by decide +kernel) rfl) pa_nil)))) (pw_or1 (pt_val (pe_callB call_isi (by rfl) Z.m_isinstance (by decide +kernel) (pa_cons (pv 1) (pa_cons (pe_bltn (u := .type "list") (v := .ty "list") (by rfl) Z.m_list (by decide +kernel) rfl) pa_nil))))))) (pss_cons ps_never (pss_cons ps_never (pss_cons ps_never (pss_one ps_never)))) pss_nil)
        (pss_cons (ps_if (pt_cmp (pc_isN (pv 1))) (pss_one ps_never) pss_nil)
        (pss_cons (ps_if (pt_val (pe_callB call_isi (by rfl) Z.m_isinstance (by decide +kernel) (pa_cons (pv 1) (pa_cons (pe_bltn (u := .type "bool") (v := .ty "bool") (by rfl) Z.m_bool (by decide +kernel) rfl) pa_nil)))) (pss_one (ps_ret (pe_and (pe_callB call_isi (by rfl) Z.m_isinstance (by decide +kernel) (pa_cons (pv 0) (pa_cons (pe_bltn (u := .type "bool") (v := .ty "bool") (by rfl) Z.m_bool (by decide +kernel) rfl) pa_nil))) (pe_one (pe_cmpR op_eq (pv 0) (pv 1) (nomark _)))))) pss_nil)
        (pss_cons ps_never (pss_one ps_never)))), ?_⟩
      have ty : TyX K H (.bl b) (.type "bool") := .base (.bl b)
      refine ⟨_, rfl, _, _, _, _, _, rfl, ClsV.ty _, ty, kit_ty (by decide +kernel), false, rfl, iteF ⟨_, rfl, _, _, _, _, _, rfl, ClsV.ty _, ty, kit_ty (by decide +kernel), false, rfl, iteF ?_⟩⟩
      refine ⟨_, rfl, false, rfl, iteF ?_⟩
      refine ⟨_, rfl, _, _, _, _, _, rfl, ClsV.ty _, ty, kit_ty (by decide +kernel), true, rfl, iteT ?_⟩
      refine ⟨_, rfl, _, _, _, _, _, rfl, ClsV.ty _, ty, kit_ty (by decide +kernel), true, rfl, iteT ?_⟩
      refine ⟨_, rfl, _, rfl, rfl, ?_⟩
      rw [decide_eq_true rfl]
      exact q
    | non n =>
      refine ⟨_, pss_cons (ps_if (PW.pt (pw_or (pt_val (pe_callB call_isi (by rfl) Z.m_isinstance (by decide +kernel) (pa_cons (pv 1) (pa_cons (pe_bltn (u := .type "tuple") (v := .ty "tuple") (by rfl) Z.m_tuple (by decide +kernel) rfl) pa_nil)))) (pw_or1 (pt_val (pe_callB call_isi (by rfl) Z.m_isinstance (by decide +kernel) (pa_cons (pv 1) (pa_cons (pe_bltn (u := .type "list") (v := .ty "list") (by rfl) Z.m_list (by decide +kernel) rfl) pa_nil))))))) (pss_cons ps_never (pss_cons ps_never (pss_cons ps_never (pss_one ps_never)))) pss_nil)
        (pss_cons (ps_if (pt_cmp (pc_isN (pv 1))) (pss_one (ps_ret (pe_cmp (pc_isN (pv 0))))) pss_nil)
        (pss_cons ps_never (pss_cons ps_never (pss_one ps_never)))), ?_⟩
      have ty : TyX K H .non (.type "NoneType") := .base .non
      refine ⟨_, rfl, _, _, _, _, _, rfl, ClsV.ty _, ty, kit_ty (by decide +kernel), false, rfl, iteF ⟨_, rfl, _, _, _, _, _, rfl, ClsV.ty _, ty, kit_ty (by decide +kernel), false, rfl, iteF ?_⟩⟩
      refine ⟨_, rfl, true, rfl, iteT ?_⟩
      exact ⟨_, rfl, q⟩
    | @tup n a b xs ys ha hb hl hm hh =>
      refine ⟨_, pss_cons (ps_if (PW.pt (pw_or (pt_val (pe_callB call_isi (by rfl) Z.m_isinstance (by decide +kernel) (pa_cons (pv 1) (pa_cons (pe_bltn (u := .type "tuple") (v := .ty "tuple") (by rfl) Z.m_tuple (by decide +kernel) rfl) pa_nil)))) (pw_or1 (pt_val (pe_callB call_isi (by rfl) Z.m_isinstance (by decide +kernel) (pa_cons (pv 1) (pa_cons (pe_bltn (u := .type "list") (v := .ty "list") (by rfl) Z.m_list (by decide +kernel) rfl) pa_nil)))))))
        (pss_cons (ps_if (PW.pt (pw_or (pt_cmpR op_ne (pe_callB call_isi (by rfl) Z.m_isinstance (by decide +kernel) (pa_cons (pv 1) (pa_cons (pe_bltn (u := .type "tuple") (v := .ty "tuple") (by rfl) Z.m_tuple (by decide +kernel) rfl) pa_nil))) (pe_callB call_isi (by rfl) Z.m_isinstance (by decide +kernel) (pa_cons (pv 0) (pa_cons (pe_bltn (u := .type "tuple") (v := .ty "tuple") (by rfl) Z.m_tuple (by decide +kernel) rfl) pa_nil))) (nomark _)) (pw_or1 (pt_cmpR op_ne (pe_callB call_isi (by rfl) Z.m_isinstance (by decide +kernel) (pa_cons (pv 1) (pa_cons (pe_bltn (u := .type "list") (v := .ty "list") (by rfl) Z.m_list (by decide +kernel) rfl) pa_nil))) (pe_callB call_isi (by rfl) Z.m_isinstance (by decide +kernel) (pa_cons (pv 0) (pa_cons (pe_bltn (u := .type "list") (v := .ty "list") (by rfl) Z.m_list (by decide +kernel) rfl) pa_nil))) (nomark _))))) (pss_one ps_never) pss_nil)
          (pss_cons (ps_if (pt_cmpR op_ne (pe_callB call_len_seq (by rfl) Z.m_len PySem.boot_len (pa_cons (pv 0) pa_nil)) (pe_callB call_len_seq (by rfl) Z.m_len PySem.boot_len (pa_cons (pv 1) pa_nil)) (nomark _)) (pss_one ps_never) pss_nil)
          (pss_cons (ps_for PassesOwn.never rfl (pi_range1 rfl Z.m_range (pa_cons (pe_callB call_len_seq (by rfl) Z.m_len PySem.boot_len (pa_cons (pv 1) pa_nil)) pa_nil)) (pg_name (i := 2) nd rfl (.inl rfl))
            (pss_one (ps_if (pt_not (pt_val (pe_call (G _ rfl) hr (by rfl) gS F.kp bS .nil pass0 (pa_cons (pe_ix ix_tup (pv 0) (pv 2) (fun _ _ => rfl)) (pa_cons (pe_ix ix_tup (pv 1) (pv 2) (fun _ _ => rfl)) pa_nil))))) (pss_one ps_never) pss_nil)))
          (pss_one (ps_ret pe_bl))))) pss_nil)
        (pss_cons ps_never (pss_cons ps_never (pss_cons ps_never (pss_one ps_never)))), ?_⟩
      have ty0 : TyX K H (.ref a) (.type "tuple") := .base (.tup ha)
      have ty1 : TyX K H (.ref b) (.type "tuple") := .base (.tup hb)
      refine ⟨_, rfl, _, _, _, _, _, rfl, ClsV.ty _, ty1, kit_ty (b := "tuple") (r := true) (by decide +kernel), true, rfl, iteT ?_⟩
      refine ⟨_, rfl, _, _, _, _, _, rfl, ClsV.ty _, ty1, kit_ty (b := "tuple") (r := true) (by decide +kernel), _, rfl, _, _, _, _, _, rfl, ClsV.ty _, ty0, kit_ty (b := "tuple") (r := true) (by decide +kernel), rfl, false, rfl, iteF ⟨_, rfl, _, _, _, _, _, rfl, ClsV.ty _, ty1, kit_ty (b := "list") (r := false) (by decide +kernel), _, rfl, _, _, _, _, _, rfl, ClsV.ty _, ty0, kit_ty (b := "list") (r := false) (by decide +kernel), rfl, false, rfl, iteF ?_⟩⟩
      refine ⟨_, rfl, _, _, rfl, .inr (SqT.of ha), _, rfl, _, _, rfl, .inr (SqT.of hb), rfl, _, rfl, ?_⟩
      rw [hl, decide_eq_true rfl]
      refine iteF ⟨_, rfl, _, _, rfl, .inr (SqT.of hb), _, rfl, by omega, by omega, ?_⟩
      refine for_range (lo := 0) (n := ys.length) (fun i σ H' => H' = H ∧ ∃ y2 : Option V, σ = [some (.ref a), some (.ref b), y2]) ⟨rfl, _, rfl⟩ (fun i σ H' hi hP => ?_) (fun σ H' hP => ?_)
      · obtain ⟨rfl, y2, rfl⟩ := hP
        have g1 : xs[i]? = some xs[i] := List.getElem?_eq_getElem (by omega)
        have g2 : ys[i]? = some ys[i] := List.getElem?_eq_getElem hi
        have e0 : (0 : Int) + (i : Int) = ((i : Nat) : Int) := Int.zero_add _
        rw [e0]
        exact ⟨_, rfl, _, rfl, _, _, _, _, rfl, rfl, SqT.of ha, atI_nat g1, _, rfl, _, rfl, _, _, _, _, rfl, rfl, SqT.of hb, atI_nat g2, _, _, rfl, hh i _ _ g1 g2, true, rfl, iteF ⟨rfl, _, rfl⟩⟩
      · obtain ⟨rfl, y2, rfl⟩ := hP
        exact q
    | @lst n a b xs ys ha hb hl hm hh =>
      refine ⟨_, pss_cons (ps_if (PW.pt (pw_or (pt_val (pe_callB call_isi (by rfl) Z.m_isinstance (by decide +kernel) (pa_cons (pv 1) (pa_cons (pe_bltn (u := .type "tuple") (v := .ty "tuple") (by rfl) Z.m_tuple (by decide +kernel) rfl) pa_nil)))) (pw_or1 (pt_val (pe_callB call_isi (by rfl) Z.m_isinstance (by decide +kernel) (pa_cons (pv 1) (pa_cons (pe_bltn (u := .type "list") (v := .ty "list") (by rfl) Z.m_list (by decide +kernel) rfl) pa_nil)))))))
        (pss_cons (ps_if (PW.pt (pw_or (pt_cmpR op_ne (pe_callB call_isi (by rfl) Z.m_isinstance (by decide +kernel) (pa_cons (pv 1) (pa_cons (pe_bltn (u := .type "tuple") (v := .ty "tuple") (by rfl) Z.m_tuple (by decide +kernel) rfl) pa_nil))) (pe_callB call_isi (by rfl) Z.m_isinstance (by decide +kernel) (pa_cons (pv 0) (pa_cons (pe_bltn (u := .type "tuple") (v := .ty "tuple") (by rfl) Z.m_tuple (by decide +kernel) rfl) pa_nil))) (nomark _)) (pw_or1 (pt_cmpR op_ne (pe_callB call_isi (by rfl) Z.m_isinstance (by decide +kernel) (pa_cons (pv 1) (pa_cons (pe_bltn (u := .type "list") (v := .ty "list") (by rfl) Z.m_list (by decide +kernel) rfl) pa_nil))) (pe_callB call_isi (by rfl) Z.m_isinstance (by decide +kernel) (pa_cons (pv 0) (pa_cons (pe_bltn (u := .type "list") (v := .ty "list") (by rfl) Z.m_list (by decide +kernel) rfl) pa_nil))) (nomark _))))) (pss_one ps_never) pss_nil)
          (pss_cons (ps_if (pt_cmpR op_ne (pe_callB call_len_seq (by rfl) Z.m_len PySem.boot_len (pa_cons (pv 0) pa_nil)) (pe_callB call_len_seq (by rfl) Z.m_len PySem.boot_len (pa_cons (pv 1) pa_nil)) (nomark _)) (pss_one ps_never) pss_nil)
          (pss_cons (ps_for PassesOwn.never rfl (pi_range1 rfl Z.m_range (pa_cons (pe_callB call_len_seq (by rfl) Z.m_len PySem.boot_len (pa_cons (pv 1) pa_nil)) pa_nil)) (pg_name (i := 2) nd rfl (.inl rfl))
            (pss_one (ps_if (pt_not (pt_val (pe_call (G _ rfl) hr (by rfl) gS F.kp bS .nil pass0 (pa_cons (pe_ix ix_list (pv 0) (pv 2) (fun _ _ => rfl)) (pa_cons (pe_ix ix_list (pv 1) (pv 2) (fun _ _ => rfl)) pa_nil))))) (pss_one ps_never) pss_nil)))
          (pss_one (ps_ret pe_bl))))) pss_nil)
        (pss_cons ps_never (pss_cons ps_never (pss_cons ps_never (pss_one ps_never)))), ?_⟩
      have ty0 : TyX K H (.ref a) (.type "list") := .base (.lst ha)
      have ty1 : TyX K H (.ref b) (.type "list") := .base (.lst hb)
      refine ⟨_, rfl, _, _, _, _, _, rfl, ClsV.ty _, ty1, kit_ty (b := "tuple") (r := false) (by decide +kernel), false, rfl, iteF ⟨_, rfl, _, _, _, _, _, rfl, ClsV.ty _, ty1, kit_ty (b := "list") (r := true) (by decide +kernel), true, rfl, iteT ?_⟩⟩
      refine ⟨_, rfl, _, _, _, _, _, rfl, ClsV.ty _, ty1, kit_ty (b := "tuple") (r := false) (by decide +kernel), _, rfl, _, _, _, _, _, rfl, ClsV.ty _, ty0, kit_ty (b := "tuple") (r := false) (by decide +kernel), rfl, false, rfl, iteF ⟨_, rfl, _, _, _, _, _, rfl, ClsV.ty _, ty1, kit_ty (b := "list") (r := true) (by decide +kernel), _, rfl, _, _, _, _, _, rfl, ClsV.ty _, ty0, kit_ty (b := "list") (r := true) (by decide +kernel), rfl, false, rfl, iteF ?_⟩⟩
      refine ⟨_, rfl, _, _, rfl, .inl (SqL.of ha), _, rfl, _, _, rfl, .inl (SqL.of hb), rfl, _, rfl, ?_⟩
      rw [hl, decide_eq_true rfl]
      refine iteF ⟨_, rfl, _, _, rfl, .inl (SqL.of hb), _, rfl, by omega, by omega, ?_⟩
      refine for_range (lo := 0) (n := ys.length) (fun i σ H' => H' = H ∧ ∃ y2 : Option V, σ = [some (.ref a), some (.ref b), y2]) ⟨rfl, _, rfl⟩ (fun i σ H' hi hP => ?_) (fun σ H' hP => ?_)
      · obtain ⟨rfl, y2, rfl⟩ := hP
        have g1 : xs[i]? = some xs[i] := List.getElem?_eq_getElem (by omega)
        have g2 : ys[i]? = some ys[i] := List.getElem?_eq_getElem hi
        have e0 : (0 : Int) + (i : Int) = ((i : Nat) : Int) := Int.zero_add _
        rw [e0]
        exact ⟨_, rfl, _, rfl, _, _, _, _, rfl, rfl, SqL.of ha, atI_nat g1, _, rfl, _, rfl, _, _, _, _, rfl, rfl, SqL.of hb, atI_nat g2, _, _, rfl, hh i _ _ g1 g2, true, rfl, iteF ⟨rfl, _, rfl⟩⟩
      · obtain ⟨rfl, y2, rfl⟩ := hP
        exact q

/-- all but p is as it was, and there may be more -/
def Keep (p : Addr) (H H' : Hp) : Prop := ∀ x o, x ≠ p → H x = some o → H' x = some o
theorem But.keep {p : Addr} {H H' : Hp} (h : But p H H') : Keep p H H' := fun x o n e => (h.1 x n).trans e
theorem Keep.trans {p : Addr} {H H1 H2 : Hp} (a : Keep p H H1) (b : Keep p H1 H2) : Keep p H H2 := fun x o n e => b x o n (a x o n e)
theorem Keep.refl (p : Addr) (H : Hp) : Keep p H H := fun _ _ _ e => e
theorem Same.keep {p : Addr} {H H' : Hp} (h : Same H H') : Keep p H H' := fun x o _ e => h x o e
theorem Pl.lst {H : Hp} {p : Addr} (h : Pl H p) : ∃ xs, H p = some (.lst xs) := by
  obtain ⟨q, ns, a, b, c, d, e, _⟩ := h
  exact ⟨_, e⟩
theorem Pl.ne {H : Hp} {p x : Addr} {ys : List V} (h : Pl H p) (hx : H x = some (.tup ys)) : x ≠ p := by
  obtain ⟨xs, e⟩ := h.lst
  exact ne_of hx e (fun z => nomatch z)
theorem Pl.same {H H' : Hp} {p : Addr} (h : Pl H p) (s : Same H H') : Pl H' p := by
  obtain ⟨q, ns, a, b, c, d, e, e2, n⟩ := h
  exact ⟨q, ns, a, b, c, d, s _ _ e, s _ _ e2, n⟩
/-- a pool whose list stands at q -/
def Plq (H : Hp) (p q : Addr) : Prop := ∃ (ns : List Int) (a : Nat) (b c d : Int), H p = some (.lst [.ref q, .int a, .int b, .int c, .int d]) ∧ H q = some (.lst (ns.map V.int)) ∧ q ≠ p
theorem Pl.q {H : Hp} {p : Addr} (h : Pl H p) : ∃ q, Plq H p q := h
theorem Plq.pl {H : Hp} {p q : Addr} (h : Plq H p q) : Pl H p := ⟨q, h⟩
theorem Plq.but {H H' : Hp} {p q : Addr} (h : Plq H p q) (hB : But p H H') (h' : Pl H' p) : Plq H' p q := by
  obtain ⟨ns, a, b, c, d, e, e2, n⟩ := h
  obtain ⟨l, hl⟩ := hB.2 q ⟨_, e⟩
  obtain ⟨q2, ns2, a2, b2, c2, d2, f, f2, n2⟩ := h'
  have := hl.symm.trans f
  injection this with this
  injection this with this
  injection this with this
  injection this with this
  subst this
  exact ⟨ns2, a2, b2, c2, d2, f, f2, n2⟩
theorem Plq.upd {H : Hp} {p q D : Addr} {o : HO} (h : Plq H p q) (h1 : p ≠ D) (h2 : q ≠ D) : Plq (upd H D o) p q := by
  obtain ⟨ns, a, b, c, d, e, e2, n⟩ := h
  exact ⟨ns, a, b, c, d, by rw [upd_ne h1]; exact e, by rw [upd_ne h2]; exact e2, n⟩
theorem Plq.same {H H' : Hp} {p q : Addr} (h : Plq H p q) (s : Same H H') : Plq H' p q := by
  obtain ⟨ns, a, b, c, d, e, e2, n⟩ := h
  exact ⟨ns, a, b, c, d, s _ _ e, s _ _ e2, n⟩
theorem Plq.ne_free {H : Hp} {p q D : Addr} (h : Plq H p q) (n : H D = none) : p ≠ D ∧ q ≠ D := by
  obtain ⟨ns, a, b, c, d, e, e2, _⟩ := h
  exact ⟨ne_of_none e n, ne_of_none e2 n⟩

theorem cmul {x y : Int} {a b : Nat} (ha : x.natAbs < 2 ^ a) (hb : y.natAbs < 2 ^ b) (h0 : 0 < a := by decide) (h1 : 0 < b := by decide) (h : a + b ≤ 1000000 := by decide) : CMulW x y := wide_mul ha hb h0 h1 h

/-! ### vectors: tuples of ints -/
/-- the greatest common divisor of a list -/
def gl (ns : List Int) : Int := ns.foldl g2 0
theorem g2_max {c x : Int} {B : Nat} (hc : c.natAbs < B) (hx : x.natAbs < B) : (g2 c x).natAbs < B := by
  by_cases h : x = 0
  · subst h
    unfold g2
    rw [show (0 : Int).natAbs = 0 from rfl, Nat.gcd_zero_right]
    omega
  · exact Nat.lt_of_le_of_lt (g2_le h) hx
theorem g2_nn (a b : Int) : 0 ≤ g2 a b := by
  unfold g2
  omega
theorem gl_step {ns : List Int} {i : Nat} {x : Int} (h : ns[i]? = some x) : gl (ns.take (i + 1)) = g2 (gl (ns.take i)) x := by
  unfold gl
  rw [List.take_add_one, h, List.foldl_append]
  rfl
theorem gl_lim {ns : List Int} {B : Nat} (h0 : 0 < B) (h : ∀ n ∈ ns, n.natAbs < B) : (gl ns).natAbs < B := by
  unfold gl
  have : ∀ (l : List Int) (c : Int), c.natAbs < B → (∀ n ∈ l, n.natAbs < B) → (l.foldl g2 c).natAbs < B := by
    intro l
    induction l with
    | nil => intro c hc _; exact hc
    | cons x r ih =>
      intro c hc hl
      exact ih _ (g2_max hc (hl x List.mem_cons_self)) fun n hn => hl n (List.mem_cons_of_mem _ hn)
  exact this ns 0 (by show 0 < B; exact h0) h
theorem gl_nn (ns : List Int) : 0 ≤ gl ns := by
  unfold gl
  have : ∀ (l : List Int) (c : Int), 0 ≤ c → 0 ≤ l.foldl g2 c := by
    intro l
    induction l with
    | nil => intro c hc; exact hc
    | cons x r ih => intro c _; exact ih _ (g2_nn _ _)
  exact this ns 0 (Int.le_refl 0)
theorem gl_take_lim {ns : List Int} {B i : Nat} (h0 : 0 < B) (h : ∀ n ∈ ns, n.natAbs < B) : (gl (ns.take i)).natAbs < B := gl_lim h0 fun n hn => h n (List.mem_of_mem_take hn)
def prim (ns : List Int) : List Int := if gl ns = 0 then ns else ns.map (· / gl ns)
def dotz (ns ms : List Int) : List Int := (ns.zip ms).map fun p => p.1 * p.2
theorem prim_len (ns : List Int) : (prim ns).length = ns.length := by
  unfold prim
  split
  · rfl
  · rw [List.length_map]
theorem map_get {ns : List Int} {i : Nat} {x : V} (h : (ns.map V.int)[i]? = some x) : ∃ n, ns[i]? = some n ∧ x = .int n := by
  rw [List.getElem?_map] at h
  cases e : ns[i]? with
  | none => rw [e] at h; cases h
  | some n => rw [e] at h; exact ⟨n, rfl, (Option.some.inj h).symm⟩
theorem get_map {ns : List Int} {i : Nat} {n : Int} (h : ns[i]? = some n) : (ns.map V.int)[i]? = some (.int n) := by
  rw [List.getElem?_map, h]
  rfl
theorem lt_of_get {α : Type} {xs : List α} {i : Nat} {x : α} (h : xs[i]? = some x) : i < xs.length := (List.getElem?_eq_some_iff.mp h).1
/-- the vector at a -/
def Vc (H : Hp) (a : Addr) (ns : List Int) : Prop := H a = some (.tup (ns.map V.int))
theorem vc_alike {H : Hp} {a b : Addr} {ns : List Int} (n : Nat) (ha : Vc H a ns) (hb : Vc H b ns) (hl : ns.length ≤ 1000) : Alike H (n + 1) (.ref a) (.ref b) :=
  .tup ha hb rfl (by rw [List.length_map]; omega) fun i x y h1 h2 => by
    have e := Option.some.inj (h1.symm.trans h2)
    subst e
    obtain ⟨m, _, rfl⟩ := map_get h1
    exact .int n m
theorem Vc.ne {H : Hp} {p a : Addr} {ns : List Int} (h : Vc H a ns) (hp : Pl H p) : a ≠ p := hp.ne h
theorem Vc.keep {H H' : Hp} {p a : Addr} {ns : List Int} (h : Vc H a ns) (hp : Pl H p) (k : Keep p H H') : Vc H' a ns := k _ _ (h.ne hp) h
theorem Vc.same {H H' : Hp} {a : Addr} {ns : List Int} (h : Vc H a ns) (k : Same H H') : Vc H' a ns := k _ _ h
theorem dotz_get {ns ms : List Int} {i : Nat} {x y : Int} (h1 : ns[i]? = some x) (h2 : ms[i]? = some y) : (dotz ns ms)[i]? = some (x * y) := by
  unfold dotz
  rw [List.getElem?_map, List.getElem?_zip_eq_some (z := (x, y)) |>.mpr ⟨h1, h2⟩]
  rfl
theorem dotz_len {ns ms : List Int} (h : ns.length = ms.length) : (dotz ns ms).length = ns.length := by
  unfold dotz
  rw [List.length_map, List.length_zip, h, Nat.min_self]
theorem take_get {α : Type} {xs : List α} {i : Nat} {x : α} (h : xs[i]? = some x) : xs.take (i + 1) = xs.take i ++ [x] := by
  rw [List.take_add_one, h]
  rfl

abbrev s_common_divisor : Stmt := topS 3
theorem sc_common_divisor : FnScope ["v", "common", "entry"] ["v"] (defScope s_common_divisor) := ⟨rfl, rfl, rfl, by decide +kernel, rfl, by decide +kernel, by decide +kernel⟩
def spCd : Sp := fun vs H Q _ => ∃ (a : Addr) (ns : List Int), vs = [.ref a] ∧ Vc H a ns ∧ Q (.int (gl ns)) H
theorem ok_cd {f : Addr} {fd : FuncData} {k : Nat} (F : Fun K "common_divisor" "common_divisor" s_common_divisor f fd) (Z : Glb mg) : FnOk P w K mg base CX0 (k + 1) f fd ["v"] spCd := by
  refine F.ok sc_common_divisor (fun vs H Q E h => ?_) (fun cdv A outer s H vs Q E hr h => ?_)
  · obtain ⟨a, ns, rfl, _⟩ := h
    rfl
  · obtain ⟨a, ns, rfl, hv, q⟩ := h
    refine ⟨_, (pss_cons (ps_set (i := 1) sc_common_divisor.nd rfl (.inl rfl) pe_int)
      (pss_cons (ps_for PassesOwn.never rfl (pi_tup (pv 0)) (pg_name (i := 2) sc_common_divisor.nd rfl (.inl rfl)) (pss_one (ps_set (i := 1) sc_common_divisor.nd rfl (.inl rfl) (pe_callBfun cr_gcd (by rfl) Z.m_gcd (pa_cons (pv 1) (pa_cons (pv 2) pa_nil))))))
      (pss_one (ps_ret (pv 1))))), ?_⟩
    refine ⟨_, rfl, a, rfl, ⟨_, SqT.of hv⟩, ?_⟩
    refine for_tup (xs := ns.map V.int) (fun i σ H' => H' = H ∧ ∃ y2 : Option V, σ = [some (.ref a), some (.int (gl (ns.take i))), y2]) ⟨rfl, _, rfl⟩ (fun i σ H' _ hP => by obtain ⟨rfl, _⟩ := hP; exact SqT.of hv) (fun i x σ H' hx hP => ?_) (fun σ H' hP => ?_)
    · obtain ⟨rfl, y2, rfl⟩ := hP
      obtain ⟨n, hn, rfl⟩ := map_get hx
      refine ⟨_, rfl, _, rfl, _, _, rfl, rfl, some (.int n), ?_⟩
      rw [gl_step hn]
      rfl
    · obtain ⟨rfl, y2, rfl⟩ := hP
      rw [List.length_map, List.take_length]
      exact ⟨_, rfl, q⟩

def spPrim : Sp := fun vs H Q _ => ∃ (a : Addr) (ns : List Int), vs = [.ref a] ∧ Vc H a ns ∧ ns.length ≤ 1000 ∧ (∀ n ∈ ns, n.natAbs < 2 ^ 299) ∧ ∀ (H' : Hp) (r : Addr), Same H H' → Vc H' r (prim ns) → Q (.ref r) H'
abbrev s_primitive : Stmt := topS 4
theorem sc_primitive : FnScope ["v", "common", "entry"] ["v"] (defScope s_primitive) := ⟨rfl, rfl, rfl, by decide +kernel, rfl, by decide +kernel, by decide +kernel⟩
theorem ok_prim {f : Addr} {fd : FuncData} {k : Nat} (F : Fun K "primitive" "primitive" s_primitive f fd) (Z : Glb mg)
    (Ccommon_divisor : Call P w K mg base k "common_divisor" ["v"] spCd) : FnOk P w K mg base CX0 (k + 1) f fd ["v"] spPrim := by
  refine F.ok sc_primitive (fun vs H Q E h => ?_) (fun cdv A outer s H vs Q E hr h => ?_)
  · obtain ⟨a, ns, rfl, _⟩ := h
    rfl
  · obtain ⟨a, ns, rfl, hv, hl, hB, q⟩ := h
    refine ⟨_, (pss_cons (ps_set (i := 1) sc_primitive.nd rfl (.inr rfl) (pe_call Ccommon_divisor.G hr (by rfl) Ccommon_divisor.m Ccommon_divisor.kp Ccommon_divisor.b .nil pass0 (pa_cons (pv 0) pa_nil)))
      (pss_cons (ps_if (pt_cmpR op_eq (pv 1) pe_int (nomark _)) (pss_one (ps_ret (pe_callTy call_tupleT (by rfl) Z.m_tuple (by decide +kernel) (pa_cons (pv 0) pa_nil)))) pss_nil)
      (pss_one (ps_ret (pe_callTy call_tuple_of (by rfl) Z.m_tuple (by decide +kernel) (pa_cons (pe_lc (own := [("entry", 2)]) (g := gName 2) (tt := tYes) (by rfl) sc_primitive.nd (pi_tup (pv 0)) (blkOk_by (own := [("entry", 2)]) (N := ["v", "common", "entry"]) (sc := defScope s_primitive) (by decide +kernel)) (fun _ _ _ _ _ => (pg_name (i := 2) sc_primitive.nd rfl (.inl rfl))) (fun _ _ _ _ _ => pts_nil) (fun _ _ _ _ _ => (pe_op op_fdivW (pv 2) (pv 1)))) pa_nil)))))), ?_⟩
    refine ⟨_, rfl, a, ns, rfl, hv, ?_⟩
    refine ⟨_, rfl, rfl, _, rfl, ite2 (fun e => ?_) (fun e => ?_)⟩
    · have e0 : gl ns = 0 := V.int.inj (of_decide_eq_true e)
      refine ⟨_, rfl, a, _, rfl, SqT.of hv, ?_⟩
      refine q _ _ (Same.refl _) ?_
      rw [show prim ns = ns from if_pos e0]
      exact hv
    · have e0 : gl ns ≠ 0 := fun z => e (decide_eq_true (by rw [z]))
      have ep : prim ns = ns.map (· / gl ns) := if_neg e0
      have cd : ∀ x : Int, CDivW x (gl ns) := fun x => wide_div (by have := gl_nn ns; omega) (gl_lim (by decide) hB) (by decide) (by decide)
      refine ⟨_, rfl, a, rfl, ⟨_, SqT.of hv⟩, fun D nD => ?_⟩
      refine lc_tup (xs := ns.map V.int) (fun i H' => ∃ H0, Same H H0 ∧ H0 D = none ∧ H' = upd H0 D (.lst (((prim ns).take i).map V.int))) ⟨H, Same.refl _, nD, rfl⟩ (fun i H' _ hP => ?_) (fun i x H' hx hP => ?_) (fun H' hP => ?_)
      · obtain ⟨H0, s0, n0, rfl⟩ := hP
        exact SqT.of ((s0.trans (same_upd n0)) _ _ hv)
      · obtain ⟨H0, s0, n0, rfl⟩ := hP
        obtain ⟨n, hn, rfl⟩ := map_get hx
        refine ⟨rfl, ?_⟩
        unfold tYes
        refine iteT ?_
        refine ⟨_, rfl, _, rfl, _, _, rfl, rfl, cd n, _, upd_same, ?_, H0, s0, n0, ?_⟩
        · rw [List.length_map, List.length_take]
          exact Nat.lt_of_le_of_lt (Nat.min_le_right _ _) (small1000 (by rw [prim_len]; exact hl))
        · rw [upd_upd]
          have hg : (prim ns)[i]? = some (n / gl ns) := by
            rw [ep, List.getElem?_map, hn]
            rfl
          rw [take_get hg, List.map_append]
          rfl
      · obtain ⟨H0, s0, n0, rfl⟩ := hP
        rw [List.length_map, show ns.length = (prim ns).length from (prim_len ns).symm, List.take_length]
        refine ⟨D, _, rfl, .inl ⟨SqL.of upd_same, fun l nl => ?_⟩⟩
        exact q _ _ ((s0.trans (same_upd n0)).trans (same_upd nl)) upd_same

abbrev s__law_prim : Stmt := topS 11
theorem sc__law_prim : FnScope ["v", "common", "a"] ["v"] (defScope s__law_prim) := ⟨rfl, rfl, rfl, by decide +kernel, rfl, by decide +kernel, by decide +kernel⟩
theorem ok_lprim {f : Addr} {fd : FuncData} {k : Nat} (F : Fun K "_law_prim" "_law_prim" s__law_prim f fd) (Z : Glb mg)
    (C_law_gcd : Call P w K mg base k "_law_gcd" ["a", "b"] spGcd) : FnOk P w K mg base CX0 (k + 1) f fd ["v"] spPrim := by
  refine F.ok sc__law_prim (fun vs H Q E h => ?_) (fun cdv A outer s H vs Q E hr h => ?_)
  · obtain ⟨a, ns, rfl, _⟩ := h
    rfl
  · obtain ⟨a, ns, rfl, hv, hl, hB, q⟩ := h
    refine ⟨_, (pss_cons (ps_set (i := 1) sc__law_prim.nd rfl (.inr rfl) pe_int)
      (pss_cons (ps_for PassesOwn.never rfl (pi_tup (pv 0)) (pg_name (i := 2) sc__law_prim.nd rfl (.inl rfl)) (pss_one (ps_set (i := 1) sc__law_prim.nd rfl (.inr rfl) (pe_call C_law_gcd.G hr (by rfl) C_law_gcd.m C_law_gcd.kp C_law_gcd.b .nil pass0 (pa_cons (pv 1) (pa_cons (pv 2) pa_nil))))))
      (pss_cons (ps_if (pt_cmpR op_eq (pv 1) pe_int (nomark _)) (pss_one (ps_ret (pe_callTy call_tupleT (by rfl) Z.m_tuple (by decide +kernel) (pa_cons (pv 0) pa_nil)))) pss_nil)
      (pss_one (ps_ret (pe_callTy call_tuple_of (by rfl) Z.m_tuple (by decide +kernel) (pa_cons (pe_lc (own := [("a", 2)]) (g := gName 2) (tt := tYes) (by rfl) sc__law_prim.nd (pi_tup (pv 0)) (blkOk_by (own := [("a", 2)]) (N := ["v", "common", "a"]) (sc := defScope s__law_prim) (by decide +kernel)) (fun _ _ _ _ _ => (pg_name (i := 2) sc__law_prim.nd rfl (.inl rfl))) (fun _ _ _ _ _ => pts_nil) (fun _ _ _ _ _ => (pe_op op_fdivW (pv 2) (pv 1)))) pa_nil))))))), ?_⟩
    refine ⟨_, rfl, a, rfl, ⟨_, SqT.of hv⟩, ?_⟩
    refine for_tup (xs := ns.map V.int) (fun i σ H' => H = H' ∧ ∃ y2 : Option V, σ = [some (.ref a), some (.int (gl (ns.take i))), y2]) ⟨rfl, _, rfl⟩ (fun i σ H' _ hP => by obtain ⟨rfl, _⟩ := hP; exact SqT.of hv) (fun i x σ H' hx hP => ?_) (fun σ H' hP => ?_)
    · obtain ⟨rfl, y2, rfl⟩ := hP
      obtain ⟨n, hn, rfl⟩ := map_get hx
      refine ⟨_, rfl, _, rfl, _, _, rfl, gl_take_lim (by decide) hB, hB n (List.mem_of_getElem? hn), rfl, some (.int n), ?_⟩
      rw [gl_step hn]
      rfl
    obtain ⟨rfl, y2, rfl⟩ := hP
    rw [List.length_map, List.take_length]
    refine ⟨_, rfl, rfl, _, rfl, ite2 (fun e => ?_) (fun e => ?_)⟩
    · have e0 : gl ns = 0 := V.int.inj (of_decide_eq_true e)
      refine ⟨_, rfl, a, _, rfl, SqT.of hv, ?_⟩
      refine q _ _ (Same.refl _) ?_
      rw [show prim ns = ns from if_pos e0]
      exact hv
    · have e0 : gl ns ≠ 0 := fun z => e (decide_eq_true (by rw [z]))
      have ep : prim ns = ns.map (· / gl ns) := if_neg e0
      have cd : ∀ x : Int, CDivW x (gl ns) := fun x => wide_div (by have := gl_nn ns; omega) (gl_lim (by decide) hB) (by decide) (by decide)
      refine ⟨_, rfl, a, rfl, ⟨_, SqT.of hv⟩, fun D nD => ?_⟩
      refine lc_tup (xs := ns.map V.int) (fun i H' => ∃ H0, Same H H0 ∧ H0 D = none ∧ H' = upd H0 D (.lst (((prim ns).take i).map V.int))) ⟨H, Same.refl _, nD, rfl⟩ (fun i H' _ hP => ?_) (fun i x H' hx hP => ?_) (fun H' hP => ?_)
      · obtain ⟨H0, s0, n0, rfl⟩ := hP
        exact SqT.of ((s0.trans (same_upd n0)) _ _ hv)
      · obtain ⟨H0, s0, n0, rfl⟩ := hP
        obtain ⟨n, hn, rfl⟩ := map_get hx
        refine ⟨rfl, ?_⟩
        unfold tYes
        refine iteT ?_
        refine ⟨_, rfl, _, rfl, _, _, rfl, rfl, cd n, _, upd_same, ?_, H0, s0, n0, ?_⟩
        · rw [List.length_map, List.length_take]
          exact Nat.lt_of_le_of_lt (Nat.min_le_right _ _) (small1000 (by rw [prim_len]; exact hl))
        · rw [upd_upd]
          have hg : (prim ns)[i]? = some (n / gl ns) := by
            rw [ep, List.getElem?_map, hn]
            rfl
          rw [take_get hg, List.map_append]
          rfl
      · obtain ⟨H0, s0, n0, rfl⟩ := hP
        rw [List.length_map, show ns.length = (prim ns).length from (prim_len ns).symm, List.take_length]
        refine ⟨D, _, rfl, .inl ⟨SqL.of upd_same, fun l nl => ?_⟩⟩
        exact q _ _ ((s0.trans (same_upd n0)).trans (same_upd nl)) upd_same

abbrev s_dot : Stmt := topS 2
theorem sc_dot : FnScope ["v", "w", "a", "b"] ["v", "w"] (defScope s_dot) := ⟨rfl, rfl, rfl, by decide +kernel, rfl, by decide +kernel, by decide +kernel⟩
def spDot : Sp := fun vs H Q _ => ∃ (a b : Addr) (ns ms : List Int), vs = [.ref a, .ref b] ∧ Vc H a ns ∧ Vc H b ms ∧ ns.length = ms.length ∧ ns.length ≤ 1000 ∧ (∀ n ∈ ns, n.natAbs < 2 ^ 299) ∧ (∀ n ∈ ms, n.natAbs < 2 ^ 299) ∧ ∀ H' : Hp, Same H H' → Q (.int (dotz ns ms).sum) H'
theorem ok_dot {f : Addr} {fd : FuncData} {k : Nat} (F : Fun K "dot" "dot" s_dot f fd) (Z : Glb mg) : FnOk P w K mg base CX0 (k + 1) f fd ["v", "w"] spDot := by
  refine F.ok sc_dot (fun vs H Q E h => ?_) (fun cdv A outer s H vs Q E hr h => ?_)
  · obtain ⟨a, b, ns, ms, rfl, _⟩ := h
    rfl
  · obtain ⟨a, b, ns, ms, rfl, ha, hb, hl, hm, B1, B2, q⟩ := h
    refine ⟨_, (pss_one (ps_ret (pe_callB (cr_sum rfl) (by rfl) Z.m_sum (by decide +kernel) (pa_cons (pe_lc (own := [("a", 2), ("b", 3)]) (g := gTup K 2 (gCons (gName 2) (gCons (gName 3) gNil))) (tt := tYes) (by rfl) sc_dot.nd (pi_zipA (by rfl) Z.m_zip (pa_cons (pv 0) (pa_cons (pv 1) pa_nil))) (blkOk_by (own := [("a", 2), ("b", 3)]) (N := ["v", "w", "a", "b"]) (sc := defScope s_dot) (by decide +kernel)) (fun _ _ _ _ _ => (pg_tup rfl (pgs_cons (pg_name (i := 2) sc_dot.nd rfl (.inl rfl)) (pgs_cons (pg_name (i := 3) sc_dot.nd rfl (.inl rfl)) pgs_nil)))) (fun _ _ _ _ _ => pts_nil) (fun _ _ _ _ _ => (pe_op op_mulW (pv 2) (pv 3)))) pa_nil)))), ?_⟩
    refine ⟨_, rfl, _, rfl, a, b, ns.map V.int, ms.map V.int, rfl, .inr ⟨SqT.of ha, SqT.of hb, fun D nD => ?_⟩⟩
    refine lc_it (walk_zipT (xs := ns.map V.int) (ys := ms.map V.int) (n := ns.length) (by rw [List.length_map]) (by rw [List.length_map]; exact hl.symm)) (fun i H' => ∃ H0, Same H H0 ∧ H0 D = none ∧ H' = upd H0 D (.lst (((dotz ns ms).take i).map V.int))) ⟨H, Same.refl _, nD, rfl⟩ (fun i H' _ hP => ?_) (fun i x H' H'' hi hP hY => ?_) (fun H' hP => ?_)
    · obtain ⟨H0, s0, n0, rfl⟩ := hP
      have s1 := s0.trans (same_upd (o := .lst (((dotz ns ms).take i).map V.int)) n0)
      exact ⟨SqT.of (s1 _ _ ha), SqT.of (s1 _ _ hb)⟩
    · obtain ⟨H0, s0, n0, rfl⟩ := hP
      obtain ⟨T, x1, y1, rfl, nT, rfl, hx, hy⟩ := hY
      obtain ⟨n, hn, rfl⟩ := map_get hx
      obtain ⟨m, hm', rfl⟩ := map_get hy
      refine ⟨T, [.int n, .int m], rfl, SqT.of upd_same, rfl, _, _, rfl, _, _, rfl, rfl, rfl, ?_⟩
      unfold tYes
      refine iteT ?_
      have hT : D ≠ T := ne_of_none upd_same nT
      have nT0 : H0 T = none := by rw [upd_ne hT.symm] at nT; exact nT
      refine ⟨_, rfl, _, rfl, _, _, rfl, rfl, cmul (B1 n (List.mem_of_getElem? hn)) (B2 m (List.mem_of_getElem? hm')), ((dotz ns ms).take i).map V.int, by rw [upd_ne hT]; exact upd_same, ?_, upd H0 T (.tup [.int n, .int m]), s0.trans (same_upd nT0), by rw [upd_ne hT]; exact n0, ?_⟩
      · rw [List.length_map, List.length_take]
        exact Nat.lt_of_le_of_lt (Nat.min_le_right _ _) (small1000 (by rw [dotz_len hl]; exact hm))
      · rw [take_get (dotz_get hn hm'), List.map_append]
        funext x
        unfold upd
        by_cases h1 : x = D
        · subst h1
          rw [if_pos rfl, if_pos rfl]
          rfl
        · rw [if_neg h1, if_neg h1]
          by_cases h2 : x = T
          · simp [h2, hT.symm]
          · simp [h1, h2]
    · obtain ⟨H0, s0, n0, rfl⟩ := hP
      rw [show ns.length = (dotz ns ms).length from (dotz_len hl).symm, List.take_length]
      refine ⟨D, _, rfl, SqL.of upd_same, ?_⟩
      exact q _ (s0.trans (same_upd n0))
abbrev s__law_dot : Stmt := topS 12
theorem sc__law_dot : FnScope ["v", "w", "k"] ["v", "w"] (defScope s__law_dot) := ⟨rfl, rfl, rfl, by decide +kernel, rfl, by decide +kernel, by decide +kernel⟩
theorem ok_ldot {f : Addr} {fd : FuncData} {k : Nat} (F : Fun K "_law_dot" "_law_dot" s__law_dot f fd) (Z : Glb mg) : FnOk P w K mg base CX0 (k + 1) f fd ["v", "w"] spDot := by
  refine F.ok sc__law_dot (fun vs H Q E h => ?_) (fun cdv A outer s H vs Q E hr h => ?_)
  · obtain ⟨a, b, ns, ms, rfl, _⟩ := h
    rfl
  · obtain ⟨a, b, ns, ms, rfl, ha, hb, hl, hm, B1, B2, q⟩ := h
    refine ⟨_, (pss_one (ps_ret (pe_callB (cr_sum rfl) (by rfl) Z.m_sum (by decide +kernel) (pa_cons (pe_lc (own := [("k", 2)]) (g := gName 2) (tt := tYes) (by rfl) sc__law_dot.nd (pi_range1 rfl Z.m_range (pa_cons (pe_callB call_len_seq (by rfl) Z.m_len PySem.boot_len (pa_cons (pv 0) pa_nil)) pa_nil)) (blkOk_by (own := [("k", 2)]) (N := ["v", "w", "k"]) (sc := defScope s__law_dot) (by decide +kernel)) (fun _ _ _ _ _ => (pg_name (i := 2) sc__law_dot.nd rfl (.inl rfl))) (fun _ _ _ _ _ => pts_nil) (fun _ _ _ _ _ => (pe_op op_mulW (pe_ix (r := rIxT K) ix_tup (pv 0) (pv 2) (fun _ _ => rfl)) (pe_ix (r := rIxT K) ix_tup (pv 1) (pv 2) (fun _ _ => rfl))))) pa_nil)))), ?_⟩
    refine ⟨_, rfl, a, ns.map V.int, rfl, .inr (SqT.of ha), ((ns.map V.int).length : Nat), rfl, by rw [List.length_map]; omega, by rw [List.length_map]; omega, fun D nD => ?_⟩
    refine lc_range (lo := 0) (n := (ns.map V.int).length) (fun i H' => ∃ H0, Same H H0 ∧ H0 D = none ∧ H' = upd H0 D (.lst (((dotz ns ms).take i).map V.int))) ⟨H, Same.refl _, nD, rfl⟩ (fun i H' hi hP => ?_) (fun H' hP => ?_)
    · obtain ⟨H0, s0, n0, rfl⟩ := hP
      have s1 := s0.trans (same_upd (o := .lst (((dotz ns ms).take i).map V.int)) n0)
      rw [List.length_map] at hi
      have hn : ns[i]? = some ns[i] := List.getElem?_eq_getElem hi
      have hm' : ms[i]? = some (ms[i]'(by omega)) := List.getElem?_eq_getElem (by omega)
      have e0 : (0 : Int) + (i : Int) = ((i : Nat) : Int) := Int.zero_add _
      rw [e0]
      refine ⟨rfl, ?_⟩
      unfold tYes
      refine iteT ?_
      refine ⟨_, rfl, _, rfl, _, _, _, _, rfl, rfl, SqT.of (s1 _ _ ha), atI_nat (get_map hn), _, rfl, _, rfl, _, _, _, _, rfl, rfl, SqT.of (s1 _ _ hb), atI_nat (get_map hm'), _, _, rfl, rfl, cmul (B1 _ (List.mem_of_getElem? hn)) (B2 _ (List.mem_of_getElem? hm')), ((dotz ns ms).take i).map V.int, upd_same, ?_, H0, s0, n0, ?_⟩
      · rw [List.length_map, List.length_take]
        exact Nat.lt_of_le_of_lt (Nat.min_le_right _ _) (small1000 (by rw [dotz_len hl]; exact hm))
      · rw [take_get (dotz_get hn hm'), List.map_append, upd_upd]
        rfl
    · obtain ⟨H0, s0, n0, rfl⟩ := hP
      rw [List.length_map, show ns.length = (dotz ns ms).length from (dotz_len hl).symm, List.take_length]
      refine ⟨D, _, rfl, SqL.of upd_same, ?_⟩
      exact q _ (s0.trans (same_upd n0))

abbrev s_law : Stmt := topS 13
theorem sc_law : FnScope ["script", "pool", "size", "turn", "scale", "v", "w", "k"] ["script"] (defScope s_law) := ⟨rfl, rfl, rfl, by decide +kernel, rfl, by decide +kernel, by decide +kernel⟩
def spLaw (K : PySem.W.Frag) : Sp := fun vs H Q _ => ∃ (a : Addr) (ns : List Int), vs = [.ref a] ∧ SqL K H a (ns.map V.int) ∧ ∀ H', Q (.bl true) H'
theorem alike_of {H : Hp} {n : Nat} {i j : Int} (e : i = j) : Alike H n (.int i) (.int j) := by
  subst e
  exact .int n i
theorem Alike.same {H H' : Hp} {n : Nat} {x y : V} (s : Same H H') (h : Alike H n x y) : Alike H' n x y := by
  induction h with
  | int n i => exact .int n i
  | bl n b => exact .bl n b
  | non n => exact .non n
  | tup ha hb hl hm h ih => exact .tup (s _ _ ha) (s _ _ hb) hl hm ih
  | lst ha hb hl hm h ih => exact .lst (s _ _ ha) (s _ _ hb) hl hm ih
/-- a comprehension over range whose turn draws: what it leaves -/
def Dr (p : Addr) (H : Hp) (D : Addr) (B : Nat) (i : Nat) (H' : Hp) : Prop := (∃ q, Plq H' p q ∧ q ≠ D) ∧ Keep p H H' ∧ ∃ ns : List Int, H' D = some (.lst (ns.map V.int)) ∧ ns.length = i ∧ ∀ n ∈ ns, n.natAbs < 2 ^ B
theorem dr0 {p D : Addr} {H : Hp} {B : Nat} (hp : Pl H p) (nD : H D = none) : Dr p H D B 0 (upd H D (.lst [])) := by
  obtain ⟨q, hq⟩ := hp.q
  exact ⟨⟨q, hq.same (same_upd nD), (hq.ne_free nD).2⟩, Same.keep (same_upd nD), [], upd_same, rfl, fun n h => nomatch h⟩
theorem dr_step {p D : Addr} {H H' H2 : Hp} {B i : Nat} {n : Int} (nD : H D = none) (hP : Pl H p) (h : Dr p H D B i H') (hB : But p H' H2) (P2 : Pl H2 p) (hn : n.natAbs < 2 ^ B) :
    ∃ acc, H2 D = some (.lst acc) ∧ acc.length = i ∧ Dr p H D B (i + 1) (upd H2 D (.lst (acc ++ [.int n]))) := by
  obtain ⟨⟨q, hq, qD⟩, K1, ns, e, hl, hb⟩ := h
  have ne : D ≠ p := by
    obtain ⟨q0, h0⟩ := hP.q
    exact (h0.ne_free nD).1.symm
  refine ⟨ns.map V.int, (hB.1 D ne).trans e, by rw [List.length_map]; exact hl, ⟨q, (hq.but hB P2).upd ne.symm qD, qD⟩, ?_, ns ++ [n], ?_, ?_, ?_⟩
  · intro x o hx ho
    have hxD : x ≠ D := ne_of_none ho nD
    rw [upd_ne hxD]
    exact hB.keep _ _ hx (K1 _ _ hx ho)
  · rw [upd_same, List.map_append]
    rfl
  · rw [List.length_append, hl]
    rfl
  · intro m hm
    rcases List.mem_append.mp hm with h | h
    · exact hb m h
    · rw [List.mem_singleton.mp h]
      exact hn
theorem ok_law {f : Addr} {fd : FuncData} {k : Nat} (F : Fun K "law" "law" s_law f fd) (Z : Glb mg)
    (C_law_pool : Call P w K mg base k "_law_pool" ["script"] (spPool K))
    (C_law_draw : Call P w K mg base k "_law_draw" ["pool", "many"] spDraw)
    (C_law_same : Call P w K mg base k "_law_same" ["actual", "due"] (spSame 1))
    (Cdot : Call P w K mg base k "dot" ["v", "w"] spDot)
    (C_law_dot : Call P w K mg base k "_law_dot" ["v", "w"] spDot)
    (Cprimitive : Call P w K mg base k "primitive" ["v"] spPrim)
    (C_law_prim : Call P w K mg base k "_law_prim" ["v"] spPrim) : FnOk P w K mg base CX0 (k + 1) f fd ["script"] (spLaw K) := by
  refine F.ok sc_law (fun vs H Q E h => ?_) (fun cdv A outer s H vs Q E hr h => ?_)
  · obtain ⟨a, ns, rfl, _⟩ := h
    rfl
  · obtain ⟨sa, ns, rfl, hS, q⟩ := h
    refine ⟨_, (pss_cons (ps_set (i := 1) sc_law.nd rfl (.inr rfl) (pe_call C_law_pool.G hr (by rfl) C_law_pool.m C_law_pool.kp C_law_pool.b .nil pass0 (pa_cons (pv 0) pa_nil)))
      (pss_cons (ps_set (i := 2) sc_law.nd rfl (.inl rfl) (pe_op op_add pe_int (pe_call C_law_draw.G hr (by rfl) C_law_draw.m C_law_draw.kp C_law_draw.b .nil pass0 (pa_cons (pv 1) (pa_cons pe_int pa_nil)))))
      (pss_cons (ps_for PassesOwn.never rfl (pi_range1 rfl Z.m_range (pa_cons pe_int pa_nil)) (pg_name (i := 3) sc_law.nd rfl (.inl rfl)) (pss_cons (ps_set (i := 4) sc_law.nd rfl (.inr rfl) (pe_ix (r := rIxL K) ix_list (pe_lst (pa_cons pe_int (pa_cons pe_int (pa_cons (pe_un un_neg pe_int) (pa_cons pe_int (pa_cons (pe_op op_pow pe_int pe_int) pa_nil)))))) (pe_call C_law_draw.G hr (by rfl) C_law_draw.m C_law_draw.kp C_law_draw.b .nil pass0 (pa_cons (pv 1) (pa_cons pe_int pa_nil))) (fun _ _ => rfl)))
      (pss_cons (ps_set (i := 5) sc_law.nd rfl (.inl rfl) (pe_callTy call_tuple_of (by rfl) Z.m_tuple (by decide +kernel) (pa_cons (pe_lc (own := [("k", 7)]) (g := gName 7) (tt := tYes) (by rfl) sc_law.nd (pi_range1 rfl Z.m_range (pa_cons (pv 2) pa_nil)) (blkOk_by (own := [("k", 7)]) (N := ["script", "pool", "size", "turn", "scale", "v", "w", "k"]) (sc := defScope s_law) (by decide +kernel)) (fun _ _ _ _ _ => (pg_name (i := 7) sc_law.nd rfl (.inl rfl))) (fun _ _ _ _ _ => pts_nil) (fun _ _ _ _ _ => (pe_op op_mulW (pe_op op_sub (pe_call C_law_draw.G hr (by rfl) C_law_draw.m C_law_draw.kp C_law_draw.b .nil pass0 (pa_cons (pv 1) (pa_cons pe_int pa_nil))) pe_int) (pv 4)))) pa_nil)))
      (pss_cons (ps_set (i := 6) sc_law.nd rfl (.inl rfl) (pe_callTy call_tuple_of (by rfl) Z.m_tuple (by decide +kernel) (pa_cons (pe_lc (own := [("k", 7)]) (g := gName 7) (tt := tYes) (by rfl) sc_law.nd (pi_range1 rfl Z.m_range (pa_cons (pv 2) pa_nil)) (blkOk_by (own := [("k", 7)]) (N := ["script", "pool", "size", "turn", "scale", "v", "w", "k"]) (sc := defScope s_law) (by decide +kernel)) (fun _ _ _ _ _ => (pg_name (i := 7) sc_law.nd rfl (.inl rfl))) (fun _ _ _ _ _ => pts_nil) (fun _ _ _ _ _ => (pe_op op_sub (pe_call C_law_draw.G hr (by rfl) C_law_draw.m C_law_draw.kp C_law_draw.b .nil pass0 (pa_cons (pv 1) (pa_cons pe_int pa_nil))) pe_int))) pa_nil)))
      (pss_one (ps_if (PW.pt (pw_or (pt_not (pt_val (pe_call C_law_same.G hr (by rfl) C_law_same.m C_law_same.kp C_law_same.b .nil pass0 (pa_cons (pe_call Cdot.G hr (by rfl) Cdot.m Cdot.kp Cdot.b .nil pass0 (pa_cons (pv 5) (pa_cons (pv 6) pa_nil))) (pa_cons (pe_call C_law_dot.G hr (by rfl) C_law_dot.m C_law_dot.kp C_law_dot.b .nil pass0 (pa_cons (pv 5) (pa_cons (pv 6) pa_nil))) pa_nil))))) (pw_or (pt_not (pt_val (pe_call C_law_same.G hr (by rfl) C_law_same.m C_law_same.kp C_law_same.b .nil pass0 (pa_cons (pe_call Cprimitive.G hr (by rfl) Cprimitive.m Cprimitive.kp Cprimitive.b .nil pass0 (pa_cons (pv 5) pa_nil)) (pa_cons (pe_call C_law_prim.G hr (by rfl) C_law_prim.m C_law_prim.kp C_law_prim.b .nil pass0 (pa_cons (pv 5) pa_nil)) pa_nil))))) (pw_or1 (pt_not (pt_val (pe_call C_law_same.G hr (by rfl) C_law_same.m C_law_same.kp C_law_same.b .nil pass0 (pa_cons (pe_call Cprimitive.G hr (by rfl) Cprimitive.m Cprimitive.kp Cprimitive.b .nil pass0 (pa_cons (pv 6) pa_nil)) (pa_cons (pe_call C_law_prim.G hr (by rfl) C_law_prim.m C_law_prim.kp C_law_prim.b .nil pass0 (pa_cons (pv 6) pa_nil)) pa_nil))))))))) (pss_one ps_never) pss_nil))))))
      (pss_one (ps_ret (pe_call C_law_same.G hr (by rfl) C_law_same.m C_law_same.kp C_law_same.b .nil pass0 (pa_cons (pe_call Cprimitive.G hr (by rfl) Cprimitive.m Cprimitive.kp Cprimitive.b .nil pass0 (pa_cons (pe_op op_repA (pe_tup (pa_cons pe_int pa_nil)) (pv 2)) pa_nil)) (pa_cons (pe_op op_repA (pe_tup (pa_cons pe_int pa_nil)) (pv 2)) pa_nil)))))))), ?_⟩
    refine ⟨_, rfl, sa, ns, rfl, hS, fun H1 p s1 np hP => ?_⟩
    -- size
    refine ⟨_, rfl, p, _, rfl, by decide, by decide, hP, fun v0 H2 l0 u0 P2 B2 => ⟨_, _, rfl, rfl, ?_⟩⟩
    refine ⟨3, rfl, by decide, by decide, ?_⟩
    refine for_range (lo := 0) (n := 3) (fun i σ H' => Pl H' p ∧ ∃ y3 y4 y5 y6 : Option V, σ = [some (.ref sa), some (.ref p), some (.int (1 + v0)), y3, y4, y5, y6, none]) ⟨P2, _, _, _, _, rfl⟩ (fun i σ H' hi hW => ?_) (fun σ H' hW => ?_)
    · obtain ⟨P3, y3, y4, y5, y6, rfl⟩ := hW
      -- scale
      refine ⟨_, rfl, _, _, rfl, rfl, ⟨by decide, by decide, by decide⟩, Nat.le_of_lt (small1000 (show 5 ≤ 1000 by decide)), fun l nl => ?_⟩
      refine ⟨_, rfl, p, _, rfl, by decide, by decide, P3.same (same_upd nl), fun v H4 l4 u4 P4 B4 => ?_⟩
      have lp : l ≠ p := by
        obtain ⟨q0, h0⟩ := P3.q
        exact (h0.ne_free nl).1.symm
      have hl := (B4.1 l lp).trans upd_same
      obtain ⟨sc, hat, hsc⟩ : ∃ sc : Int, atI [V.int 1, V.int 6, V.int (-4), V.int 0, V.int ((10 : Int) ^ (12 : Int).toNat)] v = some (.int sc) ∧ sc.natAbs < 2 ^ 41 := by
        have hv : v = 0 ∨ v = 1 ∨ v = 2 ∨ v = 3 ∨ v = 4 := by omega
        rcases hv with rfl | rfl | rfl | rfl | rfl
        · exact ⟨_, atI_nat (j := 0) rfl, by decide⟩
        · exact ⟨_, atI_nat (j := 1) rfl, by decide⟩
        · exact ⟨_, atI_nat (j := 2) rfl, by decide⟩
        · exact ⟨_, atI_nat (j := 3) rfl, by decide⟩
        · exact ⟨_, atI_nat (j := 4) rfl, by decide⟩
      refine ⟨_, _, _, _, rfl, rfl, SqL.of hl, hat, ?_⟩
      -- v
      refine ⟨_, rfl, _, rfl, by omega, by omega, fun D nD => ?_⟩
      refine lc_range (lo := 0) (n := (1 + v0).toNat) (Dr p H4 D 50) (dr0 P4 nD) (fun i H5 hi hP => ?_) (fun H5 hP => ?_)
      · refine ⟨rfl, ?_⟩
        unfold tYes
        refine iteT ?_
        obtain ⟨q0, hq0, _⟩ := hP.1
        refine ⟨_, rfl, p, _, rfl, by decide, by decide, hq0.pl, fun n H6 l6 u6 P6 B6 => ⟨_, _, rfl, rfl, _, rfl, _, _, rfl, rfl, ?_⟩⟩
        have hn : (n - 6).natAbs < 2 ^ 5 := by omega
        refine ⟨cmul hn hsc, ?_⟩
        obtain ⟨acc, h1, h2, h3⟩ := dr_step nD P4 hP B6 P6 (up_pow (mul_pow hn hsc) (by decide : 5 + 41 ≤ 50))
        exact ⟨acc, h1, small1000 (by omega), h3⟩
      obtain ⟨⟨q5, hq5, q5D⟩, K5, vs, eD, hlen, hB⟩ := hP
      refine ⟨D, _, rfl, .inl ⟨SqL.of eD, fun tv ntv => ?_⟩⟩
      have Pv := hq5.pl.same (same_upd (o := .tup (vs.map V.int)) ntv)
      have V7 : Vc (upd H5 tv (.tup (vs.map V.int))) tv vs := upd_same
      generalize upd H5 tv (.tup (vs.map V.int)) = H7 at *
      -- w
      refine ⟨_, rfl, _, rfl, by omega, by omega, fun D2 nD2 => ?_⟩
      refine lc_range (lo := 0) (n := (1 + v0).toNat) (Dr p H7 D2 50) (dr0 Pv nD2) (fun i H8 hi hP => ?_) (fun H8 hP => ?_)
      · refine ⟨rfl, ?_⟩
        unfold tYes
        refine iteT ?_
        obtain ⟨q0, hq0, _⟩ := hP.1
        refine ⟨_, rfl, p, _, rfl, by decide, by decide, hq0.pl, fun n H9 l9 u9 P9 B9 => ⟨_, _, rfl, rfl, ?_⟩⟩
        obtain ⟨acc, h1, h2, h3⟩ := dr_step (n := n - 1000) nD2 Pv hP B9 P9 (by omega)
        exact ⟨acc, h1, small1000 (by omega), h3⟩
      obtain ⟨⟨q8, hq8, q8D⟩, K8, ws, eD2, hlen2, hB2⟩ := hP
      refine ⟨D2, _, rfl, .inl ⟨SqL.of eD2, fun tw ntw => ?_⟩⟩
      have Pw := hq8.pl.same (same_upd (o := .tup (ws.map V.int)) ntw)
      have W0 : Vc (upd H8 tw (.tup (ws.map V.int))) tw ws := upd_same
      have V0 : Vc (upd H8 tw (.tup (ws.map V.int))) tv vs := (V7.keep Pv K8).same (same_upd ntw)
      generalize upd H8 tw (.tup (ws.map V.int)) = H10 at *
      have L1 : vs.length ≤ 1000 := by omega
      have L2 : ws.length ≤ 1000 := by omega
      have bv : ∀ n ∈ vs, n.natAbs < 2 ^ 299 := fun n h => up_pow (hB n h) (by decide)
      have bw : ∀ n ∈ ws, n.natAbs < 2 ^ 299 := fun n h => up_pow (hB2 n h) (by decide)
      -- dot
      refine ⟨_, rfl, _, rfl, tv, tw, vs, ws, rfl, V0, W0, by omega, L1, bv, bw, fun H11 s11 => ?_⟩
      have V1 := V0.same s11
      have W1 := W0.same s11
      refine ⟨_, rfl, _, rfl, tv, tw, vs, ws, rfl, V1, W1, by omega, L1, bv, bw, fun H12 s12 => ?_⟩
      have V2 := V1.same s12
      have W2 := W1.same s12
      refine ⟨_, _, rfl, .int 1 _, true, rfl, iteF ?_⟩
      -- primitive(v)
      refine ⟨_, rfl, tv, vs, rfl, V2, L1, bv, fun H13 r1 s13 R1 => ?_⟩
      refine ⟨_, rfl, tv, vs, rfl, V2.same s13, L1, bv, fun H14 r2 s14 R2 => ?_⟩
      refine ⟨_, _, rfl, vc_alike 0 (R1.same s14) R2 (by rw [prim_len]; exact L1), true, rfl, iteF ?_⟩
      have W3 := (W2.same s13).same s14
      refine ⟨_, rfl, tw, ws, rfl, W3, L2, bw, fun H15 r3 s15 R3 => ?_⟩
      refine ⟨_, rfl, tw, ws, rfl, W3.same s15, L2, bw, fun H16 r4 s16 R4 => ?_⟩
      refine ⟨_, _, rfl, vc_alike 0 (R3.same s16) R4 (by rw [prim_len]; exact L2), true, rfl, iteF ?_⟩
      exact ⟨(((((Pw.same s11).same s12).same s13).same s14).same s15).same s16, _, _, _, _, rfl⟩
    · obtain ⟨P3, y3, y4, y5, y6, rfl⟩ := hW
      -- (0,) * size
      have z1 : ∀ (H : Hp) (Q : VK) (a : Addr), H a = some (.tup [V.int 0]) → (∀ (H' : Hp) (b : Addr), Same H H' → Vc H' b (List.replicate (1 + v0).toNat 0) → Q (.ref b) H') → rRepA K (.ref a) (.int (1 + v0)) H Q := by
        intro H Q a ha q
        by_cases h1 : v0 = 0
        · subst h1
          exact .inr ⟨a, _, rfl, rfl, SqT.of ha, q _ _ (Same.refl _) ha⟩
        · refine .inl ⟨a, _, _, rfl, rfl, SqT.of ha, (fun z => nomatch z), by omega, by omega, (by show 1 ≤ 1000; decide), fun b nb => q _ _ (same_upd nb) ?_⟩
          unfold Vc
          rw [upd_same]
          have : ∀ n : Nat, (List.replicate n [V.int 0]).flatten = (List.replicate n (0 : Int)).map V.int := by
            intro n
            induction n with
            | zero => rfl
            | succ n ih =>
              rw [List.replicate_succ, List.replicate_succ, List.flatten_cons, ih]
              rfl
          rw [this]
      refine ⟨by show 1 ≤ sizeLine; exact Nat.le_of_lt (small1000 (by decide)), fun a na => ⟨_, rfl, z1 _ _ _ upd_same fun H4 b s4 Zb => ?_⟩⟩
      have Lz : (List.replicate (1 + v0).toNat (0 : Int)).length ≤ 1000 := by rw [List.length_replicate]; omega
      refine ⟨b, _, rfl, Zb, Lz, fun n h => by rw [List.eq_of_mem_replicate h]; decide, fun H5 r s5 R5 => ?_⟩
      refine ⟨by show 1 ≤ sizeLine; exact Nat.le_of_lt (small1000 (by decide)), fun a2 na2 => ⟨_, rfl, z1 _ _ _ upd_same fun H6 b2 s6 Zb2 => ?_⟩⟩
      have ez : prim (List.replicate (1 + v0).toNat (0 : Int)) = List.replicate (1 + v0).toNat 0 := by
        apply if_pos
        unfold gl
        have : ∀ n : Nat, (List.replicate n (0 : Int)).foldl g2 0 = 0 := by
          intro n
          induction n with
          | zero => rfl
          | succ n ih => exact ih
        exact this _
      rw [ez] at R5
      exact ⟨_, _, rfl, vc_alike 0 ((R5.same (same_upd na2)).same s6) Zb2 Lz, q _⟩

end
/-! ### what the top has written -/
theorem all_mk {l : PySem.W.OpenLaw} {w : World} {K : PySem.W.Frag} {h : Heap} {mg : Str → Option Value} {fa f__law_same f__law_gcd f__law_spread f__law_draw f__law_pool f_dot f__law_dot f_common_divisor f_primitive f__law_prim f_law : Addr} (X : K.In h) (G : h.Ns mainGlobals mg) (hfa : mg "law" = some (.ref fa))
    {od__law_same an__law_same od__law_gcd an__law_gcd od__law_spread an__law_spread od__law_draw an__law_draw od__law_pool an__law_pool od_dot an_dot od__law_dot an__law_dot od_common_divisor an_common_divisor od_primitive an_primitive od__law_prim an__law_prim od_law an_law : Option Addr} {sl__law_same sl__law_gcd sl__law_spread sl__law_draw sl__law_pool sl_dot sl__law_dot sl_common_divisor sl_primitive sl__law_prim sl_law : Array (Option Value)} {oc__law_same kV__law_same dc__law_same pm__law_same cd__law_same ct__law_same oc__law_gcd kV__law_gcd dc__law_gcd pm__law_gcd cd__law_gcd ct__law_gcd oc__law_spread kV__law_spread dc__law_spread pm__law_spread cd__law_spread ct__law_spread oc__law_draw kV__law_draw dc__law_draw pm__law_draw cd__law_draw ct__law_draw oc__law_pool kV__law_pool dc__law_pool pm__law_pool cd__law_pool ct__law_pool oc_dot kV_dot dc_dot pm_dot cd_dot ct_dot oc__law_dot kV__law_dot dc__law_dot pm__law_dot cd__law_dot ct__law_dot oc_common_divisor kV_common_divisor dc_common_divisor pm_common_divisor cd_common_divisor ct_common_divisor oc_primitive kV_primitive dc_primitive pm_primitive cd_primitive ct_primitive oc__law_prim kV__law_prim dc__law_prim pm__law_prim cd__law_prim ct__law_prim oc_law kV_law dc_law pm_law cd_law ct_law : Value}
    (a__law_same : PySem.W.nsIn K mainGlobals "_law_same" = some (some (.ref f__law_same))) (l__law_same : K.lookup f__law_same = some ⟨oc__law_same, od__law_same, .func (PySem.W.fnOf "_law_same" "_law_same" (defArgs s__law_same) (defBody s__law_same) (defScope s__law_same) .none kV__law_same dc__law_same pm__law_same an__law_same cd__law_same ct__law_same), sl__law_same⟩) (c__law_same : PySem.W.codeIn K cd__law_same "_law_same" = true) (k__law_same : PySem.W.keepIn K (.ref f__law_same) = true)
    (a__law_gcd : PySem.W.nsIn K mainGlobals "_law_gcd" = some (some (.ref f__law_gcd))) (l__law_gcd : K.lookup f__law_gcd = some ⟨oc__law_gcd, od__law_gcd, .func (PySem.W.fnOf "_law_gcd" "_law_gcd" (defArgs s__law_gcd) (defBody s__law_gcd) (defScope s__law_gcd) .none kV__law_gcd dc__law_gcd pm__law_gcd an__law_gcd cd__law_gcd ct__law_gcd), sl__law_gcd⟩) (c__law_gcd : PySem.W.codeIn K cd__law_gcd "_law_gcd" = true) (k__law_gcd : PySem.W.keepIn K (.ref f__law_gcd) = true)
    (a__law_spread : PySem.W.nsIn K mainGlobals "_law_spread" = some (some (.ref f__law_spread))) (l__law_spread : K.lookup f__law_spread = some ⟨oc__law_spread, od__law_spread, .func (PySem.W.fnOf "_law_spread" "_law_spread" (defArgs s__law_spread) (defBody s__law_spread) (defScope s__law_spread) .none kV__law_spread dc__law_spread pm__law_spread an__law_spread cd__law_spread ct__law_spread), sl__law_spread⟩) (c__law_spread : PySem.W.codeIn K cd__law_spread "_law_spread" = true) (k__law_spread : PySem.W.keepIn K (.ref f__law_spread) = true)
    (a__law_draw : PySem.W.nsIn K mainGlobals "_law_draw" = some (some (.ref f__law_draw))) (l__law_draw : K.lookup f__law_draw = some ⟨oc__law_draw, od__law_draw, .func (PySem.W.fnOf "_law_draw" "_law_draw" (defArgs s__law_draw) (defBody s__law_draw) (defScope s__law_draw) .none kV__law_draw dc__law_draw pm__law_draw an__law_draw cd__law_draw ct__law_draw), sl__law_draw⟩) (c__law_draw : PySem.W.codeIn K cd__law_draw "_law_draw" = true) (k__law_draw : PySem.W.keepIn K (.ref f__law_draw) = true)
    (a__law_pool : PySem.W.nsIn K mainGlobals "_law_pool" = some (some (.ref f__law_pool))) (l__law_pool : K.lookup f__law_pool = some ⟨oc__law_pool, od__law_pool, .func (PySem.W.fnOf "_law_pool" "_law_pool" (defArgs s__law_pool) (defBody s__law_pool) (defScope s__law_pool) .none kV__law_pool dc__law_pool pm__law_pool an__law_pool cd__law_pool ct__law_pool), sl__law_pool⟩) (c__law_pool : PySem.W.codeIn K cd__law_pool "_law_pool" = true) (k__law_pool : PySem.W.keepIn K (.ref f__law_pool) = true)
    (a_dot : PySem.W.nsIn K mainGlobals "dot" = some (some (.ref f_dot))) (l_dot : K.lookup f_dot = some ⟨oc_dot, od_dot, .func (PySem.W.fnOf "dot" "dot" (defArgs s_dot) (defBody s_dot) (defScope s_dot) .none kV_dot dc_dot pm_dot an_dot cd_dot ct_dot), sl_dot⟩) (c_dot : PySem.W.codeIn K cd_dot "dot" = true) (k_dot : PySem.W.keepIn K (.ref f_dot) = true)
    (a__law_dot : PySem.W.nsIn K mainGlobals "_law_dot" = some (some (.ref f__law_dot))) (l__law_dot : K.lookup f__law_dot = some ⟨oc__law_dot, od__law_dot, .func (PySem.W.fnOf "_law_dot" "_law_dot" (defArgs s__law_dot) (defBody s__law_dot) (defScope s__law_dot) .none kV__law_dot dc__law_dot pm__law_dot an__law_dot cd__law_dot ct__law_dot), sl__law_dot⟩) (c__law_dot : PySem.W.codeIn K cd__law_dot "_law_dot" = true) (k__law_dot : PySem.W.keepIn K (.ref f__law_dot) = true)
    (a_common_divisor : PySem.W.nsIn K mainGlobals "common_divisor" = some (some (.ref f_common_divisor))) (l_common_divisor : K.lookup f_common_divisor = some ⟨oc_common_divisor, od_common_divisor, .func (PySem.W.fnOf "common_divisor" "common_divisor" (defArgs s_common_divisor) (defBody s_common_divisor) (defScope s_common_divisor) .none kV_common_divisor dc_common_divisor pm_common_divisor an_common_divisor cd_common_divisor ct_common_divisor), sl_common_divisor⟩) (c_common_divisor : PySem.W.codeIn K cd_common_divisor "common_divisor" = true) (k_common_divisor : PySem.W.keepIn K (.ref f_common_divisor) = true)
    (a_primitive : PySem.W.nsIn K mainGlobals "primitive" = some (some (.ref f_primitive))) (l_primitive : K.lookup f_primitive = some ⟨oc_primitive, od_primitive, .func (PySem.W.fnOf "primitive" "primitive" (defArgs s_primitive) (defBody s_primitive) (defScope s_primitive) .none kV_primitive dc_primitive pm_primitive an_primitive cd_primitive ct_primitive), sl_primitive⟩) (c_primitive : PySem.W.codeIn K cd_primitive "primitive" = true) (k_primitive : PySem.W.keepIn K (.ref f_primitive) = true)
    (a__law_prim : PySem.W.nsIn K mainGlobals "_law_prim" = some (some (.ref f__law_prim))) (l__law_prim : K.lookup f__law_prim = some ⟨oc__law_prim, od__law_prim, .func (PySem.W.fnOf "_law_prim" "_law_prim" (defArgs s__law_prim) (defBody s__law_prim) (defScope s__law_prim) .none kV__law_prim dc__law_prim pm__law_prim an__law_prim cd__law_prim ct__law_prim), sl__law_prim⟩) (c__law_prim : PySem.W.codeIn K cd__law_prim "_law_prim" = true) (k__law_prim : PySem.W.keepIn K (.ref f__law_prim) = true)
    (a_law : PySem.W.nsIn K mainGlobals "law" = some (some (.ref f_law))) (l_law : K.lookup f_law = some ⟨oc_law, od_law, .func (PySem.W.fnOf "law" "law" (defArgs s_law) (defBody s_law) (defScope s_law) .none kV_law dc_law pm_law an_law cd_law ct_law), sl_law⟩) (c_law : PySem.W.codeIn K cd_law "law" = true) (k_law : PySem.W.keepIn K (.ref f_law) = true)
    (z_len : PySem.W.nsIn K mainGlobals "len" = some none) (z_range : PySem.W.nsIn K mainGlobals "range" = some none) (z_int : PySem.W.nsIn K mainGlobals "int" = some none) (z_list : PySem.W.nsIn K mainGlobals "list" = some none) (z_tuple : PySem.W.nsIn K mainGlobals "tuple" = some none) (z_bool : PySem.W.nsIn K mainGlobals "bool" = some none) (z_isinstance : PySem.W.nsIn K mainGlobals "isinstance" = some none) (z_abs : PySem.W.nsIn K mainGlobals "abs" = some none) (z_sum : PySem.W.nsIn K mainGlobals "sum" = some none) (z_zip : PySem.W.nsIn K mainGlobals "zip" = some none) (z_str : PySem.W.nsIn K mainGlobals "str" = some none) (z_gcd : PySem.W.nsIn K mainGlobals "gcd" = some (some (.builtin "math.gcd")))
    : ∃ fd : FuncData, (∀ (s : Shared) (v : Value), BindsTo s fd ⟨[v], []⟩ [("script", v)]) ∧ ∀ base : Heap, K.In base → base.Ns mainGlobals mg → FnOk l.prog w K mg base CX0 3 fa fd ["script"] (spLaw K) := by
  have e := hfa.symm.trans (PySem.W.mg_of X G a_law)
  cases e
  have F__law_same := fun_mk (st := s__law_same) l__law_same c__law_same k__law_same
  have b__law_same := F__law_same.binds (ps := ["actual", "due"]) fun _ _ _ _ _ _ us hl => match us, hl with | [_, _], _ => rfl
  have F__law_gcd := fun_mk (st := s__law_gcd) l__law_gcd c__law_gcd k__law_gcd
  have b__law_gcd := F__law_gcd.binds (ps := ["a", "b"]) fun _ _ _ _ _ _ us hl => match us, hl with | [_, _], _ => rfl
  have F__law_spread := fun_mk (st := s__law_spread) l__law_spread c__law_spread k__law_spread
  have b__law_spread := F__law_spread.binds (ps := ["cell"]) fun _ _ _ _ _ _ us hl => match us, hl with | [_], _ => rfl
  have F__law_draw := fun_mk (st := s__law_draw) l__law_draw c__law_draw k__law_draw
  have b__law_draw := F__law_draw.binds (ps := ["pool", "many"]) fun _ _ _ _ _ _ us hl => match us, hl with | [_, _], _ => rfl
  have F__law_pool := fun_mk (st := s__law_pool) l__law_pool c__law_pool k__law_pool
  have b__law_pool := F__law_pool.binds (ps := ["script"]) fun _ _ _ _ _ _ us hl => match us, hl with | [_], _ => rfl
  have F_dot := fun_mk (st := s_dot) l_dot c_dot k_dot
  have b_dot := F_dot.binds (ps := ["v", "w"]) fun _ _ _ _ _ _ us hl => match us, hl with | [_, _], _ => rfl
  have F__law_dot := fun_mk (st := s__law_dot) l__law_dot c__law_dot k__law_dot
  have b__law_dot := F__law_dot.binds (ps := ["v", "w"]) fun _ _ _ _ _ _ us hl => match us, hl with | [_, _], _ => rfl
  have F_common_divisor := fun_mk (st := s_common_divisor) l_common_divisor c_common_divisor k_common_divisor
  have b_common_divisor := F_common_divisor.binds (ps := ["v"]) fun _ _ _ _ _ _ us hl => match us, hl with | [_], _ => rfl
  have F_primitive := fun_mk (st := s_primitive) l_primitive c_primitive k_primitive
  have b_primitive := F_primitive.binds (ps := ["v"]) fun _ _ _ _ _ _ us hl => match us, hl with | [_], _ => rfl
  have F__law_prim := fun_mk (st := s__law_prim) l__law_prim c__law_prim k__law_prim
  have b__law_prim := F__law_prim.binds (ps := ["v"]) fun _ _ _ _ _ _ us hl => match us, hl with | [_], _ => rfl
  have F_law := fun_mk (st := s_law) l_law c_law k_law
  have Z : Glb mg := ⟨PySem.W.mg_none_of X G z_len, PySem.W.mg_none_of X G z_range, PySem.W.mg_none_of X G z_int, PySem.W.mg_none_of X G z_list, PySem.W.mg_none_of X G z_tuple, PySem.W.mg_none_of X G z_bool, PySem.W.mg_none_of X G z_isinstance, PySem.W.mg_none_of X G z_abs, PySem.W.mg_none_of X G z_sum, PySem.W.mg_none_of X G z_zip, PySem.W.mg_none_of X G z_str, PySem.W.mg_of X G z_gcd⟩
  refine ⟨PySem.W.fnOf "law" "law" (defArgs s_law) (defBody s_law) (defScope s_law) .none kV_law dc_law pm_law an_law cd_law ct_law, fun s v => .of_eq rfl, fun base _ _ => ?_⟩
  have C__law_pool_2 : Call l.prog w K mg base 2 "_law_pool" ["script"] (spPool K) := ⟨f__law_pool, _, ok_pool (k := 1) F__law_pool Z , PySem.W.mg_of X G a__law_pool, F__law_pool.kp, b__law_pool⟩
  have C__law_spread_1 : Call l.prog w K mg base 1 "_law_spread" ["cell"] spSpread := ⟨f__law_spread, _, ok_spread (k := 0) F__law_spread Z , PySem.W.mg_of X G a__law_spread, F__law_spread.kp, b__law_spread⟩
  have C__law_draw_2 : Call l.prog w K mg base 2 "_law_draw" ["pool", "many"] spDraw := ⟨f__law_draw, _, ok_draw (k := 1) F__law_draw Z C__law_spread_1, PySem.W.mg_of X G a__law_draw, F__law_draw.kp, b__law_draw⟩
  have S_same_0_1 := ok_same (P := l.prog) (w := w) (base := base) (k := 0) (n := 0) F__law_same Z (fun m e => absurd e (by omega)) (PySem.W.mg_of X G a__law_same) b__law_same
  have S_same_1_2 := ok_same (P := l.prog) (w := w) (base := base) (k := 1) (n := 1) F__law_same Z (fun m e => by cases e; exact S_same_0_1) (PySem.W.mg_of X G a__law_same) b__law_same
  have DS_same_1_2 : Call l.prog w K mg base 2 "_law_same" ["actual", "due"] (spSame 1) := ⟨f__law_same, _, S_same_1_2, PySem.W.mg_of X G a__law_same, F__law_same.kp, b__law_same⟩
  have C_dot_2 : Call l.prog w K mg base 2 "dot" ["v", "w"] spDot := ⟨f_dot, _, ok_dot (k := 1) F_dot Z , PySem.W.mg_of X G a_dot, F_dot.kp, b_dot⟩
  have C__law_dot_2 : Call l.prog w K mg base 2 "_law_dot" ["v", "w"] spDot := ⟨f__law_dot, _, ok_ldot (k := 1) F__law_dot Z , PySem.W.mg_of X G a__law_dot, F__law_dot.kp, b__law_dot⟩
  have C_common_divisor_1 : Call l.prog w K mg base 1 "common_divisor" ["v"] spCd := ⟨f_common_divisor, _, ok_cd (k := 0) F_common_divisor Z , PySem.W.mg_of X G a_common_divisor, F_common_divisor.kp, b_common_divisor⟩
  have C_primitive_2 : Call l.prog w K mg base 2 "primitive" ["v"] spPrim := ⟨f_primitive, _, ok_prim (k := 1) F_primitive Z C_common_divisor_1, PySem.W.mg_of X G a_primitive, F_primitive.kp, b_primitive⟩
  have C__law_gcd_1 : Call l.prog w K mg base 1 "_law_gcd" ["a", "b"] spGcd := ⟨f__law_gcd, _, ok_gcd (k := 0) F__law_gcd Z , PySem.W.mg_of X G a__law_gcd, F__law_gcd.kp, b__law_gcd⟩
  have C__law_prim_2 : Call l.prog w K mg base 2 "_law_prim" ["v"] spPrim := ⟨f__law_prim, _, ok_lprim (k := 1) F__law_prim Z C__law_gcd_1, PySem.W.mg_of X G a__law_prim, F__law_prim.kp, b__law_prim⟩
  exact ok_law (P := l.prog) (w := w) (base := base) (k := 2) F_law Z C__law_pool_2 C__law_draw_2 DS_same_1_2 C_dot_2 C__law_dot_2 C_primitive_2 C__law_prim_2
end HwP
open PySem PySem.W PyProof.Rows
set_option maxHeartbeats 0 in
theorem PySem.Challenge.cw_hullwright_k04_vectors_holds : PySem.Challenge.rw_hullwright_k04_vectors.Holds := by
  w_on; o_law; k_head; (case hw => w_witness2)
  k_fill
  refine L2.walk_of (l := PySem.Challenge.rw_hullwright_k04_vectors) (n := 63) (k := 3) (x := "script") (CX := fun _ => L2.CX0) (sp := fun w => HwP.spLaw _) rfl (by decide) rfl ⟨rfl, by decide, by decide⟩ (fun w h Y => PySem.W.kIn_of Y) ?F (fun _ _ a ns hl _ hS => ⟨a, ns, rfl, hS, fun _ => rfl⟩) (fun _ _ _ _ _ h => h)
  case F =>
    intro w mg fa h KX G hmg
    refine' HwP.all_mk KX G hmg (a__law_same := ?a__law_same) (l__law_same := ?l__law_same) (c__law_same := ?c__law_same) (k__law_same := ?k__law_same) (a__law_gcd := ?a__law_gcd) (l__law_gcd := ?l__law_gcd) (c__law_gcd := ?c__law_gcd) (k__law_gcd := ?k__law_gcd) (a__law_spread := ?a__law_spread) (l__law_spread := ?l__law_spread) (c__law_spread := ?c__law_spread) (k__law_spread := ?k__law_spread) (a__law_draw := ?a__law_draw) (l__law_draw := ?l__law_draw) (c__law_draw := ?c__law_draw) (k__law_draw := ?k__law_draw) (a__law_pool := ?a__law_pool) (l__law_pool := ?l__law_pool) (c__law_pool := ?c__law_pool) (k__law_pool := ?k__law_pool) (a_dot := ?a_dot) (l_dot := ?l_dot) (c_dot := ?c_dot) (k_dot := ?k_dot) (a__law_dot := ?a__law_dot) (l__law_dot := ?l__law_dot) (c__law_dot := ?c__law_dot) (k__law_dot := ?k__law_dot) (a_common_divisor := ?a_common_divisor) (l_common_divisor := ?l_common_divisor) (c_common_divisor := ?c_common_divisor) (k_common_divisor := ?k_common_divisor) (a_primitive := ?a_primitive) (l_primitive := ?l_primitive) (c_primitive := ?c_primitive) (k_primitive := ?k_primitive) (a__law_prim := ?a__law_prim) (l__law_prim := ?l__law_prim) (c__law_prim := ?c__law_prim) (k__law_prim := ?k__law_prim) (a_law := ?a_law) (l_law := ?l_law) (c_law := ?c_law) (k_law := ?k_law) (z_len := ?z_len) (z_range := ?z_range) (z_int := ?z_int) (z_list := ?z_list) (z_tuple := ?z_tuple) (z_bool := ?z_bool) (z_isinstance := ?z_isinstance) (z_abs := ?z_abs) (z_sum := ?z_sum) (z_zip := ?z_zip) (z_str := ?z_str) (z_gcd := ?z_gcd)
    (case a__law_same => k_is)
    (case l__law_same => k_is)
    (case c__law_same => k_is)
    (case k__law_same => k_is)
    (case a__law_gcd => k_is)
    (case l__law_gcd => k_is)
    (case c__law_gcd => k_is)
    (case k__law_gcd => k_is)
    (case a__law_spread => k_is)
    (case l__law_spread => k_is)
    (case c__law_spread => k_is)
    (case k__law_spread => k_is)
    (case a__law_draw => k_is)
    (case l__law_draw => k_is)
    (case c__law_draw => k_is)
    (case k__law_draw => k_is)
    (case a__law_pool => k_is)
    (case l__law_pool => k_is)
    (case c__law_pool => k_is)
    (case k__law_pool => k_is)
    (case a_dot => k_is)
    (case l_dot => k_is)
    (case c_dot => k_is)
    (case k_dot => k_is)
    (case a__law_dot => k_is)
    (case l__law_dot => k_is)
    (case c__law_dot => k_is)
    (case k__law_dot => k_is)
    (case a_common_divisor => k_is)
    (case l_common_divisor => k_is)
    (case c_common_divisor => k_is)
    (case k_common_divisor => k_is)
    (case a_primitive => k_is)
    (case l_primitive => k_is)
    (case c_primitive => k_is)
    (case k_primitive => k_is)
    (case a__law_prim => k_is)
    (case l__law_prim => k_is)
    (case c__law_prim => k_is)
    (case k__law_prim => k_is)
    (case a_law => k_is)
    (case l_law => k_is)
    (case c_law => k_is)
    (case k_law => k_is)
    (case z_len => k_is)
    (case z_range => k_is)
    (case z_int => k_is)
    (case z_list => k_is)
    (case z_tuple => k_is)
    (case z_bool => k_is)
    (case z_isinstance => k_is)
    (case z_abs => k_is)
    (case z_sum => k_is)
    (case z_zip => k_is)
    (case z_str => k_is)
    (case z_gcd => k_is)

