import PyProof.Rows.All
import Wide.All
import OpenK.AllK
import Wide.FinOn
import HandS.ForMost
import HandS.Wide
import HandS.Gcd
import HandS.IsInst
import HandS.Codes
import HandS.Zip
import HandS.Walk
import PyProof.WalksMore
import PyProof.ConsumeWalk
import KE.GoesMore
import KE.GoesEnum
import KE.GoesZip
import HandS.TupMul
import HandS.Conv
import HandS.WideBits
import HandS.TupAny
import HandS.Exc
import HandS.TryOnly
import HandS.ExcOwn
import HandS.WordsExc
import HandS.ExcIs
import PySem.Challenge.RW_hullwright_k07_linear_equations
set_option Elab.async false
set_option linter.all false
set_option maxRecDepth 100000
set_option maxHeartbeats 4000000

namespace Hw
/-- Euclid's loop, by its turn -/
def Fit (i A B : Nat) : Prop := (i = 0 ∧ A * B < 2 ^ 598) ∨ (1 ≤ i ∧ B < A ∧ A * B * 2 ^ (i - 1) < 2 ^ 598)
theorem fit0 {A B : Nat} (ha : A < 2 ^ 299) (hb : B < 2 ^ 299) : Fit 0 A B := by
  refine .inl ⟨rfl, ?_⟩
  have h : A * B < 2 ^ 299 * 2 ^ 299 := Nat.mul_lt_mul'' ha hb
  rwa [← Nat.pow_add] at h
theorem fit_step {i A B : Nat} (h : Fit i A B) (hb : B ≠ 0) : Fit (i + 1) B (A % B) := by
  have hr : A % B < B := Nat.mod_lt _ (Nat.pos_of_ne_zero hb)
  refine .inr ⟨by omega, hr, ?_⟩
  rcases h with ⟨rfl, h⟩ | ⟨hi, hlt, h⟩
  · have h1 : B * (A % B) ≤ B * A := Nat.mul_le_mul_left _ (Nat.mod_le _ _)
    rw [Nat.mul_comm B A] at h1
    show B * (A % B) * 2 ^ 0 < 2 ^ 598
    rw [Nat.pow_zero, Nat.mul_one]
    omega
  · obtain ⟨j, rfl⟩ : ∃ j, i = j + 1 := ⟨i - 1, by omega⟩
    show B * (A % B) * 2 ^ (j + 1) < 2 ^ 598
    have h2 : 2 * (A % B) ≤ A := by
      have e : B * (A / B) + A % B = A := Nat.div_add_mod A B
      have q : 1 ≤ A / B := Nat.div_pos (Nat.le_of_lt hlt) (Nat.pos_of_ne_zero hb)
      have m : B * 1 ≤ B * (A / B) := Nat.mul_le_mul_left _ q
      omega
    have h3 : B * (2 * (A % B)) ≤ B * A := Nat.mul_le_mul_left _ h2
    have h4 : B * (A % B) * 2 ^ (j + 1) = B * (2 * (A % B)) * 2 ^ j := by
      rw [Nat.pow_succ]
      simp only [Nat.mul_assoc, Nat.mul_left_comm, Nat.mul_comm]
    rw [h4]
    refine Nat.lt_of_le_of_lt (Nat.mul_le_mul_right _ h3) ?_
    rw [Nat.mul_comm B A]
    exact h
theorem fit_end {A B : Nat} (h : Fit 600 A B) : B = 0 := by
  rcases h with ⟨h, _⟩ | ⟨_, hlt, h⟩
  · omega
  · by_cases hb : B = 0
    · exact hb
    · exfalso
      have h1 : 1 ≤ A * B := Nat.mul_pos (by omega) (by omega)
      have h2 : 1 * 2 ^ (600 - 1) ≤ A * B * 2 ^ (600 - 1) := Nat.mul_le_mul_right _ h1
      have h3 : (2 : Nat) ^ 598 < 2 ^ (600 - 1) := Nat.pow_lt_pow_right (by decide) (by decide)
      omega
theorem gcd_turn (A B : Nat) : Nat.gcd B (A % B) = Nat.gcd A B := by
  rw [Nat.gcd_comm B, ← Nat.gcd_rec, Nat.gcd_comm]
/-- the greatest common divisor, an int -/
def g2 (a b : Int) : Int := ((Nat.gcd a.natAbs b.natAbs : Nat) : Int)
theorem g2_pos {a b : Int} (hb : b ≠ 0) : 0 < g2 a b := by
  unfold g2
  have : 0 < Nat.gcd a.natAbs b.natAbs := Nat.gcd_pos_of_pos_right _ (by omega)
  omega
theorem g2_nn0 (a b : Int) : 0 ≤ g2 a b := by
  unfold g2
  omega
theorem g2_le {a b : Int} (hb : b ≠ 0) : (g2 a b).natAbs ≤ b.natAbs := by
  unfold g2
  have : Nat.gcd a.natAbs b.natAbs ≤ b.natAbs := Nat.gcd_le_right _ (by omega)
  omega
/-- a fraction's two entries, b > 0 -/
def frN (a b : Int) : Int := a / g2 a b
def frD (a b : Int) : Int := b / g2 a b
theorem g2_dvd_l (a b : Int) : g2 a b ∣ a := by
  unfold g2
  exact Int.ofNat_dvd_left.mpr (Nat.gcd_dvd_left _ _)
theorem g2_dvd_r (a b : Int) : g2 a b ∣ b := by
  unfold g2
  exact Int.ofNat_dvd_left.mpr (Nat.gcd_dvd_right _ _)
theorem frD_pos {a b : Int} (hb : 0 < b) : 0 < frD a b := by
  have g := g2_pos (a := a) (b := b) (by omega)
  exact Int.ediv_pos_of_pos_of_dvd hb (Int.le_of_lt g) (g2_dvd_r a b)
theorem ediv_abs {a g : Int} (hg : 0 < g) : (a / g).natAbs ≤ a.natAbs := by
  have h1 := Int.mul_ediv_self_le (x := a) (k := g) (by omega)
  have h2 := Int.lt_mul_ediv_self_add (x := a) (k := g) hg
  generalize hq : a / g = q at *
  by_cases c : 0 ≤ q
  · have : 1 * q ≤ g * q := Int.mul_le_mul_of_nonneg_right (by omega) c
    omega
  · have h3 : g * q ≤ g * (-1) + (q + 1) := by
      have : g * (q + 1) ≤ 1 * (q + 1) := Int.mul_le_mul_of_nonpos_right (by omega) (by omega)
      rw [Int.mul_add, Int.mul_one, Int.one_mul] at this
      omega
    omega
theorem frN_abs {a b : Int} (hb : b ≠ 0) : (frN a b).natAbs ≤ a.natAbs := ediv_abs (g2_pos hb)
theorem frD_abs {a b : Int} (hb : b ≠ 0) : (frD a b).natAbs ≤ b.natAbs := ediv_abs (g2_pos hb)
theorem mul_pow {x y : Int} {a b : Nat} (ha : x.natAbs < 2 ^ a) (hb : y.natAbs < 2 ^ b) : (x * y).natAbs < 2 ^ (a + b) := by
  rw [Int.natAbs_mul, Nat.pow_add]
  exact Nat.mul_lt_mul'' ha hb
theorem add_pow {x y : Int} {a : Nat} (ha : x.natAbs < 2 ^ a) (hb : y.natAbs < 2 ^ a) : (x + y).natAbs < 2 ^ (a + 1) := by
  rw [Nat.pow_succ]
  omega
theorem sub_pow {x y : Int} {a : Nat} (ha : x.natAbs < 2 ^ a) (hb : y.natAbs < 2 ^ a) : (x - y).natAbs < 2 ^ (a + 1) := by
  rw [Nat.pow_succ]
  omega
theorem up_pow {x : Nat} {a b : Nat} (h : x < 2 ^ a) (l : a ≤ b) : x < 2 ^ b := Nat.lt_of_lt_of_le h (Nat.pow_le_pow_right (by decide) l)
/-- the sign of an int -/
def sg (a : Int) : Int := if 0 < a then 1 else if a < 0 then -1 else 0
theorem sg_frN {a b : Int} (hb : b ≠ 0) : sg (frN a b) = sg a := by
  have g := g2_pos (a := a) hb
  obtain ⟨c, hc⟩ := g2_dvd_l a b
  have e : frN a b = c := by
    unfold frN
    generalize g2 a b = k at *
    subst hc
    exact Int.mul_ediv_cancel_left _ (by omega)
  rw [e]
  generalize g2 a b = k at *
  subst hc
  unfold sg
  have p1 : 0 < k * c ↔ 0 < c := ⟨fun h => Int.pos_of_mul_pos_right h (by omega), fun h => Int.mul_pos g h⟩
  have p2 : k * c < 0 ↔ c < 0 := by
    constructor
    · intro h
      by_cases q : c < 0
      · exact q
      · have := Int.mul_nonneg (Int.le_of_lt g) (show 0 ≤ c by omega)
        omega
    · intro h
      exact Int.mul_neg_of_pos_of_neg g h
  simp only [p1, p2]
end Hw

/-! ### pivots of a matrix, by the vectors on which all its rows vanish -/
namespace Rk
def sm : Nat → (Nat → Int) → Int
  | 0, _ => 0
  | n + 1, f => sm n f + f n
theorem sm_congr {f g : Nat → Int} : ∀ {n : Nat}, (∀ j, j < n → f j = g j) → sm n f = sm n g
  | 0, _ => rfl
  | n + 1, h => by unfold sm; rw [sm_congr fun j hj => h j (by omega), h n (by omega)]
theorem sm_mul {f : Nat → Int} {c : Int} : ∀ {n : Nat}, sm n (fun j => c * f j) = c * sm n f
  | 0 => by unfold sm; omega
  | n + 1 => by unfold sm; rw [sm_mul, Int.mul_add]
theorem sm_sub {f g : Nat → Int} : ∀ {n : Nat}, sm n (fun j => f j - g j) = sm n f - sm n g
  | 0 => by unfold sm; omega
  | n + 1 => by unfold sm; rw [sm_sub]; dsimp only; omega
theorem sm_add {f g : Nat → Int} : ∀ {n : Nat}, sm n (fun j => f j + g j) = sm n f + sm n g
  | 0 => by unfold sm; omega
  | n + 1 => by unfold sm; rw [sm_add]; dsimp only; omega
theorem sm_zero {f : Nat → Int} : ∀ {n : Nat}, (∀ j, j < n → f j = 0) → sm n f = 0
  | 0, _ => rfl
  | n + 1, h => by unfold sm; rw [sm_zero fun j hj => h j (by omega), h n (by omega)]; rfl
theorem sm_one {f : Nat → Int} {k : Nat} : ∀ {n : Nat}, k < n → (∀ j, j < n → j ≠ k → f j = 0) → sm n f = f k
  | 0, h, _ => by omega
  | n + 1, h, z => by
    unfold sm
    by_cases e : k = n
    · subst e
      rw [sm_zero fun j hj => z j (by omega) (by omega)]
      omega
    · rw [sm_one (k := k) (by omega) fun j hj => z j (by omega), z n (by omega) (by omega)]
      omega
abbrev en (v : List Int) (j : Nat) : Int := v.getD j 0
def dv (w : Nat) (v : List Int) (x : Nat → Int) : Int := sm w fun j => en v j * x j
def Nl (w : Nat) (L : List (List Int)) (x : Nat → Int) : Prop := ∀ v ∈ L, dv w v x = 0
/-- v' is v with the entry at c taken out by l, up to a factor -/
def El (w c : Nat) (l v v' : List Int) : Prop := ∃ a : Int, a ≠ 0 ∧ ∀ j, j < w → a * en v' j = en l c * en v j - en v c * en l j
theorem dv_lin {w : Nat} {u v t : List Int} {a b c : Int} (h : ∀ j, j < w → a * en u j = b * en v j - c * en t j) (x : Nat → Int) : a * dv w u x = b * dv w v x - c * dv w t x := by
  unfold dv
  rw [← sm_mul, ← sm_mul, ← sm_mul, ← sm_sub]
  refine sm_congr fun j hj => ?_
  rw [← Int.mul_assoc, h j hj, Int.sub_mul, Int.mul_assoc, Int.mul_assoc]
theorem El.null {w c : Nat} {l v v' : List Int} {x : Nat → Int} (h : El w c l v v') (hl : en l c ≠ 0) (h0 : dv w l x = 0) : dv w v' x = 0 ↔ dv w v x = 0 := by
  obtain ⟨a, ha, e⟩ := h
  have e1 := dv_lin e x
  rw [h0, Int.mul_zero, Int.sub_zero] at e1
  constructor
  · intro z
    rw [z, Int.mul_zero] at e1
    rcases Int.mul_eq_zero.mp e1.symm with h | h
    · exact absurd h hl
    · exact h
  · intro z
    rw [z, Int.mul_zero] at e1
    rcases Int.mul_eq_zero.mp e1 with h | h
    · exact absurd h ha
    · exact h
theorem El.at {w c : Nat} {l v v' : List Int} (h : El w c l v v') (hc : c < w) : en v' c = 0 := by
  obtain ⟨a, ha, e⟩ := h
  have := e c hc
  rw [Int.mul_comm (en v c), Int.sub_self] at this
  rcases Int.mul_eq_zero.mp this with h | h
  · exact absurd h ha
  · exact h
theorem El.zero {w c j : Nat} {l v v' : List Int} (h : El w c l v v') (hj : j < w) (h1 : en v j = 0) (h2 : en l j = 0) : en v' j = 0 := by
  obtain ⟨a, ha, e⟩ := h
  have := e j hj
  rw [h1, h2, Int.mul_zero, Int.mul_zero] at this
  rcases Int.mul_eq_zero.mp this with h | h
  · exact absurd h ha
  · exact h
theorem El.ne {w c j : Nat} {l v v' : List Int} (h : El w c l v v') (hl : en l c ≠ 0) (hj : j < w) (h1 : en v j ≠ 0) (h2 : en l j = 0) : en v' j ≠ 0 := by
  obtain ⟨a, ha, e⟩ := h
  have := e j hj
  rw [h2, Int.mul_zero, Int.sub_zero] at this
  intro z
  rw [z, Int.mul_zero] at this
  exact Int.mul_ne_zero hl h1 this.symm
/-- the column k is a pivot -/
def Pv (w : Nat) (N : (Nat → Int) → Prop) (k : Nat) : Prop := ∀ x, N x → (∀ j, k < j → j < w → x j = 0) → x k = 0
/-- rows in steps, the newest first -/
def Tri (w : Nat) : Nat → List (Nat × List Int) → Prop
  | _, [] => True
  | k, p :: r => p.1 < k ∧ en p.2 p.1 ≠ 0 ∧ (∀ j, j < p.1 → en p.2 j = 0) ∧ Tri w p.1 r
theorem Tri.up {w : Nat} {k m : Nat} {P : List (Nat × List Int)} (h : Tri w k P) (l : k ≤ m) : Tri w m P := by
  cases P with
  | nil => trivial
  | cons p r => exact ⟨by have := h.1; omega, h.2⟩
theorem Tri.lt {w : Nat} : ∀ {k : Nat} {P : List (Nat × List Int)}, Tri w k P → ∀ p ∈ P, p.1 < k
  | _, [], _, _, h => nomatch h
  | _, q :: r, h, p, hp => by
    rcases List.mem_cons.mp hp with e | e
    · rw [e]; exact h.1
    · have := Tri.lt h.2.2.2 p e
      have := h.1
      omega
theorem bs {w k : Nat} (hk : k < w) : ∀ (P : List (Nat × List Int)) (c : Nat), Tri w c P → c ≤ k → ∀ x : Nat → Int, x k ≠ 0 → (∀ j, k < j → x j = 0) →
    ∃ y : Nat → Int, y k ≠ 0 ∧ (∀ j, k < j → y j = 0) ∧ (∀ p ∈ P, dv w p.2 y = 0) ∧ ∃ a : Int, ∀ j, c ≤ j → y j = a * x j
  | [], c, _, _, x, h1, h2 => ⟨x, h1, h2, (fun _ h => nomatch h), 1, fun j _ => by omega⟩
  | (c', l) :: r, c, ht, hc, x, h1, h2 => by
    obtain ⟨t1, t2, t3, t4⟩ := ht
    simp only at t1 t2 t3 t4
    let s : Int := dv w l x - en l c' * x c'
    let x1 : Nat → Int := fun j => if j = c' then -s else en l c' * x j
    have e1 : ∀ j, j ≠ c' → x1 j = en l c' * x j := fun j hj => if_neg hj
    have ec : x1 c' = -s := if_pos rfl
    have z1 : dv w l x1 = 0 := by
      have : dv w l x1 - en l c' * dv w l x = en l c' * (x1 c' - en l c' * x c') := by
        unfold dv
        rw [← sm_mul, ← sm_sub]
        rw [sm_one (k := c') (by omega) fun j hj hn => by rw [e1 j hn, ← Int.mul_assoc, ← Int.mul_assoc, Int.mul_comm (en l j)]; omega]
        rw [Int.mul_sub]
      rw [ec] at this
      have e2 : -s - en l c' * x c' = - dv w l x := by show -(dv w l x - en l c' * x c') - _ = _; omega
      rw [e2, Int.mul_neg] at this
      omega
    obtain ⟨y, y1, y2, y3, a, y4⟩ := bs hk r c' t4 (by omega) x1 (by rw [e1 k (by omega)]; exact Int.mul_ne_zero t2 h1) (fun j hj => by rw [e1 j (by omega), h2 j hj, Int.mul_zero])
    refine ⟨y, y1, y2, fun p hp => ?_, a * en l c', fun j hj => ?_⟩
    · rcases List.mem_cons.mp hp with e | e
      · subst e
        have : dv w l y = a * dv w l x1 := by
          unfold dv
          rw [← sm_mul]
          refine sm_congr fun j hj => ?_
          by_cases h : j < c'
          · rw [t3 j h]; simp
          · rw [y4 j (by omega), ← Int.mul_assoc, ← Int.mul_assoc, Int.mul_comm a]
        show dv w l y = 0
        rw [this, z1, Int.mul_zero]
      · exact y3 p e
    · rw [y4 j (by omega), e1 j (by omega), Int.mul_assoc]
/-- how far an elimination is, at the column k -/
structure Inv (w : Nat) (N : (Nat → Int) → Prop) (k : Nat) (P : List (Nat × List Int)) (left : List (List Int)) : Prop where
  tri : Tri w k P
  zero : ∀ v ∈ left, ∀ j, j < k → en v j = 0
  null : ∀ x, N x ↔ (∀ p ∈ P, dv w p.2 x = 0) ∧ Nl w left x
  piv : ∀ j, j < k → (j ∈ P.map (·.1) ↔ Pv w N j)
theorem Inv.start (w : Nat) (L : List (List Int)) : Inv w (Nl w L) 0 [] L :=
  ⟨trivial, fun _ _ _ h => absurd h (by omega), fun x => ⟨fun h => ⟨(fun _ h => nomatch h), h⟩, fun h => h.2⟩, fun _ h => absurd h (by omega)⟩
theorem Inv.none {w k : Nat} {N : (Nat → Int) → Prop} {P : List (Nat × List Int)} {left : List (List Int)} (h : Inv w N k P left) (hk : k < w) (hz : ∀ v ∈ left, en v k = 0) : Inv w N (k + 1) P left := by
  refine ⟨h.tri.up (by omega), fun v hv j hj => ?_, h.null, fun j hj => ?_⟩
  · by_cases e : j = k
    · rw [e]; exact hz v hv
    · exact h.zero v hv j (by omega)
  · by_cases e : j = k
    · subst e
      constructor
      · intro hm
        obtain ⟨p, hp, e⟩ := List.mem_map.mp hm
        have := h.tri.lt p hp
        omega
      · intro hp
        exfalso
        obtain ⟨y, y1, y2, y3, _⟩ := bs hk P j h.tri (Nat.le_refl _) (fun i => if i = j then 1 else 0) (by simp) (fun i hi => if_neg (by omega))
        refine y1 (hp y ((h.null y).mpr ⟨y3, fun v hv => ?_⟩) fun i hi _ => y2 i hi)
        unfold dv
        refine sm_zero fun i hi => ?_
        by_cases h1 : i < j
        · rw [h.zero v hv i h1]; simp
        · by_cases h2 : i = j
          · rw [h2, hz v hv]; simp
          · rw [y2 i (by omega)]; simp
    · exact h.piv j (by omega)
theorem Inv.some {w k : Nat} {N : (Nat → Int) → Prop} {P P1 : List (Nat × List Int)} {left left1 : List (List Int)} {l : List Int} (h : Inv w N k P left) (hk : k < w) (hl : en l k ≠ 0)
    (hlz : ∀ j, j < k → en l j = 0) (t1 : Tri w k P1) (m1 : P1.map (·.1) = P.map (·.1))
    (n1 : ∀ x, dv w l x = 0 → ((∀ p ∈ P, dv w p.2 x = 0) ↔ ∀ p ∈ P1, dv w p.2 x = 0))
    (f0 : ∃ v ∈ left, ∀ x, dv w v x = 0 ↔ dv w l x = 0)
    (f1 : ∀ v' ∈ left1, ∃ v ∈ left, El w k l v v') (f2 : ∀ v ∈ left, (∀ x, dv w v x = 0 ↔ dv w l x = 0) ∨ ∃ v' ∈ left1, El w k l v v') : Inv w N (k + 1) ((k, l) :: P1) left1 := by
  have nl : ∀ x, Nl w left x ↔ dv w l x = 0 ∧ Nl w left1 x := fun x => by
    constructor
    · intro hx
      obtain ⟨v0, hv0, e0⟩ := f0
      have z := (e0 x).mp (hx v0 hv0)
      exact ⟨z, fun v' hv' => by
        obtain ⟨v, hv, e⟩ := f1 v' hv'
        exact (e.null hl z).mpr (hx v hv)⟩
    · rintro ⟨z, hx⟩ v hv
      rcases f2 v hv with e | ⟨v', hv', e⟩
      · exact (e x).mpr z
      · exact (e.null hl z).mp (hx v' hv')
  have nn : ∀ x, N x ↔ (∀ p ∈ (k, l) :: P1, dv w p.2 x = 0) ∧ Nl w left1 x := fun x => by
    rw [h.null x, nl x]
    constructor
    · rintro ⟨a, z, b⟩
      exact ⟨fun p hp => by
        rcases List.mem_cons.mp hp with e | e
        · rw [e]; exact z
        · exact (n1 x z).mp a p e, b⟩
    · rintro ⟨a, b⟩
      have z := a (k, l) List.mem_cons_self
      exact ⟨(n1 x z).mpr fun p hp => a p (List.mem_cons_of_mem _ hp), z, b⟩
  refine ⟨⟨by omega, hl, hlz, t1⟩, fun v' hv' j hj => ?_, nn, fun j hj => ?_⟩
  · obtain ⟨v, hv, e⟩ := f1 v' hv'
    by_cases ej : j = k
    · rw [ej]; exact e.at hk
    · exact e.zero (by omega) (h.zero v hv j (by omega)) (hlz j (by omega))
  · rw [List.map_cons, m1, List.mem_cons]
    by_cases e : j = k
    · subst e
      refine ⟨fun _ x hx hz => ?_, fun _ => .inl rfl⟩
      have z := ((nn x).mp hx).1 (j, l) List.mem_cons_self
      have : dv w l x = en l j * x j := by
        unfold dv
        refine sm_one hk fun i hi hn => ?_
        by_cases h1 : i < j
        · rw [hlz i h1]; simp
        · rw [hz i (by omega) hi]; simp
      rw [show dv w l x = 0 from z] at this
      rcases Int.mul_eq_zero.mp this.symm with h | h
      · exact absurd h hl
      · exact h
    · rw [← h.piv j (by omega)]
      exact ⟨fun h => h.resolve_left e, .inr⟩
/-- descending lists with the same members are the same -/
def Desc : Nat → List Nat → Prop
  | _, [] => True
  | k, c :: r => c < k ∧ Desc c r
theorem Desc.lt : ∀ {k : Nat} {P : List Nat}, Desc k P → ∀ p ∈ P, p < k
  | _, [], _, _, h => nomatch h
  | _, q :: r, h, p, hp => by
    rcases List.mem_cons.mp hp with e | e
    · rw [e]; exact h.1
    · have := Desc.lt h.2 p e
      have := h.1
      omega
theorem Tri.desc {w : Nat} : ∀ {k : Nat} {P : List (Nat × List Int)}, Tri w k P → Desc k (P.map (·.1))
  | _, [], _ => trivial
  | _, _ :: _, h => ⟨h.1, Tri.desc h.2.2.2⟩
theorem desc_ext : ∀ {k m : Nat} {P Q : List Nat}, Desc k P → Desc m Q → (∀ j, j ∈ P ↔ j ∈ Q) → P = Q
  | _, _, [], [], _, _, _ => rfl
  | _, _, [], q :: r, _, _, h => absurd ((h q).mpr List.mem_cons_self) (fun z => nomatch z)
  | _, _, p :: r, [], _, _, h => absurd ((h p).mp List.mem_cons_self) (fun z => nomatch z)
  | k, m, p :: r, q :: t, hp, hq, h => by
    have e : p = q := by
      rcases List.mem_cons.mp ((h p).mp List.mem_cons_self) with e | e
      · exact e
      · rcases List.mem_cons.mp ((h q).mpr List.mem_cons_self) with e' | e'
        · exact e'.symm
        · have := hq.2.lt p e
          have := hp.2.lt q e'
          omega
    subst e
    rw [desc_ext hp.2 hq.2 fun j => ?_]
    constructor
    · intro hj
      have := hp.2.lt j hj
      exact ((List.mem_cons.mp ((h j).mp (List.mem_cons_of_mem _ hj))).resolve_left (by omega))
    · intro hj
      have := hq.2.lt j hj
      exact ((List.mem_cons.mp ((h j).mpr (List.mem_cons_of_mem _ hj))).resolve_left (by omega))
/-- two eliminations that are through have the same pivots -/
theorem same_piv {w : Nat} {N N' : (Nat → Int) → Prop} {P Q : List (Nat × List Int)} {L M : List (List Int)} (h : Inv w N w P L) (h' : Inv w N' w Q M) (hN : ∀ x, N x ↔ N' x) : P.map (·.1) = Q.map (·.1) := by
  refine desc_ext h.tri.desc h'.tri.desc fun j => ?_
  have hp : Pv w N j ↔ Pv w N' j := by
    unfold Pv
    constructor
    · intro h x hx; exact h x ((hN x).mpr hx)
    · intro h x hx; exact h x ((hN x).mp hx)
  constructor
  · intro hj
    have lj := h.tri.desc.lt j hj
    exact (h'.piv j lj).mpr (hp.mp ((h.piv j lj).mp hj))
  · intro hj
    have lj := h'.tri.desc.lt j hj
    exact (h.piv j lj).mpr (hp.mpr ((h'.piv j lj).mp hj))
end Rk

/-! ### rows that add up to zeros -/
namespace Rk
/-- the place in a list of which the i-th was taken out -/
def skp (i j : Nat) : Nat := if j < i then j else j + 1
theorem sm_skp {f : Nat → Int} {i : Nat} : ∀ {n : Nat}, i ≤ n → sm (n + 1) f = sm n (fun j => f (skp i j)) + f i
  | 0, h => by
    have : i = 0 := by omega
    subst this
    rfl
  | n + 1, h => by
    by_cases e : i = n + 1
    · subst e
      show sm (n + 1) f + f (n + 1) = _
      congr 1
      refine sm_congr fun j hj => ?_
      unfold skp
      rw [if_pos (by omega)]
    · show sm (n + 1) f + f (n + 1) = sm n (fun j => f (skp i j)) + f (skp i n) + f i
      rw [sm_skp (f := f) (i := i) (n := n) (by omega)]
      have : skp i n = n + 1 := by unfold skp; rw [if_neg (by omega)]
      rw [this]
      omega
/-- entry c of the sum of the rows times x -/
def cb (x : Nat → Int) (L : List (List Int)) (c : Nat) : Int := sm L.length fun j => x j * en (L.getD j []) c
def Dep (w : Nat) (L : List (List Int)) : Prop := ∃ x : Nat → Int, (∃ j, j < L.length ∧ x j ≠ 0) ∧ ∀ c, c < w → cb x L c = 0
theorem erase_getD {L : List (List Int)} {i j : Nat} : (L.eraseIdx i).getD j [] = L.getD (skp i j) [] := by
  rw [List.getD_eq_getElem?_getD, List.getD_eq_getElem?_getD, List.getElem?_eraseIdx]
  unfold skp
  split <;> rfl
theorem cb_erase {x : Nat → Int} {L : List (List Int)} {i : Nat} {v : List Int} (h : L[i]? = some v) (c : Nat) : cb x L c = cb (fun j => x (skp i j)) (L.eraseIdx i) c + x i * en v c := by
  have hi : i < L.length := (List.getElem?_eq_some_iff.mp h).1
  obtain ⟨n, hn⟩ : ∃ n, L.length = n + 1 := ⟨L.length - 1, by omega⟩
  unfold cb
  rw [List.length_eraseIdx_of_lt hi, hn, sm_skp (i := i) (by omega)]
  congr 1
  · exact sm_congr fun j _ => by rw [erase_getD]
  · rw [List.getD_eq_getElem?_getD, h]
    rfl
theorem cb_elim {x : Nat → Int} {L L' : List (List Int)} {w k c : Nat} {v : List Int} (hl : L'.length = L.length) (h : ∀ j, j < L.length → ∀ c, c < w → en (L'.getD j []) c = en (L.getD j []) c * en v k - en v c * en (L.getD j []) k) (hc : c < w) :
    cb x L' c = en v k * cb x L c - en v c * cb x L k := by
  unfold cb
  rw [hl, ← sm_mul, ← sm_mul, ← sm_sub]
  refine sm_congr fun j hj => ?_
  rw [h j hj c hc, Int.mul_sub]
  congr 1
  · rw [← Int.mul_assoc, Int.mul_comm]
  · rw [← Int.mul_assoc, ← Int.mul_assoc, Int.mul_comm (x j)]
theorem dep_step {L L' : List (List Int)} {w k i : Nat} {v : List Int} (e : L[i]? = some v) (hk : k < w) (hv : en v k ≠ 0) (hl : L'.length = (L.eraseIdx i).length)
    (h : ∀ j, j < (L.eraseIdx i).length → ∀ c, c < w → en (L'.getD j []) c = en ((L.eraseIdx i).getD j []) c * en v k - en v c * en ((L.eraseIdx i).getD j []) k) : Dep w L ↔ Dep w L' := by
  have hi : i < L.length := (List.getElem?_eq_some_iff.mp e).1
  have hle := List.length_eraseIdx_of_lt hi
  constructor
  · rintro ⟨x, ⟨j, hj, xj⟩, hx⟩
    have hz : ∀ c, c < w → cb (fun j => x (skp i j)) (L.eraseIdx i) c = - (x i * en v c) := fun c hc => by
      have := cb_erase (x := x) e c
      rw [hx c hc] at this
      omega
    refine ⟨fun j => x (skp i j), ?_, fun c hc => ?_⟩
    · by_cases ji : j = i
      · -- another one is not 0
        by_cases all : ∀ m, m < (L.eraseIdx i).length → x (skp i m) = 0
        · exfalso
          have h1 := hz k hk
          have h2 : cb (fun j => x (skp i j)) (L.eraseIdx i) k = 0 := by
            unfold cb
            exact sm_zero fun m hm => by show x (skp i m) * _ = 0; rw [all m hm, Int.zero_mul]
          rw [h2] at h1
          rw [ji] at xj
          exact Int.mul_ne_zero xj hv (by omega)
        · obtain ⟨m, hm⟩ := Classical.not_forall.mp all
          obtain ⟨hm1, hm2⟩ := Classical.not_imp.mp hm
          exact ⟨m, by omega, hm2⟩
      · by_cases c : j < i
        · refine ⟨j, by omega, ?_⟩
          show x (skp i j) ≠ 0
          unfold skp
          rw [if_pos c]
          exact xj
        · refine ⟨j - 1, by omega, ?_⟩
          show x (skp i (j - 1)) ≠ 0
          unfold skp
          rw [if_neg (by omega), show j - 1 + 1 = j by omega]
          exact xj
    · rw [cb_elim hl h hc, hz c hc, hz k hk]
      rw [Int.mul_neg, Int.mul_neg, Int.mul_left_comm, Int.mul_left_comm (en v c), Int.mul_comm (en v k) (en v c)]
      omega
  · rintro ⟨x, ⟨j, hj, xj⟩, hx⟩
    let S : Int := cb x (L.eraseIdx i) k
    let y : Nat → Int := fun j => if j = i then -S else en v k * x (if j < i then j else j - 1)
    have ys : ∀ m, y (skp i m) = en v k * x m := fun m => by
      show (if skp i m = i then -S else en v k * x (if skp i m < i then skp i m else skp i m - 1)) = _
      unfold skp
      by_cases c : m < i
      · rw [if_pos c, if_neg (by omega), if_pos c]
      · rw [if_neg c, if_neg (by omega), if_neg (by omega), Nat.add_sub_cancel]
    have yi : y i = -S := if_pos rfl
    refine ⟨y, ⟨skp i j, ?_, ?_⟩, fun c hc => ?_⟩
    · unfold skp
      split <;> omega
    · rw [ys]
      exact Int.mul_ne_zero hv xj
    · rw [cb_erase e c, yi]
      have h1 : cb (fun j => y (skp i j)) (L.eraseIdx i) c = en v k * cb x (L.eraseIdx i) c := by
        unfold cb
        rw [← sm_mul]
        exact sm_congr fun m _ => by show y (skp i m) * _ = _; rw [ys, Int.mul_assoc]
      have h2 := cb_elim (x := x) hl h hc
      rw [hx c hc] at h2
      rw [h1]
      have h3 : cb x (L.eraseIdx i) k = S := rfl
      rw [h3, Int.mul_comm (en v c)] at h2
      rw [Int.neg_mul]
      omega
theorem dep_end {w : Nat} {L : List (List Int)} (h : ∀ v ∈ L, ∀ j, j < w → en v j = 0) : Dep w L ↔ L ≠ [] := by
  constructor
  · rintro ⟨x, ⟨j, hj, _⟩, _⟩ z
    rw [z] at hj
    exact absurd hj (Nat.not_lt_zero _)
  · intro hne
    have hp : 0 < L.length := List.length_pos_iff.mpr hne
    refine ⟨fun _ => 1, ⟨0, hp, (by decide)⟩, fun c hc => ?_⟩
    unfold cb
    refine sm_zero fun j hj => ?_
    have : L.getD j [] ∈ L := by
      rw [List.getD_eq_getElem?_getD, List.getElem?_eq_getElem hj]
      exact List.getElem_mem hj
    rw [h _ this c hc]
    rfl
/-- the columns of a matrix -/
def tr (w : Nat) (L : List (List Int)) : List (List Int) := (List.range w).map fun c => L.map fun v => en v c
theorem tr_dv {L : List (List Int)} (x : Nat → Int) (c : Nat) : dv L.length (L.map fun v => en v c) x = cb x L c := by
  unfold dv cb
  refine sm_congr fun j hj => ?_
  have : en (L.map fun v => en v c) j = en (L.getD j []) c := by
    show (L.map fun v => en v c).getD j 0 = _
    rw [List.getD_eq_getElem?_getD, List.getD_eq_getElem?_getD, List.getElem?_map, List.getElem?_eq_getElem hj]
    rfl
  rw [this, Int.mul_comm]
theorem tr_null {w : Nat} {L : List (List Int)} (x : Nat → Int) : Nl L.length (tr w L) x ↔ ∀ c, c < w → cb x L c = 0 := by
  unfold Nl tr
  constructor
  · intro h c hc
    rw [← tr_dv]
    exact h _ (List.mem_map.mpr ⟨c, List.mem_range.mpr hc, rfl⟩)
  · intro h v hv
    obtain ⟨c, hc, rfl⟩ := List.mem_map.mp hv
    rw [tr_dv]
    exact h c (List.mem_range.mp hc)
/-- all columns of the transposed matrix are pivots: the rows do not depend -/
theorem all_piv {w : Nat} {L : List (List Int)} {N : (Nat → Int) → Prop} (hN : ∀ x, N x ↔ Nl L.length (tr w L) x) (h : ∀ k, k < L.length → Pv L.length N k) : ¬ Dep w L := by
  rintro ⟨x, ⟨j, hj, xj⟩, hx⟩
  have nx := (hN x).mpr ((tr_null x).mpr hx)
  have : ∀ m k, k < L.length → L.length - k ≤ m → x k = 0 := by
    intro m
    induction m with
    | zero => intro k h1 h2; omega
    | succ m ih =>
      intro k h1 h2
      exact h k h1 x nx fun i h3 h4 => ih i h4 (by omega)
  exact xj (this _ j hj (Nat.le_refl _))
end Rk

/-! ### operations that the layer lacks -/
namespace HwG
open PySem PySem.Spec PyProof.Rows L2 RZ
theorem tuple_mul1 (l : Addr) (items : Array Value) (n : Nat) (dd : Option Addr) (sl : Array (Option Value)) (x : Int) (u : Tok) (c0 : (decide (x < -(2 ^ 63)) || decide (x ≥ 2 ^ 63)) = false) (c1 : (items.isEmpty || x == 1) = true) :
    Meets (Builtin.«tuple.__mul__» ⟨[.ref l, .int x u], []⟩) (fun _ R s => s.heap.get? l = some { cls := .type "tuple", dict := dd, data := .seq items n, slots := sl } ∧
      R (.ok (.ret (Value.ref l))) s) :=
  .of_wp fun prog w A R s h => by
    obtain ⟨hp, g, d, tk, os⟩ := s
    obtain ⟨hl, h⟩ := h
    have f1 := AutoSeq1.idx_int
    wp_walk using wpAny_loadPart' hl
    repeat (first
      | (refine wpAny_ite_false (decide_eq_false (by rw [c0]; exact Bool.false_ne_true)) ?_; wp_walk using wpAny_loadPart' hl)
      | (refine wpAny_ite_true (decide_eq_true c1) ?_; wp_walk using wpAny_loadPart' hl))
    exact ⟨_, rfl, h⟩
def rRepT1 (K : PySem.W.Frag) : R2 := fun x y H Q => ∃ l xs, x = .ref l ∧ y = .int 1 ∧ SqT K H l xs ∧ Q (.ref l) H
section
variable {X : Cx}
theorem op_repT1 : OpR X (binaryOp .Mult) (rRepT1 X.K) := by
  intro pins s σ H x y v u Q I rx ry h
  obtain ⟨l, xs, rfl, rfl, hT, q⟩ := h
  cases rx
  obtain ⟨t, rfl⟩ := ry
  obtain ⟨its, r, ⟨⟨cls, dd, data, sl⟩, ho, hc, n, hd⟩, hs⟩ := I.tuple hT
  simp only at hc hd
  subst hc hd
  have c0 : (decide ((1 : Int) < -(2 ^ 63)) || decide ((1 : Int) ≥ 2 ^ 63)) = false := by decide
  have c1 : (its.toArray.isEmpty || (1 : Int) == 1) = true := by
    rw [show ((1 : Int) == 1) = true by decide, Bool.or_true]
  exact wpAny_binaryOp_repeat_ref (T := "tuple") (U := "int") (by decide) ⟨_, ho, rfl⟩ (fun s' => typeIs_int s' 1 t) noFill_tuple_mul F.fills_int_mul F.slot_int_rmul repeat_tuple F.slot_int_index.lookup
    (call_meets F.slot_int_rmul (typeIs_int s 1 t) F.entry_int_rmul (F.args_int_rmul_2 _ _) (int_rmul_tuple 1 t l its.toArray n dd sl)
      ⟨ho, rfl, ⟨_, ho, rfl⟩, call_meets F.slot_tuple_mul ⟨_, ho, rfl⟩ F.entry_tuple_mul (F.args_tuple_mul_2 _ _) (tuple_mul1 l its.toArray n dd sl 1 t c0 c1) ⟨ho, .ref l, H, I, rfl, q⟩⟩)
def rRepA (K : PySem.W.Frag) : R2 := fun x y H Q => rRepT K x y H Q ∨ rRepT1 K x y H Q
/-- a tuple times 1 .. 1000 -/
theorem op_repA : OpR X (binaryOp .Mult) (rRepA X.K) := by
  intro pins s σ H x y v u Q I rx ry q
  rcases q with q | q
  · exact op_repT pins s σ H x y v u Q I rx ry q
  · exact op_repT1 pins s σ H x y v u Q I rx ry q
/-- // by a divisor of any sign -/
def CDivA (_ j : Int) : Prop := j ≠ 0 ∧ j.natAbs.log2 < 9000
theorem op_fdivA : OpR X (binaryOp .FloorDiv) (rI CDivA fun i j => .int (i.fdiv j)) := opI fun i j _ _ _ _ _ hc q => floordiv_int hc.1 q (.inl (PyProof.noPylong_of_log2 hc.2))
end
/-- zip of two tuples, walked -/
theorem walk_zipT {K : PySem.W.Frag} {a b : Addr} {xs ys : List V} {n : Nat} (h1 : xs.length = n) (h2 : ys.length = n) : Walk (ItzT K a b) n (fun H => SqT K H a xs ∧ SqT K H b ys) (YPair (fun i => xs[i]?) (fun i => ys[i]?)) :=
  ⟨fun i H hi hG => ⟨xs, ys, xs[i], ys[i], hG.1, hG.2, List.getElem?_eq_getElem (by omega), List.getElem?_eq_getElem (by omega)⟩, fun H hG => ⟨xs, ys, hG.1, hG.2, .inl (by omega)⟩,
    fun i H x H' hi hG y => by
      obtain ⟨T, u, v, e1, e2, e3, e4, e5⟩ := y
      exact ⟨T, u, v, e1, e2, e3, e4 _ hG.1, e5 _ hG.2⟩⟩
end HwG

/-! ### zip of a list or tuple with a list or tuple -/
namespace HwZ
open PySem PySem.Spec PyProof.Rows L2 RZ
/-- at a stands a sequence: a tuple (true) or a list -/
def Sk (K : PySem.W.Frag) (k : Bool) (H : Hp) (a : Addr) (xs : List V) : Prop := match k with
  | true => SqT K H a xs
  | false => SqL K H a xs
def AtK (k : Bool) (h : Heap) (it a : Addr) (i : Nat) : Prop := match k with
  | true => h.IsTupleIter it a i
  | false => h.IsListIter it a i
def SeqK (k : Bool) (h : Heap) (a : Addr) (its : Array Value) : Prop := match k with
  | true => h.IsTuple a its
  | false => h.IsList a its
def begK (k : Bool) (a : Addr) : Obj := match k with
  | true => { cls := .type "tuple_iterator", data := .fields #[.ref a, .int 0 0] }
  | false => { cls := .type "list_iterator", data := .fields #[.ref a, .int 0 0] }
theorem drawsK (k : Bool) {prog : Program} {w : World} {A : Around} (hh : A.handled = none) (it a : Addr) (ne : a ≠ it) (its : Array Value) :
    Draws prog w A it [it, a] its.size (fun i v => its[i]? = some v) (fun i h => AtK k h it a i ∧ SeqK k h a its) := by
  cases k with
  | true => exact Draws.tuple hh it a ne its
  | false => exact Draws.list hh it a ne its
theorem beginsK (k : Bool) (a : Addr) (its : Array Value) : Begins (.ref a) (begK k a) fun h => SeqK k h a its := by
  cases k with
  | true => exact begins_tuple a its
  | false => exact begins_list a its
theorem atK_beg {k : Bool} {h : Heap} {it a : Addr} (e : h.get? it = some (begK k a)) : AtK k h it a 0 := by
  cases k with
  | true => exact ⟨_, e, rfl, rfl⟩
  | false => exact ⟨_, e, rfl, rfl⟩
theorem atK_at {k : Bool} {h h' : Heap} {it a : Addr} {i : Nat} (x : AtK k h it a i) (f : ∀ o, h.get? it = some o → h'.get? it = some o) : AtK k h' it a i := by
  cases k with
  | true => exact Heap.IsTupleIter.at x f
  | false => exact Heap.IsListIter.at x f
theorem atK_obj {k : Bool} {h : Heap} {it a : Addr} {i : Nat} (x : AtK k h it a i) : ∃ o, h.get? it = some o ∧ ∀ v, o.data ≠ .cell v := by
  cases k with
  | true =>
    obtain ⟨o, e, _, d⟩ := x
    exact ⟨o, e, fun v q => by rw [d] at q; cases q⟩
  | false =>
    obtain ⟨o, e, _, d⟩ := x
    exact ⟨o, e, fun v q => by rw [d] at q; cases q⟩
section
variable {X : Cx} {pins : List (Addr × Obj)} {σ : L2.St} {H : Hp} {s : Shared}
theorem sk_read {k : Bool} {a : Addr} {xs : List V} (I : Inv X pins σ H s) (h : Sk X.K k H a xs) : ∃ its : List Value, Vals xs its ∧ SeqK k s.heap a its.toArray := by
  cases k with
  | true =>
    obtain ⟨its, r, p, _⟩ := I.tuple h
    exact ⟨its, r, p⟩
  | false =>
    obtain ⟨its, r, p, _⟩ := I.list h
    exact ⟨its, r, p.isList⟩
theorem sk_inj {k : Bool} {a : Addr} {xs ys : List V} (I : Inv X pins σ H s) (h : Sk X.K k H a xs) (h' : Sk X.K k H a ys) : xs = ys := by
  cases k with
  | true => exact I.tuple_inj h h'
  | false => exact I.list_inj h h'
theorem seqK_lt {k : Bool} {h : Heap} {a : Addr} {its : Array Value} (x : SeqK k h a its) : a < h.objs.size := by
  cases k with
  | true =>
    obtain ⟨o, e, _⟩ := x
    exact Heap.lt_size e
  | false =>
    obtain ⟨o, e, _⟩ := x
    exact Heap.lt_size e
end
/-- what the loop sees: new pairs -/
def ItzK (K : PySem.W.Frag) (k1 k2 : Bool) (a b : Addr) : It :=
  ⟨fun i H => ∃ (xs ys : List V) (x y : V), Sk K k1 H a xs ∧ Sk K k2 H b ys ∧ xs[i]? = some x ∧ ys[i]? = some y,
    fun i H v H' => ∃ T x y, v = .ref T ∧ H T = none ∧ H' = upd H T (.tup [x, y]) ∧ (∀ xs, Sk K k1 H a xs → xs[i]? = some x) ∧ ∀ ys, Sk K k2 H b ys → ys[i]? = some y,
    fun i H => ∃ xs ys : List V, Sk K k1 H a xs ∧ Sk K k2 H b ys ∧ xs.length = i ∧ ys.length = i⟩
/-- the cells of the zip at z -/
structure Cells (z TI TO i1 i2 a b : Addr) : Prop where
  sep : ZipSep2 z TI TO i1 i2 [i1, a] [i2, b]
  ai : a ≠ i1
  bi : b ≠ i2
theorem cells_of (N a b : Nat) (ha : a < N) (hb : b < N) : Cells (N + 4) (N + 2) (N + 3) N (N + 1) a b :=
  ⟨zip_sep2 (fun c h => by rw [List.mem_singleton.mp h]; exact ha) (fun c h => by rw [List.mem_singleton.mp h]; exact hb), show a ≠ N by omega, show b ≠ N + 1 by omega⟩
def Now (k1 k2 : Bool) (z TI TO i1 i2 a b : Addr) (i : Nat) (h : Heap) : Prop := IsZip h z TI TO .none ∧ IsTupOf2 h TI (.ref i1) (.ref i2) ∧ (∃ u v, IsTupOf2 h TO u v) ∧ AtK k1 h i1 a i ∧ AtK k2 h i2 b i
theorem five {z TI TO i1 i2 c : Addr} (h : c ∈ [z, TI, TO, i1, i2]) : c = z ∨ c = TI ∨ c = TO ∨ c = i1 ∨ c = i2 := by simpa using h
theorem turn_zipK {P : Program} {w : World} {K : PySem.W.Frag} {elts : List Expr} {kk : Nat} {tpos : Pos} {k1 k2 : Bool} {a b z TI TO i1 i2 : Addr} (D : Cells z TI TO i1 i2 a b) :
    Turn P w K (.Tuple elts kk tpos) (ItzK K k1 k2 a b) [z, TI, TO, i1, i2] z (Now k1 k2 z TI TO i1 i2 a b) where
  mem := by simp
  obj := fun i h st c hc => by
    obtain ⟨hz, hT, ⟨u, v, hO⟩, h1, h2⟩ := st
    rcases five hc with e | e | e | e | e <;> subst e
    · exact ⟨_, hz, fun v q => nomatch q⟩
    · exact ⟨_, hT, fun v q => nomatch q⟩
    · exact ⟨_, hO, fun v q => nomatch q⟩
    · exact atK_obj h1
    · exact atK_obj h2
  keep := fun i h h' st f => by
    obtain ⟨hz, hT, ⟨u, v, hO⟩, h1, h2⟩ := st
    have g : ∀ c ∈ [z, TI, TO, i1, i2], ∀ o, h.get? c = some o → h'.get? c = some o := f
    exact ⟨g z (by simp) _ hz, g TI (by simp) _ hT, ⟨u, v, g TO (by simp) _ hO⟩, atK_at h1 (g i1 (by simp)), atK_at h2 (g i2 (by simp))⟩
  item := by
    intro X hP hw hK hc i pins s σ H E I hf st go
    subst hP hw hK
    obtain ⟨hz, hT, ⟨u0, v0, hO⟩, h1, h2⟩ := st
    obtain ⟨xs, ys, x, y, qx, qy, ex, ey⟩ := go
    obtain ⟨its, r1, p1⟩ := sk_read I qx
    obtain ⟨jts, r2, p2⟩ := sk_read I qy
    have n1 : i < its.toArray.size := by rw [List.size_toArray, ← r1.length]; exact (List.getElem?_eq_some_iff.mp ex).1
    have n2 : i < jts.toArray.size := by rw [List.size_toArray, ← r2.length]; exact (List.getElem?_eq_some_iff.mp ey).1
    have hd : X.A.in1.handled = none := I.ok.hd hc
    have zlt : z < s.heap.objs.size := Heap.lt_size hz
    refine wpAny_pyNext_zipD2_item D.sep (drawsK k1 hd i1 a D.ai its.toArray) (drawsK k2 hd i2 b D.bi jts.toArray) hz hT hO ⟨h1, p1⟩ ⟨h2, p2⟩ n1 n2 fun u v h' tk eu ev z' O' t1 t2 nT sz kp => ?_
    obtain ⟨u', gu, ru⟩ := r1.get ex
    obtain ⟨v', gv, rv⟩ := r2.get ey
    have euu : u = u' := Option.some.inj (eu.symm.trans (by simpa using gu))
    have evv : v = v' := Option.some.inj (ev.symm.trans (by simpa using gv))
    subst euu evv
    refine ⟨_, rfl, wpAny_letOwnedTupleGo_zip (s := { s with heap := h', toks := tk }) z' fun h2' z2 sb => ?_⟩
    have other : ∀ c, c ≠ z → h2'.get? c = h'.get? c := fun c hc => sb.2 c hc
    have fresh : h2'.get? s.heap.objs.size = some { cls := .type "tuple", data := .seq #[u, v] } := (other _ (Nat.ne_of_gt zlt)).trans nT
    have ob : ObjOk X.prog X.w (upd H s.heap.objs.size (.tup [x, y])) h2' s.heap.objs.size (.tup [x, y]) :=
      ⟨Nat.le_of_lt (small1000 (show 2 ≤ 1000 by decide)), [u, v], .cons ru (.cons rv .nil), ⟨_, fresh, rfl, _, rfl⟩⟩
    have J : Inv X pins σ (upd H s.heap.objs.size (.tup [x, y])) { s with heap := h2', toks := tk } :=
      I.turnedNew (ch := [z, TI, TO, i1, i2]) (fun c o nc q => by
        have m : c ≠ z ∧ c ≠ TO ∧ c ≠ i1 ∧ c ≠ i2 := ⟨fun e => nc (by rw [e]; simp), fun e => nc (by rw [e]; simp), fun e => nc (by rw [e]; simp), fun e => nc (by rw [e]; simp)⟩
        exact (other c m.1).trans (kp c o m.1 m.2.1 m.2.2.1 m.2.2.2 q)) hf (Nat.le_refl _) ob
    have hTI1 : TI ≠ i1 := D.sep.TIi1
    refine ⟨.ref s.heap.objs.size, _, J, rfl, ⟨_, x, y, rfl, I.hok.fresh (Nat.le_refl _), rfl, fun l hl => by rw [sk_inj I hl qx]; exact ex, fun l hl => by rw [sk_inj I hl qy]; exact ey⟩, ⟨z2, ?_, ⟨u, v, ?_⟩, ?_, ?_⟩, fun c hcm => ?_⟩
    · exact (other _ D.sep.TIz).trans (kp _ _ D.sep.TIz D.sep.TITO D.sep.TIi1 D.sep.TIi2 hT)
    · exact (other _ D.sep.TOz).trans O'
    · exact atK_at t1.1 fun o q => (other _ D.sep.zi1.symm).trans q
    · exact atK_at t2.1 fun o q => (other _ D.sep.zi2.symm).trans q
    · have lt : c < s.heap.objs.size := by
        rcases five hcm with e | e | e | e | e <;> subst e
        · exact zlt
        · exact Heap.lt_size hT
        · exact Heap.lt_size hO
        · obtain ⟨o, e, _⟩ := atK_obj h1
          exact Heap.lt_size e
        · obtain ⟨o, e, _⟩ := atK_obj h2
          exact Heap.lt_size e
      rw [upd_ne (Nat.ne_of_lt lt)]
      exact (hf c hcm).1
  done := by
    intro X hP hw hK hc i pins s σ H E I hf st stop
    subst hP hw hK
    obtain ⟨hz, hT, ⟨u0, v0, hO⟩, h1, h2⟩ := st
    obtain ⟨xs, ys, qx, qy, ex, ey⟩ := stop
    obtain ⟨its, r1, p1⟩ := sk_read I qx
    obtain ⟨jts, r2, p2⟩ := sk_read I qy
    have n1 : i = its.toArray.size := by rw [List.size_toArray, ← r1.length]; exact ex.symm
    have n2 : i = jts.toArray.size := by rw [List.size_toArray, ← r2.length]; exact ey.symm
    have hd : X.A.in1.handled = none := I.ok.hd hc
    refine wpAny_pyNext_zipD2_end D.sep (drawsK k1 hd i1 a D.ai its.toArray) (drawsK k2 hd i2 b D.bi jts.toArray) hz hT hO ⟨h1, p1⟩ ⟨h2, p2⟩ (Nat.le_of_eq n1) (Nat.le_of_eq n2) (.inl n1) fun h' tk kp => ⟨rfl, ?_⟩
    exact I.turnedL (ch := [z, TI, TO, i1, i2]) (fun c o nc q => kp c o (fun e => nc (by rw [e]; simp)) (fun e => nc (by rw [e]; simp)) (fun e => nc (by rw [e]; simp)) (fun e => nc (by rw [e]; simp)) q) hf
  self := fun A i s Q E st h => wpAny_pyIter_zip st.1 h
def iZipK (K : PySem.W.Frag) (ta : TA) : TI := fun σ H R => ta σ H fun vs H1 => ∃ k1 k2 a b xs ys, vs = [.ref a, .ref b] ∧ Sk K k1 H1 a xs ∧ Sk K k2 H1 b ys ∧ R (ItzK K k1 k2 a b) H1
set_option maxHeartbeats 600000 in
theorem pi_zipK {X : Cx} {e e2 : Expr} {ta : TA} {p pos tpos : Pos} {elts : List Expr} {kk : Nat} (hg : Gl X "zip") (hm : X.mg "zip" = none) (ha : PA X [e, e2] ta)
    (hs : starEach [e, e2] X.env = (false, eval e X.env) :: starEach [e2] X.env := by rfl) (hpl : (backTo pos (starEach [e2] X.env)).any (·.1) = false := by rfl) :
    PI X (.Tuple elts kk tpos) (.Call (.Name "zip" p) [e, e2] [] pos) (iZipK X.K ta) := by
  constructor
  intro pins s σ H R I h
  refine Call_ (ld_blt I hg hm PyProof.Rows.boot_zip (PyProof.Rows.callWith_type1 (thn (ha.run pos pins s σ H _ I h) fun us s1 ⟨vs, H1, I1, r1, q1⟩ => ?_) hs hpl))
  obtain ⟨k1, k2, a, b, xs, ys, ev, qx, qy, q⟩ := q1
  subst ev
  obtain ⟨u1, u2, rfl, ra, rb⟩ := vals2 r1
  obtain rfl : u1 = Value.ref a := ra
  obtain rfl : u2 = Value.ref b := rb
  obtain ⟨its, _, p1⟩ := sk_read I1 qx
  obtain ⟨jts, _, p2⟩ := sk_read I1 qy
  refine zip_begins2 (beginsK k1 a its.toArray) (beginsK k2 b jts.toArray) p1 p2 fun h' hz hT hO g1 g2 _ kp => wpAny_pyIter_zip hz ?_
  have J : Inv X pins σ H1 { s1 with heap := h' } := I1.kept (t' := s1.toks) kp
  have D := cells_of s1.heap.objs.size a b (seqK_lt p1) (seqK_lt p2)
  have W : Now k1 k2 (s1.heap.objs.size + 4) (s1.heap.objs.size + 2) (s1.heap.objs.size + 3) s1.heap.objs.size (s1.heap.objs.size + 1) a b 0 h' := ⟨hz, hT, ⟨_, _, hO⟩, atK_beg g1, atK_beg g2⟩
  have F : ∀ c ∈ [s1.heap.objs.size + 4, s1.heap.objs.size + 2, s1.heap.objs.size + 3, s1.heap.objs.size, s1.heap.objs.size + 1], FpOk X pins H1 c := fun c hc => by
    have le : s1.heap.objs.size ≤ c := by
      rcases five hc with e | e | e | e | e
      · rw [e]; exact Nat.le_add_right _ _
      · rw [e]; exact Nat.le_add_right _ _
      · rw [e]; exact Nat.le_add_right _ _
      · rw [e]; exact Nat.le_refl _
      · rw [e]; exact Nat.le_add_right _ _
    exact I1.fpOk le (I1.hok.fresh le)
  exact ⟨_, _, _, _, H1, rfl, J, turn_zipK D, W, F, q⟩
theorem walk_zipK {K : PySem.W.Frag} {k1 k2 : Bool} {a b : Addr} {xs ys : List V} {n : Nat} (h1 : xs.length = n) (h2 : ys.length = n) : Walk (ItzK K k1 k2 a b) n (fun H => Sk K k1 H a xs ∧ Sk K k2 H b ys) (YPair (fun i => xs[i]?) (fun i => ys[i]?)) :=
  ⟨fun i H hi g => ⟨xs, ys, xs[i], ys[i], g.1, g.2, List.getElem?_eq_getElem (by omega), List.getElem?_eq_getElem (by omega)⟩, fun H g => ⟨xs, ys, g.1, g.2, h1, h2⟩,
    fun i H x H' _ g y => by
      obtain ⟨T, u, v, e1, e2, e3, e4, e5⟩ := y
      exact ⟨T, u, v, e1, e2, e3, e4 _ g.1, e5 _ g.2⟩⟩
end HwZ

/-! ### any of a tuple of ints; the least common multiple -/
namespace HwA
open PySem PySem.Spec PyProof.Rows L2
section
variable {X : Cx}
theorem any_bools (ns : List Int) : ∀ (bs : List Bool), bs = ns.map (fun n => n != 0) → (List.range ns.length).any (fun i => (ns.map fun n => n != 0).getD i false) = ns.any fun n => n != 0 := fun bs _ => by
  have h := any_range (ns.map fun n => n != 0)
  rw [List.length_map] at h
  rw [h, List.any_map]
  rfl
def rAnyT (K : PySem.W.Frag) : List V → Hp → VK → Prop := fun vs H Q => ∃ (a : Addr) (ns : List Int), vs = [V.ref a] ∧ SqT K H a (ns.map V.int) ∧ Q (.bl (ns.any fun n => n != 0)) H
theorem cr_anyT (hc : X.calm = true) : CallR X (.builtin "any") (rAnyT X.K) := by
  intro pins s σ H vs us Q I r h
  obtain ⟨a, ns, rfl, hs, q⟩ := h
  obtain ⟨its, rv, ht, _⟩ := I.tuple hs
  rw [Vals.ref1 r]
  have it : s.heap.IsTuple a its.toArray := ht
  have lt : a < s.heap.objs.size := by
    obtain ⟨_, e, _⟩ := it
    exact Heap.lt_size e
  refine call_any_walk (wpAny_pyIter_tuple it ⟨s.heap.objs.size, _, _, _, _, _, (fun i => (ns.map fun n => n != 0).getD i false), rfl, Walks.tuple (A := X.A.in1) (I.ok.hd hc) _ a (Nat.ne_of_lt lt) its.toArray, ⟨⟨_, Heap.get?_push_size _ rfl, rfl, rfl⟩, ?_⟩, ?_, fun h' tk hk => ?_⟩)
  · exact it.at fun o e => Heap.get?_push_of_some _ e
  · intro i v s' Q' E' hv hq
    have hv' : its[i]? = some v := by simpa using hv
    have lxs := rv.length
    have hi : i < ns.length := by
      have := (List.getElem?_eq_some_iff.mp hv').1
      rw [List.length_map] at lxs
      omega
    have g : (ns.map V.int)[i]? = some (.int ns[i]) := by
      rw [List.getElem?_map, List.getElem?_eq_getElem hi]
      rfl
    obtain ⟨u, hu, ru⟩ := rv.get g
    obtain ⟨t, eu⟩ := ru
    have ev : v = Value.int ns[i] t := (Option.some.inj (hv'.symm.trans hu)).trans eu
    subst ev
    have e2 : (ns.map fun n => n != 0).getD i false = (ns[i] != 0) := by
      rw [List.getD_eq_getElem?_getD, List.getElem?_map, List.getElem?_eq_getElem hi]
      rfl
    have hq2 : Q' ((ns.map fun n => n != 0).getD i false) s' := hq
    rw [e2] at hq2
    exact truthy_int hq2
  · refine ⟨.bl _, H, I.kept fun b o eo => hk b o (fun m => ?_) (Heap.get?_push_of_some _ eo), ?_, q⟩
    · rcases List.mem_cons.mp m with e1 | m
      · exact absurd (e1 ▸ Heap.lt_size eo) (Nat.lt_irrefl _)
      · cases m
    · show Value.bool _ = Value.bool _
      have l1 := rv.length
      rw [List.length_map] at l1
      rw [List.size_toArray, ← l1, any_bools ns _ rfl]
/-- the least common multiple -/
def rLcm : List V → Hp → VK → Prop := fun vs H Q => ∃ a b : Int, vs = [.int a, .int b] ∧ a.natAbs < 2 ^ 4000 ∧ b.natAbs < 2 ^ 4000 ∧ Q (.int ((Nat.lcm a.natAbs b.natAbs : Nat) : Int)) H
theorem lcm_lim {a b : Nat} (ha : a < 2 ^ 4000) (hb : b < 2 ^ 4000) : Nat.lcm a b < 2 ^ 8000 := by
  have h1 : Nat.lcm a b ≤ a * b := by
    unfold Nat.lcm
    exact Nat.div_le_self _ _
  have h2 : a * b < 2 ^ 4000 * 2 ^ 4000 := Nat.mul_lt_mul'' ha hb
  rw [← Nat.pow_add] at h2
  exact Nat.lt_of_le_of_lt h1 h2
theorem cr_lcm : CallR X (.builtin "math.lcm") rLcm := by
  intro pins s σ H vs us Q I r h
  obtain ⟨a, b, rfl, ha, hb, q⟩ := h
  obtain ⟨t, u, rfl⟩ := Vals.int2 r
  have lg : ∀ n : Nat, n < 2 ^ 4000 → n.log2 < 4000 := fun n hn => PySem.Flt.log2_lt_of (by decide) hn
  have one : (1 : Nat) < 2 ^ 4000 := Nat.one_lt_two_pow (by decide)
  have m1 : (max 1 a.natAbs).log2 < 4000 := lg _ (by rw [Nat.max_lt]; exact ⟨one, ha⟩)
  have m2 : (max a.natAbs b.natAbs).log2 < 4000 := lg _ (by rw [Nat.max_lt]; exact ⟨ha, hb⟩)
  have e : (Nat.lcm 1 a.natAbs).lcm b.natAbs = Nat.lcm a.natAbs b.natAbs := by rw [Nat.lcm_one_left]
  have sz : ((((Nat.lcm 1 a.natAbs).lcm b.natAbs : Nat) : Int)).natAbs.log2 < bitsLine := by
    rw [e, Int.natAbs_natCast]
    have : (Nat.lcm a.natAbs b.natAbs).log2 < 8000 := PySem.Flt.log2_lt_of (by decide) (lcm_lim ha hb)
    have b8 : (8000 : Nat) ≤ bitsLine := by decide
    omega
  refine PySem.call_function_meets PySem.W.MGF.kind_lcm PySem.W.MGF.plain_lcm PySem.W.MGF.entry_lcm (PySem.W.MGF.args_lcm _ _) (PySem.W.mg_run_lcm a t b u (by omega) (by omega) sz).meets ?_
  rw [e]
  exact ⟨.int _, H, I.tok _, ⟨_, rfl⟩, q⟩
end
end HwA

namespace HwP
open PySem PySem.Spec PyProof.Rows L2 Hw
open C8 (pss_cut tCut)
open HwG RZ HwZ HwA
def topS (i : Nat) : Stmt := PySem.Challenge.pw_hullwright_k07_linear_equations.main.body.getD i (.Pass ⟨0, 0, 0, 0⟩)
/-- the built-in names that the text leaves as they are, the rest -/
structure Glb (mg : Str → Option Value) : Prop where
  m_len : mg "len" = none
  m_range : mg "range" = none
  m_int : mg "int" = none
  m_list : mg "list" = none
  m_tuple : mg "tuple" = none
  m_bool : mg "bool" = none
  m_isinstance : mg "isinstance" = none
  m_abs : mg "abs" = none
  m_sum : mg "sum" = none
  m_zip : mg "zip" = none
  m_str : mg "str" = none
  m_enumerate : mg "enumerate" = none
  m_gcd : mg "gcd" = some (.builtin "math.gcd")
/-- what a body that calls a def wants of it -/
structure Call (P : Program) (w : World) (K : PySem.W.Frag) (mg : Str → Option Value) (base : Heap) (k : Nat) (nm : Str) (ps : List Str) (sp : Sp) where
  g : Addr
  gd : FuncData
  G : FnOk P w K mg base CX0 k g gd ps sp
  m : mg nm = some (.ref g)
  kp : PySem.W.keepIn K (.ref g) = true
  b : Binds K gd ps []
section
variable {P : Program} {w : World} {K : PySem.W.Frag} {mg : Str → Option Value} {base : Heap}

/-! ### Euclid's loop, by Fibonacci's numbers -/
def fb : Nat → Nat
  | 0 => 0
  | 1 => 1
  | n + 2 => fb (n + 1) + fb n
theorem fb_mono (n : Nat) : fb n ≤ fb (n + 1) ∨ n = 0 := by
  cases n with
  | zero => exact .inr rfl
  | succ n => left; rw [fb]; omega
theorem fb_grow : ∀ n : Nat, 3 * 4 ^ n ≤ fb (3 * n + 4)
  | 0 => by decide
  | n + 1 => by
    have ih := fb_grow n
    have e1 : fb (3 * (n + 1) + 4) = fb (3 * n + 6) + fb (3 * n + 5) := by rw [show 3 * (n + 1) + 4 = (3 * n + 5) + 2 by omega, fb]
    have e2 : fb (3 * n + 6) = fb (3 * n + 5) + fb (3 * n + 4) := by rw [show 3 * n + 6 = (3 * n + 4) + 2 by omega, fb]
    have e3 : fb (3 * n + 5) = fb (3 * n + 4) + fb (3 * n + 3) := by rw [show 3 * n + 5 = (3 * n + 3) + 2 by omega, fb]
    have e4 : fb (3 * n + 4) = fb (3 * n + 3) + fb (3 * n + 2) := by rw [show 3 * n + 4 = (3 * n + 2) + 2 by omega, fb]
    have e5 := (fb_mono (3 * n + 2)).resolve_right (by omega)
    have e5 : fb (3 * n + 2) ≤ fb (3 * n + 3) := e5
    rw [Nat.pow_succ]
    omega
theorem fb_600 : 2 ^ 397 ≤ fb 600 := by
  have h := fb_grow 198
  have e : fb (3 * 198 + 4) = fb 598 := rfl
  rw [e] at h
  have h1 : fb 598 ≤ fb 599 := (fb_mono 598).resolve_right (by decide)
  have h2 : fb 599 ≤ fb 600 := (fb_mono 599).resolve_right (by decide)
  have h3 : (2 : Nat) ^ 397 ≤ 3 * 4 ^ 198 := by decide +kernel
  omega
def Fit2 (i A B : Nat) : Prop := (i = 0 ∧ B < 2 ^ 395) ∨ ∃ j, i = j + 1 ∧ B < A ∧ fb (j + 1) * A + fb j * B < 2 ^ 395
theorem fit2_step {i A B : Nat} (h : Fit2 i A B) (hb : B ≠ 0) : Fit2 (i + 1) B (A % B) := by
  have hr : A % B < B := Nat.mod_lt _ (Nat.pos_of_ne_zero hb)
  rcases h with ⟨rfl, h⟩ | ⟨j, rfl, hlt, h⟩
  · refine .inr ⟨0, rfl, hr, ?_⟩
    show 1 * B + 0 * (A % B) < _
    omega
  · refine .inr ⟨j + 1, rfl, hr, ?_⟩
    have h2 : B + A % B ≤ A := by
      have e : B * (A / B) + A % B = A := Nat.div_add_mod A B
      have q : 1 ≤ A / B := Nat.div_pos (Nat.le_of_lt hlt) (Nat.pos_of_ne_zero hb)
      have m : B * 1 ≤ B * (A / B) := Nat.mul_le_mul_left _ q
      omega
    have h3 := Nat.mul_le_mul_left (fb (j + 1)) h2
    have e : fb (j + 1 + 1) * B + fb (j + 1) * (A % B) = fb (j + 1) * (B + A % B) + fb j * B := by
      rw [show fb (j + 1 + 1) = fb (j + 1) + fb j from rfl, Nat.add_mul, Nat.mul_add]
      omega
    rw [e]
    omega
theorem fit2_end {A B : Nat} (h : Fit2 600 A B) : B = 0 := by
  rcases h with ⟨h, _⟩ | ⟨j, hj, hlt, h⟩
  · omega
  · by_cases hb : B = 0
    · exact hb
    · exfalso
      have : j = 599 := by omega
      subst this
      have h1 : fb 600 * 1 ≤ fb (599 + 1) * A := Nat.mul_le_mul_left _ (by omega)
      have h2 := fb_600
      have h3 : (2 : Nat) ^ 395 < 2 ^ 397 := Nat.pow_lt_pow_right (by decide) (by decide)
      generalize fb (599 + 1) * A = X at *
      generalize fb 600 = Y at *
      generalize fb 599 * B = W at *
      omega
/-! ### the law's greatest common divisor -/
abbrev s__law_gcd : Stmt := topS 19
theorem sc__law_gcd : FnScope ["a", "b", "k", "hold"] ["a", "b"] (defScope s__law_gcd) := ⟨rfl, rfl, rfl, by decide +kernel, rfl, by decide +kernel, by decide +kernel⟩
def spGcd : Sp := fun vs H Q _ => ∃ a b : Int, vs = [.int a, .int b] ∧ b.natAbs < 2 ^ 395 ∧ Q (.int (g2 a b)) H
theorem abs_of (a : Int) : (if a < 0 then -a else a) = ((a.natAbs : Nat) : Int) := by
  split <;> omega
theorem ok_gcd {f : Addr} {fd : FuncData} {k : Nat} (F : Fun K "_law_gcd" "_law_gcd" s__law_gcd f fd) (Z : Glb mg) : FnOk P w K mg base CX0 (k + 1) f fd ["a", "b"] spGcd := by
  refine F.ok sc__law_gcd (fun vs H Q E h => ?_) (fun cdv A outer s H vs Q E hr h => ?_)
  · obtain ⟨a, b, rfl, _⟩ := h
    rfl
  · obtain ⟨a, b, rfl, hb, q⟩ := h
    refine ⟨_, (pss_cons (ps_set (i := 0) sc__law_gcd.nd rfl (.inl rfl) (pe_callB call_abs (by rfl) Z.m_abs (by decide +kernel) (pa_cons (pv 0) pa_nil)))
      (pss_cons (ps_set (i := 1) sc__law_gcd.nd rfl (.inl rfl) (pe_callB call_abs (by rfl) Z.m_abs (by decide +kernel) (pa_cons (pv 1) pa_nil)))
      (pss_cons (ps_for PassesOwn.never rfl (pi_range1 rfl Z.m_range (pa_cons pe_int pa_nil)) (pg_name (i := 2) sc__law_gcd.nd rfl (.inl rfl)) (pss_cons (ps_if (pt_cmpR op_eq (pv 1) pe_int (nomark _)) (pss_one ps_break) pss_nil)
      (pss_cons (ps_set (i := 3) sc__law_gcd.nd rfl (.inl rfl) (pe_op op_modN (pe_callTy call_int1 (by rfl) Z.m_int (by decide +kernel) (pa_cons (pv 0) pa_nil)) (pv 1)))
      (pss_cons (ps_set (i := 0) sc__law_gcd.nd rfl (.inl rfl) (pv 1))
      (pss_one (ps_set (i := 1) sc__law_gcd.nd rfl (.inl rfl) (pv 3)))))))
      (pss_one (ps_ret (pv 0)))))), ?_⟩
    refine ⟨_, rfl, a, rfl, _, rfl, b, rfl, 600, rfl, by decide, by decide, ?_⟩
    rw [abs_of, abs_of]
    refine for_range (lo := 0) (n := 600) (fun i σ H' => H' = H ∧ ∃ (A B : Nat) (y2 y3 : Option V), σ = [some (.int A), some (.int B), y2, y3] ∧ Nat.gcd A B = Nat.gcd a.natAbs b.natAbs ∧ Fit2 i A B) ⟨rfl, _, _, _, _, rfl, rfl, .inl ⟨rfl, hb⟩⟩ (fun i σ H' hi hP => ?_) (fun σ H' hP => ?_)
    · obtain ⟨rfl, A', B', y2, y3, rfl, hg, hf⟩ := hP
      refine ⟨_, rfl, rfl, _, rfl, ite2 (fun e => ?_) (fun e => ?_)⟩
      · have e0 : B' = 0 := by
          have := V.int.inj (of_decide_eq_true e)
          omega
        subst e0
        refine ⟨_, rfl, ?_⟩
        rw [Nat.gcd_zero_right] at hg
        rw [hg]
        exact q
      · have e0 : B' ≠ 0 := fun z => e (by subst z; exact decide_eq_true rfl)
        refine ⟨_, rfl, .inl ⟨_, rfl, _, rfl, _, _, rfl, rfl, by omega, ?_⟩⟩
        have em : ((A' : Int).fmod (B' : Int)) = ((A' % B' : Nat) : Int) := by
          rw [Int.fmod_eq_emod_of_nonneg _ (by omega)]
          rfl
        refine ⟨_, rfl, _, rfl, rfl, B', A' % B', some (.int (0 + (i : Int))), some (.int ((A' % B' : Nat) : Int)), ?_, ?_, fit2_step hf e0⟩
        · rw [← em]
          rfl
        · rw [gcd_turn, hg]
    · obtain ⟨rfl, A', B', y2, y3, rfl, hg, hf⟩ := hP
      have e0 := fit2_end hf
      subst e0
      rw [Nat.gcd_zero_right] at hg
      refine ⟨_, rfl, ?_⟩
      rw [hg]
      exact q

/-! ### the law's draws: what they leave is told by bounds alone -/
abbrev s__law_spread : Stmt := topS 17
theorem sc__law_spread : FnScope ["cell", "mixed", "total", "k"] ["cell"] (defScope s__law_spread) := ⟨rfl, rfl, rfl, by decide +kernel, rfl, by decide +kernel, by decide +kernel⟩
def spSpread : Sp := fun vs H Q _ => ∃ c : Int, vs = [.int c] ∧ ∀ t : Int, Q (.int t) H
theorem ok_spread {f : Addr} {fd : FuncData} {k : Nat} (F : Fun K "_law_spread" "_law_spread" s__law_spread f fd) (Z : Glb mg) : FnOk P w K mg base CX0 (k + 1) f fd ["cell"] spSpread := by
  refine F.ok sc__law_spread (fun vs H Q E h => ?_) (fun cdv A outer s H vs Q E hr h => ?_)
  · obtain ⟨c, rfl, _⟩ := h
    rfl
  · obtain ⟨c, rfl, q⟩ := h
    refine ⟨_, (pss_cons (ps_set (i := 1) sc__law_spread.nd rfl (.inl rfl) (pe_op op_modN (pe_callTy call_int1 (by rfl) Z.m_int (by decide +kernel) (pa_cons (pv 0) pa_nil)) pe_int))
      (pss_cons (ps_set (i := 2) sc__law_spread.nd rfl (.inl rfl) pe_int)
      (pss_cons (ps_for PassesOwn.never rfl (pi_range1 rfl Z.m_range (pa_cons pe_int pa_nil)) (pg_name (i := 3) sc__law_spread.nd rfl (.inl rfl)) (pss_cons (ps_set (i := 1) sc__law_spread.nd rfl (.inl rfl) (pe_op op_modN (pe_callTy call_int1 (by rfl) Z.m_int (by decide +kernel) (pa_cons (pe_op op_add (pe_op op_add (pe_op op_mul (pv 1) pe_int) pe_int) (pv 3)) pa_nil)) pe_int))
      (pss_one (ps_set (i := 2) sc__law_spread.nd rfl (.inl rfl) (pe_op op_add (pe_op op_mul (pv 2) pe_int) (pv 1))))))
      (pss_one (ps_ret (pv 2)))))), ?_⟩
    refine ⟨_, rfl, .inl ⟨_, rfl, _, _, rfl, rfl, (by show (2147483647 : Int) ≠ 0; decide), 4, rfl, by decide, by decide, ?_⟩⟩
    refine for_range (lo := 0) (n := 4) (fun i σ H' => H' = H ∧ ∃ (m t : Int) (y3 : Option V), σ = [some (.int c), some (.int m), some (.int t), y3]) ⟨rfl, _, _, _, rfl⟩ (fun i σ H' hi hP => ?_) (fun σ H' hP => ?_)
    · obtain ⟨rfl, m, t, y3, rfl⟩ := hP
      refine ⟨_, rfl, _, _, rfl, rfl, .inr ⟨by decide, by decide⟩, _, _, rfl, rfl, _, rfl, _, _, rfl, rfl, .inl ⟨_, rfl, _, _, rfl, rfl, (by show (2147483647 : Int) ≠ 0; decide), ?_⟩⟩
      exact ⟨_, rfl, _, _, rfl, rfl, .inr ⟨by decide, by decide⟩, _, rfl, _, _, rfl, rfl, rfl, _, _, _, rfl⟩
    · obtain ⟨rfl, m, t, y3, rfl⟩ := hP
      exact ⟨_, rfl, q t⟩
/-- a pool: its script's ints, then four ints -/
def Pl (H : Hp) (p : Addr) : Prop := ∃ (q : Addr) (ns : List Int) (a : Nat) (b c d : Int), H p = some (.lst [.ref q, .int a, .int b, .int c, .int d]) ∧ H q = some (.lst (ns.map V.int)) ∧ q ≠ p
/-- the head of the list at p -/
def Hd (H : Hp) (p q : Addr) : Prop := ∃ l, H p = some (.lst (.ref q :: l))
/-- all but p is as it was, and p has its head -/
def But (p : Addr) (H H' : Hp) : Prop := (∀ x, x ≠ p → H' x = H x) ∧ ∀ q, Hd H p q → Hd H' p q
theorem But.refl (p : Addr) (H : Hp) : But p H H := ⟨fun _ _ => rfl, fun _ h => h⟩
theorem But.trans {p : Addr} {H H1 H2 : Hp} (a : But p H H1) (b : But p H1 H2) : But p H H2 := ⟨fun x h => (b.1 x h).trans (a.1 x h), fun q h => b.2 q (a.2 q h)⟩
theorem But.upd {p q : Addr} {H : Hp} {l l' : List V} (hp : H p = some (.lst (.ref q :: l))) : But p H (upd H p (.lst (.ref q :: l'))) :=
  ⟨fun _ h => upd_ne h, fun q' h => by
    obtain ⟨l2, e⟩ := h
    have := hp.symm.trans e
    injection this with this
    injection this with this
    injection this with this
    injection this with this
    subst this
    exact ⟨l', upd_same⟩⟩
theorem pl_upd {H : Hp} {p q : Addr} {ns : List Int} (a : Nat) (b c d : Int) (hq : H q = some (.lst (ns.map V.int))) (ne : q ≠ p) : Pl (upd H p (.lst [.ref q, .int a, .int b, .int c, .int d])) p :=
  ⟨q, ns, a, b, c, d, upd_same, by rw [upd_ne ne]; exact hq, ne⟩
abbrev s__law_draw : Stmt := topS 18
theorem sc__law_draw : FnScope ["pool", "many", "cell", "mixed", "value"] ["pool", "many"] (defScope s__law_draw) := ⟨rfl, rfl, rfl, by decide +kernel, rfl, by decide +kernel, by decide +kernel⟩
def spDraw : Sp := fun vs H Q _ => ∃ (p : Addr) (m : Int), vs = [.ref p, .int m] ∧ 0 < m ∧ m.natAbs < 2 ^ 8000 ∧ Pl H p ∧ ∀ (v : Int) (H' : Hp), 0 ≤ v → v < m → Pl H' p → But p H H' → Q (.int v) H'
theorem ok_draw {f : Addr} {fd : FuncData} {k : Nat} (F : Fun K "_law_draw" "_law_draw" s__law_draw f fd) (Z : Glb mg)
    (C_law_spread : Call P w K mg base k "_law_spread" ["cell"] spSpread) : FnOk P w K mg base CX0 (k + 1) f fd ["pool", "many"] spDraw := by
  refine F.ok sc__law_draw (fun vs H Q E h => ?_) (fun cdv A outer s H vs Q E hr h => ?_)
  · obtain ⟨p, m, rfl, _⟩ := h
    rfl
  · obtain ⟨p, m, rfl, hm, hb, hP, q⟩ := h
    refine ⟨_, (pss_cut (ps_if (PW.pt (pw_and (pt_cmpR op_le (pe_ix (r := rIxL K) ix_list (pv 0) pe_int (fun _ _ => rfl)) pe_int (nomark _)) (pw_and1 (pt_cmpR op_lt (pe_ix (r := rIxL K) ix_list (pv 0) pe_int (fun _ _ => rfl)) (pe_callB call_len_seq (by rfl) Z.m_len PySem.boot_len (pa_cons (pe_ix (r := rIxL K) ix_list (pv 0) pe_int (fun _ _ => rfl)) pa_nil)) (nomark _))))) (pss_cons (ps_set (i := 2) sc__law_draw.nd rfl (.inl rfl) (pe_ix (r := rIxL K) ix_list (pe_ix (r := rIxL K) ix_list (pv 0) pe_int (fun _ _ => rfl)) (pe_ix (r := rIxL K) ix_list (pv 0) pe_int (fun _ _ => rfl)) (fun _ _ => rfl)))
      (pss_cons (ps_asg (pe_op op_add (pe_ix (r := rIxL K) ix_list (pv 0) pe_int (fun _ _ => rfl)) pe_int) (pg_sub (pv 0) pe_int set_list))
      (pss_cons (ps_asg (pv 2) (pg_sub (pv 0) pe_int set_list))
      (pss_one (ps_if (pt_cmpR op_lt (pv 2) pe_int (nomark _)) (pss_one (ps_asg (pe_call C_law_spread.G hr (by rfl) C_law_spread.m C_law_spread.kp C_law_spread.b .nil pass0 (pa_cons (pv 2) pa_nil)) (pg_sub (pv 0) pe_int set_list))) pss_nil))))) pss_nil)
      (pss_cons (ps_asg (pe_op op_add (pe_ix (r := rIxL K) ix_list (pv 0) pe_int (fun _ _ => rfl)) pe_int) (pg_sub (pv 0) pe_int set_list))
      (pss_cons (ps_if (pt_cmpR op_le (pe_ix (r := rIxL K) ix_list (pv 0) pe_int (fun _ _ => rfl)) pe_int (nomark _)) (pss_cons (ps_set (i := 3) sc__law_draw.nd rfl (.inl rfl) (pe_op op_modN (pe_callTy call_int1 (by rfl) Z.m_int (by decide +kernel) (pa_cons (pe_op op_add (pe_op op_add (pe_op op_mul (pe_ix (r := rIxL K) ix_list (pv 0) pe_int (fun _ _ => rfl)) pe_int) (pe_op op_mul (pe_ix (r := rIxL K) ix_list (pv 0) pe_int (fun _ _ => rfl)) pe_int)) pe_int) pa_nil)) pe_int))
      (pss_cons (ps_set (i := 3) sc__law_draw.nd rfl (.inl rfl) (pe_op op_modN (pe_callTy call_int1 (by rfl) Z.m_int (by decide +kernel) (pa_cons (pe_op op_add (pe_op op_mul (pv 3) pe_int) (pe_ix (r := rIxL K) ix_list (pv 0) pe_int (fun _ _ => rfl))) pa_nil)) pe_int))
      (pss_one (ps_ret (pe_op op_modN (pe_op op_fdivN (pv 3) pe_int) (pv 1)))))) pss_nil)
      (pss_cons (ps_set (i := 4) sc__law_draw.nd rfl (.inl rfl) (pe_op op_modN (pe_callTy call_int1 (by rfl) Z.m_int (by decide +kernel) (pa_cons (pe_ix (r := rIxL K) ix_list (pv 0) pe_int (fun _ _ => rfl)) pa_nil)) (pv 1)))
      (pss_cons (ps_asg (pe_op op_fdivW (pe_ix (r := rIxL K) ix_list (pv 0) pe_int (fun _ _ => rfl)) (pv 1)) (pg_sub (pv 0) pe_int set_list))
      (pss_one (ps_ret (pv 4)))))))), ?_⟩
    refine ⟨fun σ H' => ∃ y2 : Option V, σ = [some (.ref p), some (.int m), y2, none, none] ∧ Pl H' p ∧ But p H H', ?_, ?_⟩
    · obtain ⟨q', ns, a, b, c, d, hp, hq, ne⟩ := hP
      refine ⟨_, rfl, _, _, _, _, rfl, rfl, SqL.of hp, atI_nat (j := 2) rfl, _, _, rfl, rfl, _, rfl, ite2 (fun e1 => ?_) (fun e1 => ?_)⟩
      · refine ⟨_, rfl, _, _, _, _, rfl, rfl, SqL.of hp, atI_nat (j := 1) rfl, _, rfl, _, _, _, _, rfl, rfl, SqL.of hp, atI_nat (j := 0) rfl, _, _, rfl, .inl (SqL.of hq), _, _, rfl, rfl, _, rfl, ite2 (fun e2 => ?_) (fun e2 => ?_)⟩
        · have e3 : a < ns.length := by
            have := of_decide_eq_true e2
            rw [List.length_map] at this
            omega
          have g1 : (ns.map V.int)[a]? = some (.int ns[a]) := by
            rw [List.getElem?_map, List.getElem?_eq_getElem e3]
            rfl
          -- cell = pool[0][pool[1]]
          refine ⟨_, rfl, _, _, _, _, rfl, rfl, SqL.of hp, atI_nat (j := 0) rfl, _, rfl, _, _, _, _, rfl, rfl, SqL.of hp, atI_nat (j := 1) rfl, _, _, _, _, rfl, rfl, SqL.of hq, atI_nat g1, ?_⟩
          -- pool[1] = pool[1] + 1
          refine ⟨_, rfl, _, _, _, _, rfl, rfl, SqL.of hp, atI_nat (j := 1) rfl, _, _, rfl, rfl, _, rfl, _, _, _, 1, rfl, rfl, hp, rfl, ?_⟩
          -- pool[2] = cell
          refine ⟨_, rfl, _, rfl, _, _, _, 2, rfl, rfl, upd_same, rfl, ?_⟩
          rw [upd_upd]
          refine ⟨_, rfl, _, _, rfl, rfl, _, rfl, ite2 (fun e4 => ?_) (fun e4 => ?_)⟩
          · refine ⟨_, rfl, _, rfl, fun t => ⟨_, rfl, _, _, _, 2, rfl, rfl, upd_same, rfl, ?_⟩⟩
            rw [upd_upd]
            exact ⟨some (.int ns[a]), rfl, pl_upd (a + 1) t c d hq ne, (But.upd hp)⟩
          · exact ⟨some (.int ns[a]), rfl, pl_upd (a + 1) ns[a] c d hq ne, (But.upd hp)⟩
        · exact ⟨none, rfl, ⟨q', ns, a, b, c, d, hp, hq, ne⟩, But.refl _ _⟩
      · exact iteF ⟨none, rfl, ⟨q', ns, a, b, c, d, hp, hq, ne⟩, But.refl _ _⟩
    · intro σ H1 hW
      obtain ⟨y2, rfl, ⟨q', ns, a, b, c, d, hp, hq, ne⟩, hB⟩ := hW
      -- pool[3] = pool[3] + 1
      refine ⟨_, rfl, _, _, _, _, rfl, rfl, SqL.of hp, atI_nat (j := 3) rfl, _, _, rfl, rfl, _, rfl, _, _, _, 3, rfl, rfl, hp, rfl, ?_⟩
      have h0 : (upd H1 p (.lst [.ref q', .int a, .int b, .int (c + 1), .int d])) p = some (.lst [.ref q', .int a, .int b, .int (c + 1), .int d]) := upd_same
      refine ⟨_, rfl, _, _, _, _, rfl, rfl, SqL.of h0, atI_nat (j := 2) rfl, _, _, rfl, rfl, _, rfl, ite2 (fun e1 => ?_) (fun e1 => ?_)⟩
      · refine ⟨_, rfl, _, _, _, _, rfl, rfl, SqL.of h0, atI_nat (j := 4) rfl, _, _, rfl, rfl, .inr ⟨by decide, by decide⟩, _, rfl, _, _, _, _, rfl, rfl, SqL.of h0, atI_nat (j := 3) rfl, _, _, rfl, rfl, .inr ⟨by decide, by decide⟩, _, _, rfl, rfl, _, _, rfl, rfl, .inl ⟨_, rfl, _, _, rfl, rfl, (by show (2147483647 : Int) ≠ 0; decide), ?_⟩⟩
        refine ⟨_, rfl, _, _, rfl, rfl, .inr ⟨by decide, by decide⟩, _, rfl, _, _, _, _, rfl, rfl, SqL.of h0, atI_nat (j := 3) rfl, _, _, rfl, rfl, .inl ⟨_, rfl, _, _, rfl, rfl, (by show (2147483629 : Int) ≠ 0; decide), ?_⟩⟩
        refine ⟨_, rfl, _, _, rfl, rfl, ⟨by decide, by decide⟩, _, rfl, _, _, rfl, rfl, (by show m ≠ 0; omega), ?_⟩
        exact q _ _ (Int.fmod_nonneg_of_pos _ hm) (Int.fmod_lt_of_pos _ hm) (pl_upd a b (c + 1) d hq ne) (hB.trans (But.upd hp))
      · refine ⟨_, rfl, _, _, _, _, rfl, rfl, SqL.of h0, atI_nat (j := 2) rfl, .inl ⟨_, rfl, _, rfl, _, _, rfl, rfl, (by show m ≠ 0; omega), ?_⟩⟩
        refine ⟨_, rfl, _, _, _, _, rfl, rfl, SqL.of h0, atI_nat (j := 2) rfl, _, rfl, _, _, rfl, rfl, wide_div hm hb (by decide) (by decide), _, rfl, _, _, _, 2, rfl, rfl, h0, rfl, ?_⟩
        rw [upd_upd]
        refine ⟨_, rfl, ?_⟩
        exact q _ _ (Int.fmod_nonneg_of_pos _ hm) (Int.fmod_lt_of_pos _ hm) (pl_upd a _ (c + 1) d hq ne) (hB.trans (But.upd hp))

/-! ### the law's pool -/
abbrev s__law_pool : Stmt := topS 16
theorem sc__law_pool : FnScope ["script", "salt", "cell"] ["script"] (defScope s__law_pool) := ⟨rfl, rfl, rfl, by decide +kernel, rfl, by decide +kernel, by decide +kernel⟩
theorem same_upd {H : Hp} {p : Addr} {o : HO} (h : H p = none) : Same H (upd H p o) := fun b x e => by
  rw [upd_ne (ne_of_none e h)]
  exact e
theorem cut_int {ns : List Int} {lo hi : Option Int} {i : Nat} {x : V} (h : (cutV (ns.map V.int) lo hi)[i]? = some x) : ∃ n : Int, x = .int n := by
  have m := List.mem_of_getElem? h
  unfold cutV at m
  have m2 := List.mem_of_mem_drop (List.mem_of_mem_take m)
  obtain ⟨n, _, e⟩ := List.mem_map.mp m2
  exact ⟨n, e.symm⟩
def spPool (K : PySem.W.Frag) : Sp := fun vs H Q _ => ∃ (a : Addr) (ns : List Int), vs = [.ref a] ∧ SqL K H a (ns.map V.int) ∧ ∀ (H' : Hp) (p : Addr), Same H H' → H p = none → Pl H' p → Q (.ref p) H'
theorem ok_pool {f : Addr} {fd : FuncData} {k : Nat} (F : Fun K "_law_pool" "_law_pool" s__law_pool f fd) (Z : Glb mg) : FnOk P w K mg base CX0 (k + 1) f fd ["script"] (spPool K) := by
  refine F.ok sc__law_pool (fun vs H Q E h => ?_) (fun cdv A outer s H vs Q E hr h => ?_)
  · obtain ⟨a, ns, rfl, _⟩ := h
    rfl
  · obtain ⟨a, ns, rfl, hS, q⟩ := h
    refine ⟨_, (pss_cons (ps_set (i := 1) sc__law_pool.nd rfl (.inl rfl) pe_int)
      (pss_cons (ps_for PassesOwn.never rfl (pi_list (pe_slice (r := rSlL K) sl_list (pv 0) po_none (po_some pe_int))) (pg_name (i := 2) sc__law_pool.nd rfl (.inl rfl)) (pss_one (ps_set (i := 1) sc__law_pool.nd rfl (.inl rfl) (pe_op op_modN (pe_callTy call_int1 (by rfl) Z.m_int (by decide +kernel) (pa_cons (pe_op op_add (pe_op op_mul (pv 1) pe_int) (pv 2)) pa_nil)) pe_int))))
      (pss_one (ps_ret (pe_lst (pa_cons (pe_callTy call_list_of (by rfl) Z.m_list (by decide +kernel) (pa_cons (pv 0) pa_nil)) (pa_cons pe_int (pa_cons pe_int (pa_cons pe_int (pa_cons (pv 1) pa_nil)))))))))), ?_⟩
    refine ⟨_, rfl, _, rfl, a, ns.map V.int, rfl, hS, fun c nc => ?_⟩
    have s1 : Same H (upd H c (.lst (cutV (ns.map V.int) none (some 63)))) := same_upd nc
    refine ⟨c, rfl, ⟨_, SqL.of upd_same⟩, ?_⟩
    refine for_list (xs := cutV (ns.map V.int) none (some 63)) (fun i σ H' => H' = upd H c (.lst (cutV (ns.map V.int) none (some 63))) ∧ ∃ (m : Int) (y2 : Option V), σ = [some (.ref a), some (.int m), y2]) ⟨rfl, _, _, rfl⟩ (fun i σ H' _ hP => by obtain ⟨rfl, _⟩ := hP; exact SqL.of upd_same) (fun i x σ H' hx hP => ?_) (fun σ H' hP => ?_)
    · obtain ⟨rfl, m, y2, rfl⟩ := hP
      obtain ⟨n, rfl⟩ := cut_int hx
      exact ⟨_, rfl, _, _, rfl, rfl, .inr ⟨by decide, by decide⟩, _, rfl, _, _, rfl, rfl, .inl ⟨_, rfl, _, _, rfl, rfl, (by show (1000003 : Int) ≠ 0; decide), rfl, _, _, rfl⟩⟩
    · obtain ⟨rfl, m, y2, rfl⟩ := hP
      refine ⟨_, rfl, a, ns.map V.int, rfl, .inl (s1.seq hS), fun l nl => ⟨_, rfl, ?_, fun p np => ?_⟩⟩
      · exact Nat.le_of_lt (small1000 (show 5 ≤ 1000 by decide))
      · have s2 : Same (upd H c (.lst (cutV (ns.map V.int) none (some 63)))) (upd (upd H c (.lst (cutV (ns.map V.int) none (some 63)))) l (.lst (ns.map V.int))) := same_upd nl
        have lp : l ≠ p := ne_of_none upd_same np
        refine q _ _ ((s1.trans s2).trans (same_upd np)) ((s1.trans s2).free np) ⟨l, ns, 0, 0, 0, m, upd_same, ?_, lp⟩
        rw [upd_ne lp]
        exact upd_same

/-! ### the law's comparison of two answers: alike data is told to be the same -/
inductive Alike (H : Hp) : Nat → V → V → Prop where
  | int (n : Nat) (i : Int) : Alike H n (.int i) (.int i)
  | bl (n : Nat) (b : Bool) : Alike H n (.bl b) (.bl b)
  | non (n : Nat) : Alike H n .non .non
  | tup {n : Nat} {a b : Addr} {xs ys : List V} (ha : H a = some (.tup xs)) (hb : H b = some (.tup ys)) (hl : xs.length = ys.length) (hm : xs.length ≤ 1000000) (h : ∀ (i : Nat) (x y : V), xs[i]? = some x → ys[i]? = some y → Alike H n x y) : Alike H (n + 1) (.ref a) (.ref b)
  | lst {n : Nat} {a b : Addr} {xs ys : List V} (ha : H a = some (.lst xs)) (hb : H b = some (.lst ys)) (hl : xs.length = ys.length) (hm : xs.length ≤ 1000000) (h : ∀ (i : Nat) (x y : V), xs[i]? = some x → ys[i]? = some y → Alike H n x y) : Alike H (n + 1) (.ref a) (.ref b)

/-- all but p is as it was, and there may be more -/
def Keep (p : Addr) (H H' : Hp) : Prop := ∀ x o, x ≠ p → H x = some o → H' x = some o
theorem But.keep {p : Addr} {H H' : Hp} (h : But p H H') : Keep p H H' := fun x o n e => (h.1 x n).trans e
theorem Keep.trans {p : Addr} {H H1 H2 : Hp} (a : Keep p H H1) (b : Keep p H1 H2) : Keep p H H2 := fun x o n e => b x o n (a x o n e)
theorem Keep.refl (p : Addr) (H : Hp) : Keep p H H := fun _ _ _ e => e
theorem Same.keep {p : Addr} {H H' : Hp} (h : Same H H') : Keep p H H' := fun x o _ e => h x o e
theorem Pl.lst {H : Hp} {p : Addr} (h : Pl H p) : ∃ xs, H p = some (.lst xs) := by
  obtain ⟨q, ns, a, b, c, d, e, _⟩ := h
  exact ⟨_, e⟩
theorem Pl.ne {H : Hp} {p x : Addr} {ys : List V} (h : Pl H p) (hx : H x = some (.tup ys)) : x ≠ p := by
  obtain ⟨xs, e⟩ := h.lst
  exact ne_of hx e (fun z => nomatch z)
theorem Pl.same {H H' : Hp} {p : Addr} (h : Pl H p) (s : Same H H') : Pl H' p := by
  obtain ⟨q, ns, a, b, c, d, e, e2, n⟩ := h
  exact ⟨q, ns, a, b, c, d, s _ _ e, s _ _ e2, n⟩
/-- a pool whose list stands at q -/
def Plq (H : Hp) (p q : Addr) : Prop := ∃ (ns : List Int) (a : Nat) (b c d : Int), H p = some (.lst [.ref q, .int a, .int b, .int c, .int d]) ∧ H q = some (.lst (ns.map V.int)) ∧ q ≠ p
theorem Pl.q {H : Hp} {p : Addr} (h : Pl H p) : ∃ q, Plq H p q := h
theorem Plq.pl {H : Hp} {p q : Addr} (h : Plq H p q) : Pl H p := ⟨q, h⟩
theorem Plq.but {H H' : Hp} {p q : Addr} (h : Plq H p q) (hB : But p H H') (h' : Pl H' p) : Plq H' p q := by
  obtain ⟨ns, a, b, c, d, e, e2, n⟩ := h
  obtain ⟨l, hl⟩ := hB.2 q ⟨_, e⟩
  obtain ⟨q2, ns2, a2, b2, c2, d2, f, f2, n2⟩ := h'
  have := hl.symm.trans f
  injection this with this
  injection this with this
  injection this with this
  injection this with this
  subst this
  exact ⟨ns2, a2, b2, c2, d2, f, f2, n2⟩
theorem Plq.upd {H : Hp} {p q D : Addr} {o : HO} (h : Plq H p q) (h1 : p ≠ D) (h2 : q ≠ D) : Plq (upd H D o) p q := by
  obtain ⟨ns, a, b, c, d, e, e2, n⟩ := h
  exact ⟨ns, a, b, c, d, by rw [upd_ne h1]; exact e, by rw [upd_ne h2]; exact e2, n⟩
theorem Plq.same {H H' : Hp} {p q : Addr} (h : Plq H p q) (s : Same H H') : Plq H' p q := by
  obtain ⟨ns, a, b, c, d, e, e2, n⟩ := h
  exact ⟨ns, a, b, c, d, s _ _ e, s _ _ e2, n⟩
theorem Plq.ne_free {H : Hp} {p q D : Addr} (h : Plq H p q) (n : H D = none) : p ≠ D ∧ q ≠ D := by
  obtain ⟨ns, a, b, c, d, e, e2, _⟩ := h
  exact ⟨ne_of_none e n, ne_of_none e2 n⟩

theorem cmul {x y : Int} {a b : Nat} (ha : x.natAbs < 2 ^ a) (hb : y.natAbs < 2 ^ b) (h0 : 0 < a := by decide) (h1 : 0 < b := by decide) (h : a + b ≤ 1000000 := by decide) : CMulW x y := wide_mul ha hb h0 h1 h

/-! ### vectors: tuples of ints -/
/-- the greatest common divisor of a list -/
def gl (ns : List Int) : Int := ns.foldl g2 0
theorem g2_max {c x : Int} {B : Nat} (hc : c.natAbs < B) (hx : x.natAbs < B) : (g2 c x).natAbs < B := by
  by_cases h : x = 0
  · subst h
    unfold g2
    rw [show (0 : Int).natAbs = 0 from rfl, Nat.gcd_zero_right]
    omega
  · exact Nat.lt_of_le_of_lt (g2_le h) hx
theorem g2_nn (a b : Int) : 0 ≤ g2 a b := by
  unfold g2
  omega
theorem gl_step {ns : List Int} {i : Nat} {x : Int} (h : ns[i]? = some x) : gl (ns.take (i + 1)) = g2 (gl (ns.take i)) x := by
  unfold gl
  rw [List.take_add_one, h, List.foldl_append]
  rfl
theorem gl_lim {ns : List Int} {B : Nat} (h0 : 0 < B) (h : ∀ n ∈ ns, n.natAbs < B) : (gl ns).natAbs < B := by
  unfold gl
  have : ∀ (l : List Int) (c : Int), c.natAbs < B → (∀ n ∈ l, n.natAbs < B) → (l.foldl g2 c).natAbs < B := by
    intro l
    induction l with
    | nil => intro c hc _; exact hc
    | cons x r ih =>
      intro c hc hl
      exact ih _ (g2_max hc (hl x List.mem_cons_self)) fun n hn => hl n (List.mem_cons_of_mem _ hn)
  exact this ns 0 (by show 0 < B; exact h0) h
theorem gl_nn (ns : List Int) : 0 ≤ gl ns := by
  unfold gl
  have : ∀ (l : List Int) (c : Int), 0 ≤ c → 0 ≤ l.foldl g2 c := by
    intro l
    induction l with
    | nil => intro c hc; exact hc
    | cons x r ih => intro c _; exact ih _ (g2_nn _ _)
  exact this ns 0 (Int.le_refl 0)
theorem gl_take_lim {ns : List Int} {B i : Nat} (h0 : 0 < B) (h : ∀ n ∈ ns, n.natAbs < B) : (gl (ns.take i)).natAbs < B := gl_lim h0 fun n hn => h n (List.mem_of_mem_take hn)
def prim (ns : List Int) : List Int := if gl ns = 0 then ns else ns.map (· / gl ns)
def dotz (ns ms : List Int) : List Int := (ns.zip ms).map fun p => p.1 * p.2
theorem prim_len (ns : List Int) : (prim ns).length = ns.length := by
  unfold prim
  split
  · rfl
  · rw [List.length_map]
theorem map_get {ns : List Int} {i : Nat} {x : V} (h : (ns.map V.int)[i]? = some x) : ∃ n, ns[i]? = some n ∧ x = .int n := by
  rw [List.getElem?_map] at h
  cases e : ns[i]? with
  | none => rw [e] at h; cases h
  | some n => rw [e] at h; exact ⟨n, rfl, (Option.some.inj h).symm⟩
theorem get_map {ns : List Int} {i : Nat} {n : Int} (h : ns[i]? = some n) : (ns.map V.int)[i]? = some (.int n) := by
  rw [List.getElem?_map, h]
  rfl
theorem lt_of_get {α : Type} {xs : List α} {i : Nat} {x : α} (h : xs[i]? = some x) : i < xs.length := (List.getElem?_eq_some_iff.mp h).1
/-- the vector at a -/
def Vc (H : Hp) (a : Addr) (ns : List Int) : Prop := H a = some (.tup (ns.map V.int))
theorem vc_alike {H : Hp} {a b : Addr} {ns : List Int} (n : Nat) (ha : Vc H a ns) (hb : Vc H b ns) (hl : ns.length ≤ 1000) : Alike H (n + 1) (.ref a) (.ref b) :=
  .tup ha hb rfl (by rw [List.length_map]; omega) fun i x y h1 h2 => by
    have e := Option.some.inj (h1.symm.trans h2)
    subst e
    obtain ⟨m, _, rfl⟩ := map_get h1
    exact .int n m
theorem Vc.ne {H : Hp} {p a : Addr} {ns : List Int} (h : Vc H a ns) (hp : Pl H p) : a ≠ p := hp.ne h
theorem Vc.keep {H H' : Hp} {p a : Addr} {ns : List Int} (h : Vc H a ns) (hp : Pl H p) (k : Keep p H H') : Vc H' a ns := k _ _ (h.ne hp) h
theorem Vc.same {H H' : Hp} {a : Addr} {ns : List Int} (h : Vc H a ns) (k : Same H H') : Vc H' a ns := k _ _ h
theorem dotz_get {ns ms : List Int} {i : Nat} {x y : Int} (h1 : ns[i]? = some x) (h2 : ms[i]? = some y) : (dotz ns ms)[i]? = some (x * y) := by
  unfold dotz
  rw [List.getElem?_map, List.getElem?_zip_eq_some (z := (x, y)) |>.mpr ⟨h1, h2⟩]
  rfl
theorem dotz_len {ns ms : List Int} (h : ns.length = ms.length) : (dotz ns ms).length = ns.length := by
  unfold dotz
  rw [List.length_map, List.length_zip, h, Nat.min_self]
theorem take_get {α : Type} {xs : List α} {i : Nat} {x : α} (h : xs[i]? = some x) : xs.take (i + 1) = xs.take i ++ [x] := by
  rw [List.take_add_one, h]
  rfl

/-! ### walks of a list or a tuple -/
section
variable {X : Cx}
theorem PI.or {tg iter : Expr} {w1 w2 : TI} (h1 : PI X tg iter w1) (h2 : PI X tg iter w2) : PI X tg iter (fun σ H R => w1 σ H R ∨ w2 σ H R) := ⟨fun pins s σ H R I h => by
  rcases h with h | h
  · exact h1.run pins s σ H R I h
  · exact h2.run pins s σ H R I h⟩
theorem OpR.or {f : Value → Value → Sem Value} {r1 r2 : R2} (h1 : OpR X f r1) (h2 : OpR X f r2) : OpR X f (fun x y H Q => r1 x y H Q ∨ r2 x y H Q) := by
  intro pins s σ H x y v u Q I rx ry q
  rcases q with q | q
  · exact h1 pins s σ H x y v u Q I rx ry q
  · exact h2 pins s σ H x y v u Q I rx ry q
end

/-! ### fractions with positive divisors -/
/-- r holds the pair n, d, d > 0, both below 2 ^ B -/
def Fr (H : Hp) (r : Addr) (n d : Int) (B : Nat) : Prop := H r = some (.tup [.int n, .int d]) ∧ 0 < d ∧ n.natAbs < 2 ^ B ∧ d.natAbs < 2 ^ B
theorem Fr.up {H : Hp} {r : Addr} {n d : Int} {B C : Nat} (h : Fr H r n d B) (l : B ≤ C) : Fr H r n d C := ⟨h.1, h.2.1, up_pow h.2.2.1 l, up_pow h.2.2.2 l⟩
theorem Fr.mk {H : Hp} {p : Addr} {a b : Int} {B : Nat} (hb : 0 < b) (ha : a.natAbs < 2 ^ B) (hb2 : b.natAbs < 2 ^ B) : Fr (upd H p (.tup [.int (frN a b), .int (frD a b)])) p (frN a b) (frD a b) B :=
  ⟨upd_same, frD_pos hb, Nat.lt_of_le_of_lt (frN_abs (by omega)) ha, Nat.lt_of_le_of_lt (frD_abs (by omega)) hb2⟩
theorem Fr.same {H H' : Hp} {r : Addr} {n d : Int} {B : Nat} (h : Fr H r n d B) (s : Same H H') : Fr H' r n d B := ⟨s _ _ h.1, h.2⟩
theorem ints2 (a b : Int) : [V.int a, V.int b].length ≤ sizeLine := Nat.le_of_lt (small1000 (show 2 ≤ 1000 by decide))
theorem g2_lim {a b : Int} (hb : 0 < b) (hb2 : b.natAbs < 2 ^ 299) : (g2 a b).natAbs < 2 ^ 299 := Nat.lt_of_le_of_lt (g2_le (by omega)) hb2
def spFr : Sp := fun vs H Q _ => ∃ a b : Int, vs = [.int a, .int b] ∧ 0 < b ∧ a.natAbs < 2 ^ 299 ∧ b.natAbs < 2 ^ 299 ∧ ∀ p, H p = none → Q (.ref p) (upd H p (.tup [.int (frN a b), .int (frD a b)]))

/-! ### the greatest common divisor of a list -/
theorem gl_dvd {ns : List Int} {n : Int} (h : n ∈ ns) : gl ns ∣ n := by
  unfold gl
  have : ∀ (l : List Int) (c : Int), (l.foldl g2 c) ∣ c ∧ ∀ n ∈ l, (l.foldl g2 c) ∣ n := by
    intro l
    induction l with
    | nil => intro c; exact ⟨Int.dvd_refl _, fun n h => nomatch h⟩
    | cons x r ih =>
      intro c
      obtain ⟨h1, h2⟩ := ih (g2 c x)
      refine ⟨Int.dvd_trans h1 (g2_dvd_l c x), fun n hn => ?_⟩
      rcases List.mem_cons.mp hn with rfl | hn
      · exact Int.dvd_trans h1 (g2_dvd_r c n)
      · exact h2 n hn
  exact (this ns 0).2 n h
theorem gl_pos {ns : List Int} {n : Int} (h : n ∈ ns) (hn : n ≠ 0) : 0 < gl ns := by
  have h1 := gl_nn ns
  have h2 : gl ns ≠ 0 := fun z => by
    have := gl_dvd h
    rw [z] at this
    exact hn (Int.zero_dvd.mp this)
  omega
theorem prim_get {ns : List Int} {i : Nat} {n : Int} (h : ns[i]? = some n) (g : 0 < gl ns) : (prim ns)[i]? = some (n / gl ns) := by
  unfold prim
  rw [if_neg (by omega), List.getElem?_map, h]
  rfl
theorem prim_small {ns : List Int} {B : Nat} (h : ∀ n ∈ ns, n.natAbs ≤ B) : ∀ n ∈ prim ns, n.natAbs ≤ B := by
  unfold prim
  split
  · exact h
  · rename_i g
    intro n hn
    obtain ⟨m, hm, rfl⟩ := List.mem_map.mp hn
    exact Nat.le_trans (ediv_abs (by have := gl_nn ns; omega)) (h m hm)
theorem gl_cons (x : Int) (ns : List Int) : gl (x :: ns) = ((Nat.gcd x.natAbs (gl ns).natAbs : Nat) : Int) := by
  have key : ∀ (l : List Int) (c : Int), 0 ≤ c → l.foldl g2 c = ((Nat.gcd c.natAbs (l.foldl g2 0).natAbs : Nat) : Int) := by
    intro l
    induction l with
    | nil =>
      intro c hc
      show c = ((Nat.gcd c.natAbs 0 : Nat) : Int)
      rw [Nat.gcd_zero_right]
      omega
    | cons y r ih =>
      intro c hc
      show r.foldl g2 (g2 c y) = ((Nat.gcd c.natAbs (r.foldl g2 (g2 0 y)).natAbs : Nat) : Int)
      rw [ih _ (g2_nn c y), ih _ (g2_nn 0 y)]
      congr 1
      unfold g2
      simp only [Int.natAbs_natCast, Int.natAbs_zero, Nat.gcd_zero_left, Nat.gcd_assoc]
  unfold gl
  show ns.foldl g2 (g2 0 x) = _
  rw [key _ _ (g2_nn 0 x)]
  congr 1
  unfold g2
  simp only [Int.natAbs_natCast, Int.natAbs_zero, Nat.gcd_zero_left]
theorem gl_scale (a : Int) (ha : 0 ≤ a) : ∀ ns : List Int, gl (ns.map (a * ·)) = a * gl ns
  | [] => by
    show (0 : Int) = a * 0
    rw [Int.mul_zero]
  | n :: ns => by
    rw [List.map_cons, gl_cons, gl_cons, gl_scale a ha ns]
    have h := gl_nn ns
    rw [Int.natAbs_mul, Int.natAbs_mul, Nat.gcd_mul_left, Int.natCast_mul]
    rw [show ((a.natAbs : Nat) : Int) = a by omega]
theorem prim_zero {ns : List Int} (h : gl ns = 0) : ∀ n ∈ ns, n = 0 := fun n hn => by
  have := gl_dvd hn
  rw [h] at this
  exact Int.zero_dvd.mp this

/-! ### fractions in lowest terms -/
def Low (f : Int × Int) : Prop := 0 < f.2 ∧ Nat.gcd f.1.natAbs f.2.natAbs = 1
theorem low_fr {a b : Int} (hb : 0 < b) : Low (frN a b, frD a b) := by
  refine ⟨frD_pos hb, ?_⟩
  have g := g2_pos (a := a) (b := b) (by omega)
  have e : (g2 a b).natAbs = Nat.gcd a.natAbs b.natAbs := by
    unfold g2
    exact Int.natAbs_natCast _
  show Nat.gcd (a / g2 a b).natAbs (b / g2 a b).natAbs = 1
  rw [Int.natAbs_ediv_of_dvd (g2_dvd_l a b), Int.natAbs_ediv_of_dvd (g2_dvd_r a b), e]
  rw [Nat.gcd_div (Nat.gcd_dvd_left _ _) (Nat.gcd_dvd_right _ _)]
  exact Nat.div_self (Nat.gcd_pos_of_pos_right _ (by omega))
/-- the cross product of a fraction and what it comes from -/
theorem fr_cross {a b : Int} (hb : 0 < b) : frN a b * b = frD a b * a := by
  have g := g2_pos (a := a) (b := b) (by omega)
  obtain ⟨x, hx⟩ := g2_dvd_l a b
  obtain ⟨y, hy⟩ := g2_dvd_r a b
  unfold frN frD
  generalize hg : g2 a b = k at *
  have h1 : a / k = x := by rw [hx, Int.mul_ediv_cancel_left _ (by omega)]
  have h2 : b / k = y := by rw [hy, Int.mul_ediv_cancel_left _ (by omega)]
  rw [h1, h2, hx, hy]
  simp only [Int.mul_assoc, Int.mul_left_comm, Int.mul_comm]
/-- equal fractions in lowest terms -/
theorem low_eq {f g : Int × Int} (hf : Low f) (hg : Low g) (h : f.1 * g.2 = f.2 * g.1) : f = g := by
  obtain ⟨a, b⟩ := f
  obtain ⟨c, d⟩ := g
  obtain ⟨b0, h1⟩ := hf
  obtain ⟨d0, h2⟩ := hg
  simp only at *
  have hN : a.natAbs * d.natAbs = b.natAbs * c.natAbs := by rw [← Int.natAbs_mul, ← Int.natAbs_mul, h]
  have k1 : b.natAbs ∣ d.natAbs := by
    have : b.natAbs ∣ a.natAbs * d.natAbs := ⟨c.natAbs, hN⟩
    exact Nat.Coprime.dvd_of_dvd_mul_left (by rw [Nat.Coprime, Nat.gcd_comm]; exact h1) this
  have k2 : d.natAbs ∣ b.natAbs := by
    have : d.natAbs ∣ c.natAbs * b.natAbs := ⟨a.natAbs, by rw [Nat.mul_comm c.natAbs, ← hN, Nat.mul_comm]⟩
    exact Nat.Coprime.dvd_of_dvd_mul_left (by rw [Nat.Coprime, Nat.gcd_comm]; exact h2) this
  have e : b = d := by
    have := Nat.dvd_antisymm k1 k2
    omega
  subst e
  have : a * b = c * b := by rw [h, Int.mul_comm]
  rw [Int.eq_of_mul_eq_mul_right (by omega) this]
/-- the least common multiple of divisors, their product -/
def lcmD (fs : List (Int × Int)) : Int := fs.foldl (fun c f => ((Nat.lcm c.natAbs f.2.natAbs : Nat) : Int)) 1
def prodD (fs : List (Int × Int)) : Int := fs.foldl (fun c f => c * f.2) 1

/-- all but p stands, and p has its head -/
structure Kp (p : Addr) (H H' : Hp) : Prop where
  k : Keep p H H'
  h : ∀ q, Hd H p q → Hd H' p q
theorem But.kp {p : Addr} {H H' : Hp} (h : But p H H') : Kp p H H' := ⟨h.keep, h.2⟩
theorem Same.kp {p : Addr} {H H' : Hp} (h : Same H H') : Kp p H H' := ⟨Same.keep h, fun q ⟨l, e⟩ => ⟨l, h _ _ e⟩⟩
theorem Kp.trans {p : Addr} {H H1 H2 : Hp} (a : Kp p H H1) (b : Kp p H1 H2) : Kp p H H2 := ⟨a.k.trans b.k, fun q h => b.h q (a.h q h)⟩
theorem Plq.hd {H : Hp} {p q : Addr} (h : Plq H p q) : Hd H p q := by
  obtain ⟨ns, a, b, c, d, e, _⟩ := h
  exact ⟨_, e⟩
theorem hd_inj {H : Hp} {p q r : Addr} (h : Hd H p q) (h' : Hd H p r) : q = r := by
  obtain ⟨l, e⟩ := h
  obtain ⟨l', e'⟩ := h'
  have := e.symm.trans e'
  injection this with this
  injection this with this
  injection this with this
  injection this
theorem Plq.kp {H H' : Hp} {p q : Addr} (h : Plq H p q) (k : Kp p H H') (h' : Pl H' p) : Plq H' p q := by
  obtain ⟨q2, e⟩ := h'.q
  rw [hd_inj (k.h _ h.hd) e.hd]
  exact e
/-- a comprehension over range whose turn draws: what it leaves -/
def Dr (p : Addr) (H : Hp) (D : Addr) (B : Nat) (i : Nat) (H' : Hp) : Prop := (∃ q, Plq H p q ∧ Plq H' p q ∧ q ≠ D) ∧ Keep p H H' ∧ ∃ ns : List Int, H' D = some (.lst (ns.map V.int)) ∧ ns.length = i ∧ ∀ n ∈ ns, n.natAbs < 2 ^ B
theorem dr0 {p D : Addr} {H : Hp} {B : Nat} (hp : Pl H p) (nD : H D = none) : Dr p H D B 0 (upd H D (.lst [])) := by
  obtain ⟨q, hq⟩ := hp.q
  exact ⟨⟨q, hq, hq.same (same_upd nD), (hq.ne_free nD).2⟩, Same.keep (same_upd nD), [], upd_same, rfl, fun n h => nomatch h⟩
theorem dr_step {p D : Addr} {H H' H2 : Hp} {B i : Nat} {n : Int} (nD : H D = none) (hP : Pl H p) (h : Dr p H D B i H') (hB : But p H' H2) (P2 : Pl H2 p) (hn : n.natAbs < 2 ^ B) :
    ∃ acc, H2 D = some (.lst acc) ∧ acc.length = i ∧ Dr p H D B (i + 1) (upd H2 D (.lst (acc ++ [.int n]))) := by
  obtain ⟨⟨q, hq0, hq, qD⟩, K1, ns, e, hl, hb⟩ := h
  have ne : D ≠ p := by
    obtain ⟨q0, h0⟩ := hP.q
    exact (h0.ne_free nD).1.symm
  refine ⟨ns.map V.int, (hB.1 D ne).trans e, by rw [List.length_map]; exact hl, ⟨q, hq0, (hq.but hB P2).upd ne.symm qD, qD⟩, ?_, ns ++ [n], ?_, ?_, ?_⟩
  · intro x o hx ho
    have hxD : x ≠ D := ne_of_none ho nD
    rw [upd_ne hxD]
    exact hB.keep _ _ hx (K1 _ _ hx ho)
  · rw [upd_same, List.map_append]
    rfl
  · rw [List.length_append, hl]
    rfl
  · intro m hm
    rcases List.mem_append.mp hm with h | h
    · exact hb m h
    · rw [List.mem_singleton.mp h]
      exact hn
theorem Dr.kp {p D : Addr} {H H' : Hp} {B i : Nat} (h : Dr p H D B i H') : Kp p H H' := by
  obtain ⟨⟨q, h1, h2, _⟩, k, _⟩ := h
  exact ⟨k, fun q' hq => by rw [hd_inj hq h1.hd]; exact h2.hd⟩

/-! ### values of any kind -/
theorem cat_h {H : Hp} {a b : Addr} {xs ys : List V} {Q : VK} (ha : H a = some (.tup xs)) (hb : H b = some (.tup ys)) (hz : xs.length + ys.length ≤ 1000) (q : ∀ (H' : Hp) (r : Addr), Same H H' → H' r = some (.tup (xs ++ ys)) → Q (.ref r) H') : rCatA K (.ref a) (.ref b) H Q :=
  ⟨a, b, xs, ys, rfl, rfl, SqT.of ha, SqT.of hb, Nat.le_of_lt (small1000 hz), fun e => q _ _ (Same.refl _) (by rw [e]; exact hb), fun _ e => q _ _ (Same.refl _) (by rw [e, List.append_nil]; exact ha), fun _ _ p np => q _ _ (same_upd np) upd_same⟩
theorem cut_whole {xs : List V} {lo hi : Option Int} (h : HT.sIx xs.length 0 lo = 0 ∧ HT.sIx xs.length xs.length hi = xs.length) : cutV xs lo hi = xs := by
  unfold cutV
  rw [h.1, h.2]
  exact List.take_length
theorem sl_h {H : Hp} {a : Addr} {xs : List V} {lo hi : Option Int} {Q : VK} (ha : H a = some (.tup xs)) (q : ∀ (H' : Hp) (r : Addr), Same H H' → H' r = some (.tup (cutV xs lo hi)) → Q (.ref r) H') : rSlA K (.ref a) lo hi H Q :=
  ⟨a, xs, rfl, SqT.of ha, fun e => q _ _ (Same.refl _) (by rw [cut_whole e]; exact ha), fun _ p np => q _ _ (same_upd np) upd_same⟩
theorem cut_mem {xs : List V} {lo hi : Option Int} {x : V} (h : x ∈ cutV xs lo hi) : x ∈ xs := List.mem_of_mem_drop (List.mem_of_mem_take h)
theorem cut_take (xs : List V) (j : Nat) : cutV xs none (some (j : Int)) = xs.take j := by
  unfold cutV
  rw [HT.sIx_none, HT.sIx_nat, List.drop_zero, Nat.sub_zero]
  by_cases h : j ≤ xs.length
  · rw [Nat.min_eq_left h]
  · rw [Nat.min_eq_right (by omega), List.take_length, List.take_of_length_le (by omega)]
theorem cut_drop (xs : List V) (j : Nat) : cutV xs (some (j : Int)) none = xs.drop j := by
  unfold cutV
  rw [HT.sIx_none, HT.sIx_nat]
  by_cases h : j ≤ xs.length
  · rw [Nat.min_eq_left h]
    exact List.take_of_length_le (by rw [List.length_drop]; exact Nat.le_refl _)
  · rw [Nat.min_eq_right (by omega), Nat.sub_self, List.take_zero, List.drop_eq_nil_of_le (by omega)]
/-- a value of any kind, of depth n at most, its ints below 2 ^ B, its sequences not longer than B -/
inductive Dt (p : Addr) (H : Hp) (B : Nat) : Nat → V → Prop
  | non (n : Nat) : Dt p H B n .non
  | bl (n : Nat) (b : Bool) : Dt p H B n (.bl b)
  | int (n : Nat) (i : Int) (h : i.natAbs < 2 ^ B) : Dt p H B n (.int i)
  | str (n : Nat) (s : Str) : Dt p H B n (.str s)
  | tup {n : Nat} {a : Addr} {xs : List V} (h : H a = some (.tup xs)) (hl : xs.length ≤ B) (hx : ∀ x ∈ xs, Dt p H B n x) : Dt p H B (n + 1) (.ref a)
  | lst {n : Nat} {a : Addr} {xs : List V} (h : H a = some (.lst xs)) (np : a ≠ p) (hl : xs.length ≤ B) (hx : ∀ x ∈ xs, Dt p H B n x) : Dt p H B (n + 1) (.ref a)
theorem Dt.keep {p : Addr} {H H' : Hp} {B n : Nat} {v : V} (hP : Pl H p) (k : Keep p H H') (d : Dt p H B n v) : Dt p H' B n v := by
  induction d with
  | non n => exact .non n
  | bl n b => exact .bl n b
  | int n i h => exact .int n i h
  | str n s => exact .str n s
  | tup h hl _ ih => exact .tup (k _ _ (hP.ne h) h) hl ih
  | lst h np hl _ ih => exact .lst (k _ _ np h) np hl ih
theorem Dt.same {p : Addr} {H H' : Hp} {B n : Nat} {v : V} (k : Same H H') (d : Dt p H B n v) : Dt p H' B n v := by
  induction d with
  | non n => exact .non n
  | bl n b => exact .bl n b
  | int n i h => exact .int n i h
  | str n s => exact .str n s
  | tup h hl _ ih => exact .tup (k _ _ h) hl ih
  | lst h np hl _ ih => exact .lst (k _ _ h) np hl ih
theorem Dt.up {p : Addr} {H : Hp} {B C n m : Nat} {v : V} (hB : B ≤ C) (hn : n ≤ m) (d : Dt p H B n v) : Dt p H C m v := by
  induction d generalizing m with
  | non n => exact .non m
  | bl n b => exact .bl m b
  | int n i h => exact .int m i (up_pow h hB)
  | str n s => exact .str m s
  | tup h hl _ ih =>
    obtain ⟨j, rfl⟩ : ∃ j, m = j + 1 := ⟨m - 1, by omega⟩
    exact .tup h (Nat.le_trans hl hB) fun x hx => ih x hx (by omega)
  | lst h np hl _ ih =>
    obtain ⟨j, rfl⟩ : ∃ j, m = j + 1 := ⟨m - 1, by omega⟩
    exact .lst h np (Nat.le_trans hl hB) fun x hx => ih x hx (by omega)
/-- what isinstance tells of it: tuple, int, bool -/
structure Kd (K : PySem.W.Frag) (H : Hp) (v : V) (t i b : Bool) : Prop where
  ex : ∃ T : String, TyX K H v (.type T) ∧ kitB T "tuple" = some t ∧ kitB T "int" = some i ∧ kitB T "bool" = some b
/-- .. and goes on to tell while all but p stands -/
structure Ko (K : PySem.W.Frag) (p : Addr) (H : Hp) (v : V) (i b : Bool) : Prop where
  ex : ∃ T : String, (∀ H', Keep p H H' → TyX K H' v (.type T)) ∧ kitB T "tuple" = some false ∧ kitB T "int" = some i ∧ kitB T "bool" = some b
def isI : V → Bool
  | .int _ => true
  | _ => false
theorem kd_non {H : Hp} : Kd K H .non false false false := ⟨"NoneType", .base .non, by decide +kernel, by decide +kernel, by decide +kernel⟩
theorem kd_bl {H : Hp} (b : Bool) : Kd K H (.bl b) false true true := ⟨"bool", .base (.bl b), by decide +kernel, by decide +kernel, by decide +kernel⟩
theorem kd_int {H : Hp} (i : Int) : Kd K H (.int i) false true false := ⟨"int", .base (.int i), by decide +kernel, by decide +kernel, by decide +kernel⟩
theorem kd_str {H : Hp} (s : Str) : Kd K H (.str s) false false false := ⟨"str", .base (.str s), by decide +kernel, by decide +kernel, by decide +kernel⟩
theorem kd_tup {H : Hp} {a : Addr} {xs : List V} (h : H a = some (.tup xs)) : Kd K H (.ref a) true false false := ⟨"tuple", .base (.tup h), by decide +kernel, by decide +kernel, by decide +kernel⟩
theorem kd_lst {H : Hp} {a : Addr} {xs : List V} (h : H a = some (.lst xs)) : Kd K H (.ref a) false false false := ⟨"list", .base (.lst h), by decide +kernel, by decide +kernel, by decide +kernel⟩
/-- every such value is a tuple, an int, or neither -/
theorem Dt.kinds {p : Addr} {H : Hp} {B n : Nat} {v : V} (d : Dt p H B n v) :
    (∃ a xs m, v = .ref a ∧ H a = some (.tup xs) ∧ xs.length ≤ B ∧ n = m + 1 ∧ (∀ x ∈ xs, Dt p H B m x) ∧ Kd K H v true false false ∧ isI v = false) ∨ (∃ i, v = .int i ∧ i.natAbs < 2 ^ B ∧ Kd K H v false true false ∧ isI v = true) ∨
    (∃ i b, (i = true → b = true) ∧ Kd K H v false i b ∧ isI v = false ∧ (∀ a xs, v = .ref a → H a ≠ some (.tup xs)) ∧ Ko K p H v i b) := by
  cases d with
  | non n => exact .inr (.inr ⟨_, _, id, kd_non, rfl, (fun _ _ z => nomatch z), ⟨"NoneType", fun _ _ => .base .non, by decide +kernel, by decide +kernel, by decide +kernel⟩⟩)
  | bl n b => exact .inr (.inr ⟨_, _, id, kd_bl b, rfl, (fun _ _ z => nomatch z), ⟨"bool", fun _ _ => .base (.bl b), by decide +kernel, by decide +kernel, by decide +kernel⟩⟩)
  | int n i h => exact .inr (.inl ⟨i, rfl, h, kd_int i, rfl⟩)
  | str n s => exact .inr (.inr ⟨_, _, id, kd_str s, rfl, (fun _ _ z => nomatch z), ⟨"str", fun _ _ => .base (.str s), by decide +kernel, by decide +kernel, by decide +kernel⟩⟩)
  | tup h hl hx => exact .inl ⟨_, _, _, rfl, h, hl, rfl, hx, kd_tup h, rfl⟩
  | lst h np hl hx => exact .inr (.inr ⟨_, _, id, kd_lst h, rfl, (fun a' xs' e z => by cases e; rw [h] at z; cases z), ⟨"list", fun _ k => .base (.lst (k _ _ np h)), by decide +kernel, by decide +kernel, by decide +kernel⟩⟩)

/-! ### == of tuples of ints -/
theorem eqv_ints : ∀ ns ms : List Int, PyData.eqvAll (ns.map PyData.int) (ms.map PyData.int) = decide (ns = ms)
  | [], [] => by rw [List.map_nil, PyData.eqvAll]; rfl
  | [], m :: ms => by rw [List.map_nil, List.map_cons, PyData.eqvAll]; rfl
  | n :: ns, [] => by rw [List.map_nil, List.map_cons, PyData.eqvAll]; rfl
  | n :: ns, m :: ms => by
    rw [List.map_cons, List.map_cons, PyData.eqvAll, PyData.eqv, eqv_ints ns ms]
    by_cases h : n = m
    · subst h
      by_cases h2 : ns = ms <;> simp [h2]
    · simp [h]
theorem lay_ints : ∀ ns : List Int, PyData.canLayAll0 (ns.map PyData.int) = true
  | [] => by rw [List.map_nil, PyData.canLayAll0]
  | n :: ns => by
    rw [List.map_cons, PyData.canLayAll0, lay_ints ns]
    rfl
theorem depth_ints : ∀ ns : List Int, PyData.depthAll (ns.map PyData.int) ≤ 1
  | [] => by rw [List.map_nil, PyData.depthAll]; omega
  | n :: ns => by
    have := depth_ints ns
    rw [List.map_cons, PyData.depthAll, PyData.depth]
    omega
theorem shaped_ints (ns : List Int) (h : ns.length ≤ 1000) : SeqAt.shaped (.tuple (ns.map PyData.int)) = true := by
  unfold SeqAt.shaped
  rw [Bool.and_eq_true]
  refine ⟨?_, ?_⟩
  · rw [PyData.canLay0, lay_ints]
  · rw [decide_eq_true_iff, PyData.depth]
    have := depth_ints ns
    omega
theorem dp_ints {H : Hp} : ∀ ns : List Int, DpAll K H (ns.map V.int) (ns.map PyData.int)
  | [] => .nil
  | n :: ns => .cons (.int n) (dp_ints ns)

/-! ### lists of vectors -/
def RL (H : Hp) (a : Addr) (n : Nat) (R : Nat → Addr → Prop) : Prop := ∃ rs : List Addr, H a = some (.lst (rs.map V.ref)) ∧ rs.length = n ∧ ∀ i r, rs[i]? = some r → R i r
def VL (H : Hp) (a : Addr) (vs : List (List Int)) : Prop := RL H a vs.length fun i r => ∃ v, vs[i]? = some v ∧ Vc H r v
theorem VL.same {H H' : Hp} {a : Addr} {vs : List (List Int)} (h : VL H a vs) (s : Same H H') : VL H' a vs := by
  obtain ⟨rs, e, l, g⟩ := h
  exact ⟨rs, s _ _ e, l, fun i r hr => by obtain ⟨v, h1, h2⟩ := g i r hr; exact ⟨v, h1, h2.same s⟩⟩
theorem VL.kp {H H' : Hp} {a p : Addr} {vs : List (List Int)} (h : VL H a vs) (hP : Pl H p) (ne : a ≠ p) (s : Keep p H H') : VL H' a vs := by
  obtain ⟨rs, e, l, g⟩ := h
  exact ⟨rs, s _ _ ne e, l, fun i r hr => by obtain ⟨v, h1, h2⟩ := g i r hr; exact ⟨v, h1, h2.keep hP s⟩⟩
theorem ref_get {rs : List Addr} {i : Nat} {x : V} (h : (rs.map V.ref)[i]? = some x) : ∃ r, rs[i]? = some r ∧ x = .ref r := by
  rw [List.getElem?_map] at h
  obtain ⟨r, h1, h2⟩ := Option.map_eq_some_iff.mp h
  exact ⟨r, h1, h2.symm⟩
theorem get_ref {rs : List Addr} {i : Nat} {r : Addr} (h : rs[i]? = some r) : (rs.map V.ref)[i]? = some (.ref r) := by
  rw [List.getElem?_map, h]
  rfl
theorem VL.at {H : Hp} {a : Addr} {vs : List (List Int)} {i : Nat} (h : VL H a vs) (hi : i < vs.length) : ∃ (rs : List Addr) (r : Addr), H a = some (.lst (rs.map V.ref)) ∧ rs.length = vs.length ∧ rs[i]? = some r ∧ Vc H r (vs[i]'hi) := by
  obtain ⟨rs, e, l, g⟩ := h
  have er : rs[i]? = some (rs[i]'(by omega)) := List.getElem?_eq_getElem (by omega)
  obtain ⟨v, h1, h2⟩ := g i _ er
  rw [List.getElem?_eq_getElem hi] at h1
  cases h1
  exact ⟨rs, _, e, l, er, h2⟩
theorem no_get {α : Type} {j : Nat} {r : α} {P : Prop} (h : ([] : List α)[j]? = some r) : P := by
  rw [List.getElem?_nil] at h
  cases h
theorem app_get {α : Type} {xs : List α} {x y : α} {j : Nat} (h : (xs ++ [x])[j]? = some y) : xs[j]? = some y ∨ (j = xs.length ∧ y = x) := by
  rw [List.getElem?_append] at h
  split at h
  · exact .inl h
  · have := lt_of_get h
    rw [List.length_singleton] at this
    have hj : j = xs.length := by omega
    subst hj
    rw [Nat.sub_self] at h
    cases h
    exact .inr ⟨rfl, rfl⟩
/-- a vector more at the end -/
theorem VL.push {H : Hp} {a r : Addr} {vs : List (List Int)} {v : List Int} {acc : List V} (h : VL H a vs) (hr : Vc H r v) (e : H a = some (.lst acc)) : VL (upd H a (.lst (acc ++ [.ref r]))) a (vs ++ [v]) := by
  obtain ⟨rs, e', l, g⟩ := h
  rw [e'] at e
  have e := HO.lst.inj (Option.some.inj e)
  subst e
  have tups : ∀ t (u : List Int), Vc H t u → Vc (upd H a (.lst (rs.map V.ref ++ [.ref r]))) t u := fun t u ht => by
    unfold Vc at ht ⊢
    rw [upd_ne (ne_of ht e' (fun z => nomatch z))]
    exact ht
  refine ⟨rs ++ [r], by rw [upd_same, List.map_append]; rfl, by rw [List.length_append, List.length_append, l]; rfl, fun i t ht => ?_⟩
  rcases app_get ht with h1 | ⟨h1, rfl⟩
  · obtain ⟨u, h2, h3⟩ := g i t h1
    exact ⟨u, by rw [List.getElem?_append_left (lt_of_get h2)]; exact h2, tups _ _ h3⟩
  · refine ⟨v, ?_, tups _ _ hr⟩
    rw [h1, l, List.getElem?_append_right (Nat.le_refl _), Nat.sub_self]
    rfl
theorem vl0 {H : Hp} {a : Addr} : VL (upd H a (.lst [])) a [] := ⟨[], upd_same, rfl, fun i r h => no_get h⟩

/-! ### a comprehension that makes the values f 0, f 1, .. -/
def PvF (H : Hp) (D : Addr) (f : Nat → V) (j : Nat) (H' : Hp) : Prop := Same H H' ∧ H' D = some (.lst ((List.range j).map f))
theorem pvf0 {H : Hp} {D : Addr} {f : Nat → V} (nD : H D = none) : PvF H D f 0 (upd H D (.lst [])) := ⟨same_upd nD, upd_same⟩
theorem pvf_step {H H' H'' : Hp} {D : Addr} {f : Nat → V} {j : Nat} {x : V} (nD : H D = none) (hP : PvF H D f j H') (s : Same H' H'') (hj : j < 1000) (hx : x = f j) :
    ∃ acc, H'' D = some (.lst acc) ∧ acc.length < sizeLine ∧ PvF H D f (j + 1) (upd H'' D (.lst (acc ++ [x]))) := by
  refine ⟨_, s _ _ hP.2, ?_, ?_, ?_⟩
  · rw [List.length_map, List.length_range]
    exact small1000 (by omega)
  · intro y o hy
    rw [upd_ne (ne_of_none hy nD)]
    exact s _ _ (hP.1 _ _ hy)
  · rw [upd_same, List.range_succ, List.map_append, hx]
    rfl

theorem Dt.isInt {p : Addr} {H : Hp} {B n : Nat} {v : V} (d : Dt p H B n v) : ∃ t i b, Kd K H v t i b ∧ isI v = (i && !b) := by
  rcases d.kinds with ⟨_, _, _, _, _, _, _, _, k, e⟩ | ⟨_, _, _, k, e⟩ | ⟨i, b, h, k, e, _, _⟩
  · exact ⟨_, _, _, k, e⟩
  · exact ⟨_, _, _, k, e⟩
  · refine ⟨_, _, _, k, ?_⟩
    rw [e]
    cases i <;> cases b <;> first | rfl | (exact absurd (h rfl) (by decide))
def spIsI (K : PySem.W.Frag) (arg : Str) : Sp := fun vs H Q _ => ∃ v : V, vs = [v] ∧ (∃ t i b, Kd K H v t i b ∧ isI v = (i && !b)) ∧ Q (.bl (isI v)) H

abbrev s__law_is_int : Stmt := topS 25
theorem sc__law_is_int : FnScope ["a"] ["a"] (defScope s__law_is_int) := ⟨rfl, rfl, rfl, by decide +kernel, rfl, by decide +kernel, by decide +kernel⟩
theorem ok_lint {f : Addr} {fd : FuncData} {k : Nat} (F : Fun K "_law_is_int" "_law_is_int" s__law_is_int f fd) (Z : Glb mg) : FnOk P w K mg base CX0 (k + 1) f fd ["a"] (spIsI K "a") := by
  refine F.ok sc__law_is_int (fun vs H Q E h => ?_) (fun cdv A outer s H vs Q E hr h => ?_)
  · obtain ⟨v, rfl, _⟩ := h
    rfl
  · obtain ⟨v, rfl, ⟨t, i, b, ⟨T, ty, ht, hi, hb⟩, e⟩, q⟩ := h
    refine ⟨_, (pss_one (ps_ret (pe_and (pe_callB (id := "isinstance") (r := rIsi K) call_isi (by rfl) Z.m_isinstance (by decide +kernel) (pa_cons (pv 0) (pa_cons (pe_bltn (u := .type "int") (v := .ty "int") (by rfl) Z.m_int (by decide +kernel) rfl) pa_nil))) (pe_one (pe_not (pe_callB (id := "isinstance") (r := rIsi K) call_isi (by rfl) Z.m_isinstance (by decide +kernel) (pa_cons (pv 0) (pa_cons (pe_bltn (u := .type "bool") (v := .ty "bool") (by rfl) Z.m_bool (by decide +kernel) rfl) pa_nil)))))))), ?_⟩
    rw [e] at q
    refine ⟨_, rfl, _, _, _, _, _, rfl, ClsV.ty _, ty, kit_ty hi, i, rfl, ?_⟩
    cases i with
    | false => exact iteF q
    | true => exact iteT ⟨_, rfl, _, _, _, _, _, rfl, ClsV.ty _, ty, kit_ty hb, b, rfl, q⟩

/-- a vector of so many ints -/
def VecOf (H : Hp) (v : V) (L : Nat) : Prop := ∃ a ns, v = .ref a ∧ Vc H a ns ∧ ns.length = L
theorem ints_of {xs : List V} (h : xs.all isI = true) : ∃ ns : List Int, xs = ns.map V.int := by
  induction xs with
  | nil => exact ⟨[], rfl⟩
  | cons x r ih =>
    rw [List.all_cons, Bool.and_eq_true] at h
    obtain ⟨ns, e⟩ := ih h.2
    cases x with
    | int i => exact ⟨i :: ns, by rw [e]; rfl⟩
    | _ => exact absurd h.1 Bool.false_ne_true
theorem all_ints (ns : List Int) : (ns.map V.int).all isI = true := by
  induction ns with
  | nil => rfl
  | cons n r ih =>
    rw [List.map_cons, List.all_cons, ih]
    rfl
theorem vec_iff {H : Hp} {a : Addr} {xs : List V} {L : Nat} (h : H a = some (.tup xs)) : VecOf H (.ref a) L ↔ (xs.length = L ∧ xs.all isI = true) := by
  constructor
  · rintro ⟨a', ns, e, hv, hl⟩
    cases e
    have := h.symm.trans hv
    injection this with this
    injection this with this
    subst this
    rw [List.length_map]
    exact ⟨hl, all_ints ns⟩
  · rintro ⟨h1, h2⟩
    obtain ⟨ns, rfl⟩ := ints_of h2
    rw [List.length_map] at h1
    exact ⟨a, ns, rfl, h, h1⟩
theorem vec_tup {H : Hp} {v : V} {L : Nat} (h : VecOf H v L) : ∃ a xs, v = .ref a ∧ H a = some (.tup xs) := by
  obtain ⟨a, ns, rfl, hv, _⟩ := h
  exact ⟨a, _, rfl, hv⟩
theorem not_vec {H : Hp} {v : V} {L : Nat} (k : ∀ a xs, v = .ref a → H a ≠ some (.tup xs)) : ¬ VecOf H v L := fun z => by
  obtain ⟨a, xs, e, h⟩ := vec_tup z
  exact k a xs e h
/-- a Bool that tells a proposition -/
def spIsVec (x y : Str) : Sp := fun vs H Q _ => ∃ (L : Nat) (v : V) (p : Addr) (B n : Nat), vs = [.int L, v] ∧ Dt p H B n v ∧ B ≤ 500 ∧ ∀ (H' : Hp) (b : Bool), Same H H' → (b = true ↔ VecOf H v L) → Q (.bl b) H'

abbrev s__law_is_vector : Stmt := topS 26
theorem sc__law_is_vector : FnScope ["size", "value", "a"] ["size", "value"] (defScope s__law_is_vector) := ⟨rfl, rfl, rfl, by decide +kernel, rfl, by decide +kernel, by decide +kernel⟩
theorem filter_nil {xs : List V} : (xs.filter fun x => !isI x).length = 0 ↔ xs.all isI = true := by
  rw [List.length_eq_zero_iff, List.filter_eq_nil_iff, List.all_eq_true]
  constructor
  · intro h x hx
    have := h x hx
    cases e : isI x with
    | true => rfl
    | false => rw [e] at this; exact absurd rfl this
  · intro h x hx
    rw [h x hx]
    exact Bool.false_ne_true
theorem ok_lvec {f : Addr} {fd : FuncData} {k : Nat} (F : Fun K "_law_is_vector" "_law_is_vector" s__law_is_vector f fd) (Z : Glb mg)
    (C_law_is_int : Call P w K mg base k "_law_is_int" ["a"] (spIsI K "a")) : FnOk P w K mg base CX0 (k + 1) f fd ["size", "value"] (spIsVec "size" "value") := by
  refine F.ok sc__law_is_vector (fun vs H Q E h => ?_) (fun cdv A outer s H vs Q E hr h => ?_)
  · obtain ⟨L, v, p, B, n, rfl, _⟩ := h
    rfl
  · obtain ⟨L, v, p, B, n, rfl, d, hB, q⟩ := h
    refine ⟨_, (pss_one (ps_ret (pe_and (pe_callB (id := "isinstance") (r := rIsi K) call_isi (by rfl) Z.m_isinstance (by decide +kernel) (pa_cons (pv 1) (pa_cons (pe_bltn (u := .type "tuple") (v := .ty "tuple") (by rfl) Z.m_tuple (by decide +kernel) rfl) pa_nil))) (pe_and (pe_cmpR op_eq (pe_callB call_len_seq (by rfl) Z.m_len PySem.boot_len (pa_cons (pv 1) pa_nil)) (pv 0) (nomark _)) (pe_one (pe_cmpR op_eq (pe_callB call_len_seq (by rfl) Z.m_len PySem.boot_len (pa_cons (pe_lc (own := [("a", 2)]) (g := gName 2) (by rfl) sc__law_is_vector.nd (pi_tup (pv 1)) (blkOk_by (own := [("a", 2)]) (N := ["size", "value", "a"]) (sc := defScope s__law_is_vector) (by first | decide +kernel | kernel_rfl)) (fun _ _ _ _ _ => (pg_name (i := 2) sc__law_is_vector.nd rfl (.inl rfl))) (fun _ _ _ _ _ => (pts_one (pt_not (pt_val (pe_call C_law_is_int.G hr (by rfl) C_law_is_int.m C_law_is_int.kp C_law_is_int.b .nil pass0 (pa_cons (pv 2) pa_nil)))))) (fun _ _ _ _ _ => (pv 2))) pa_nil)) pe_int (nomark _))))))), ?_⟩
    rcases d.kinds with ⟨a, xs, m, rfl, ha, hl, rfl, hx, ⟨T, ty, ht, _⟩, _⟩ | ⟨i, rfl, _, ⟨T, ty, ht, _⟩, _⟩ | ⟨i, b, _, ⟨T, ty, ht, _⟩, _, nt, _⟩
    · refine ⟨_, rfl, _, _, _, _, _, rfl, ClsV.ty _, ty, kit_ty ht, true, rfl, iteT ?_⟩
      refine ⟨_, rfl, _, _, rfl, .inr (SqT.of ha), _, rfl, rfl, _, rfl, ?_⟩
      by_cases hL : xs.length = L
      · rw [decide_eq_true (by rw [hL])]
        refine iteT ⟨_, rfl, a, rfl, ⟨_, SqT.of ha⟩, fun D nD => ?_⟩
        refine lc_tup (xs := xs) (fun i H' => ∃ H0, Same H H0 ∧ H0 D = none ∧ H' = upd H0 D (.lst ((xs.take i).filter fun x => !isI x))) ⟨H, Same.refl _, nD, rfl⟩ (fun i H' _ hP => ?_) (fun i x H' hxi hP => ?_) (fun H' hP => ?_)
        · obtain ⟨H0, s0, n0, rfl⟩ := hP
          exact SqT.of ((s0.trans (same_upd n0)) _ _ ha)
        · obtain ⟨H0, s0, n0, rfl⟩ := hP
          have dx := (hx x (List.mem_of_getElem? hxi)).same (s0.trans (same_upd (o := .lst ((xs.take i).filter fun x => !isI x)) n0))
          refine ⟨rfl, _, rfl, _, rfl, dx.isInt, _, rfl, ?_⟩
          cases ei : isI x with
          | true =>
            refine iteF ⟨H0, s0, n0, ?_⟩
            rw [take_get hxi, List.filter_append]
            simp [ei]
          | false =>
            refine iteT ⟨_, rfl, _, upd_same, ?_, H0, s0, n0, ?_⟩
            · refine Nat.lt_of_le_of_lt (List.length_filter_le _ _) ?_
              rw [List.length_take]
              exact Nat.lt_of_le_of_lt (Nat.min_le_right _ _) (small1000 (by omega))
            · rw [upd_upd, take_get hxi, List.filter_append]
              simp [ei]
        · obtain ⟨H0, s0, n0, rfl⟩ := hP
          rw [List.take_length]
          refine ⟨_, _, rfl, .inl (SqL.of upd_same), rfl, q _ _ (s0.trans (same_upd n0)) ?_⟩
          rw [vec_iff ha, decide_eq_true_iff, ← filter_nil]
          exact ⟨fun z => ⟨hL, by have := V.int.inj z; omega⟩, fun z => by rw [z.2]; rfl⟩
      · rw [decide_eq_false (fun z => hL (by have := V.int.inj z; omega))]
        exact iteF (q _ _ (Same.refl _) ⟨(fun z => nomatch z), fun z => absurd ((vec_iff ha).mp z).1 hL⟩)
    · exact ⟨_, rfl, _, _, _, _, _, rfl, ClsV.ty _, ty, kit_ty ht, false, rfl, iteF (q _ _ (Same.refl _) ⟨(fun z => nomatch z), fun z => by obtain ⟨a, xs, e, _⟩ := vec_tup z; cases e⟩)⟩
    · exact ⟨_, rfl, _, _, _, _, _, rfl, ClsV.ty _, ty, kit_ty ht, false, rfl, iteF (q _ _ (Same.refl _) ⟨(fun z => nomatch z), fun z => absurd z (not_vec nt)⟩)⟩
theorem vc_eq {H : Hp} {a : Addr} {ns ms : List Int} (h : Vc H a ns) (h' : Vc H a ms) : ns = ms := by
  have e := h.symm.trans h'
  injection e with e
  injection e with e
  exact List.map_inj_right (fun x y z => V.int.inj z) |>.mp e

/-- at a stands a tuple (true) or a list -/
def Tk (k : Bool) (H : Hp) (a : Addr) (xs : List V) : Prop := match k with
  | true => H a = some (.tup xs)
  | false => H a = some (.lst xs)
theorem Tk.same {k : Bool} {H H' : Hp} {a : Addr} {xs : List V} (h : Tk k H a xs) (s : Same H H') : Tk k H' a xs := by
  cases k <;> exact s _ _ h
theorem Tk.sk {K : PySem.W.Frag} {k : Bool} {H : Hp} {a : Addr} {xs : List V} (h : Tk k H a xs) : Sk K k H a xs := by
  cases k with
  | true => exact SqT.of h
  | false => exact SqL.of h

abbrev s_common_divisor : Stmt := topS 7
theorem sc_common_divisor : FnScope ["v", "common", "entry"] ["v"] (defScope s_common_divisor) := ⟨rfl, rfl, rfl, by decide +kernel, rfl, by decide +kernel, by decide +kernel⟩
def spCdK : Sp := fun vs H Q _ => ∃ (k : Bool) (a : Addr) (ns : List Int), vs = [.ref a] ∧ Tk k H a (ns.map V.int) ∧ Q (.int (gl ns)) H
theorem ok_cdK {f : Addr} {fd : FuncData} {k : Nat} (F : Fun K "common_divisor" "common_divisor" s_common_divisor f fd) (Z : Glb mg) : FnOk P w K mg base CX0 (k + 1) f fd ["v"] spCdK := by
  refine F.ok sc_common_divisor (fun vs H Q E h => ?_) (fun cdv A outer s H vs Q E hr h => ?_)
  · obtain ⟨kd, a, ns, rfl, _⟩ := h
    rfl
  · obtain ⟨kd, a, ns, rfl, hv, q⟩ := h
    refine ⟨_, (pss_cons (ps_set (i := 1) sc_common_divisor.nd rfl (.inl rfl) pe_int)
      (pss_cons (ps_for PassesOwn.never rfl (PI.or (pi_list (pv 0)) (pi_tup (pv 0))) (pg_name (i := 2) sc_common_divisor.nd rfl (.inl rfl)) (pss_one (ps_set (i := 1) sc_common_divisor.nd rfl (.inl rfl) (pe_callBfun cr_gcd (by rfl) Z.m_gcd (pa_cons (pv 1) (pa_cons (pv 2) pa_nil))))))
      (pss_one (ps_ret (pv 1))))), ?_⟩
    cases kd with
    | true =>
      refine .inr ⟨_, rfl, a, rfl, ⟨_, SqT.of hv⟩, ?_⟩
      refine for_tup (xs := ns.map V.int) (fun i σ H' => H' = H ∧ ∃ y2 : Option V, σ = [some (.ref a), some (.int (gl (ns.take i))), y2]) ⟨rfl, _, rfl⟩ (fun i σ H' _ hP => by obtain ⟨rfl, _⟩ := hP; exact SqT.of hv) (fun i x σ H' hx hP => ?_) (fun σ H' hP => ?_)
      · obtain ⟨rfl, y2, rfl⟩ := hP
        obtain ⟨n, hn, rfl⟩ := map_get hx
        refine ⟨_, rfl, _, rfl, _, _, rfl, rfl, some (.int n), ?_⟩
        rw [gl_step hn]
        rfl
      · obtain ⟨rfl, y2, rfl⟩ := hP
        rw [List.length_map, List.take_length]
        exact ⟨_, rfl, q⟩
    | false =>
      refine .inl ⟨_, rfl, a, rfl, ⟨_, SqL.of hv⟩, ?_⟩
      refine for_list (xs := ns.map V.int) (fun i σ H' => H' = H ∧ ∃ y2 : Option V, σ = [some (.ref a), some (.int (gl (ns.take i))), y2]) ⟨rfl, _, rfl⟩ (fun i σ H' _ hP => by obtain ⟨rfl, _⟩ := hP; exact SqL.of hv) (fun i x σ H' hx hP => ?_) (fun σ H' hP => ?_)
      · obtain ⟨rfl, y2, rfl⟩ := hP
        obtain ⟨n, hn, rfl⟩ := map_get hx
        refine ⟨_, rfl, _, rfl, _, _, rfl, rfl, some (.int n), ?_⟩
        rw [gl_step hn]
        rfl
      · obtain ⟨rfl, y2, rfl⟩ := hP
        rw [List.length_map, List.take_length]
        exact ⟨_, rfl, q⟩
abbrev s_primitive : Stmt := topS 8
theorem sc_primitive : FnScope ["v", "common", "entry"] ["v"] (defScope s_primitive) := ⟨rfl, rfl, rfl, by decide +kernel, rfl, by decide +kernel, by decide +kernel⟩
def spPrimL : Sp := fun vs H Q _ => ∃ (k : Bool) (a : Addr) (ns : List Int), vs = [.ref a] ∧ Tk k H a (ns.map V.int) ∧ ns.length ≤ 1000 ∧ (∀ n ∈ ns, n.natAbs < 2 ^ 8000) ∧ ∀ (H' : Hp) (r : Addr), Same H H' → Vc H' r (prim ns) → Q (.ref r) H'
theorem ok_primK {f : Addr} {fd : FuncData} {k : Nat} (F : Fun K "primitive" "primitive" s_primitive f fd) (Z : Glb mg)
    (Ccommon_divisor : Call P w K mg base k "common_divisor" ["v"] spCdK) : FnOk P w K mg base CX0 (k + 1) f fd ["v"] spPrimL := by
  refine F.ok sc_primitive (fun vs H Q E h => ?_) (fun cdv A outer s H vs Q E hr h => ?_)
  · obtain ⟨kd, a, ns, rfl, _⟩ := h
    rfl
  · obtain ⟨kd, a, ns, rfl, hv, hl, hB, q⟩ := h
    refine ⟨_, (pss_cons (ps_set (i := 1) sc_primitive.nd rfl (.inr rfl) (pe_call Ccommon_divisor.G hr (by rfl) Ccommon_divisor.m Ccommon_divisor.kp Ccommon_divisor.b .nil pass0 (pa_cons (pv 0) pa_nil)))
      (pss_cons (ps_if (pt_cmpR op_eq (pv 1) pe_int (nomark _)) (pss_one (ps_ret (pe_callTy call_tuple_of (by rfl) Z.m_tuple (by decide +kernel) (pa_cons (pv 0) pa_nil)))) pss_nil)
      (pss_one (ps_ret (pe_callTy call_tuple_of (by rfl) Z.m_tuple (by decide +kernel) (pa_cons (pe_lc (own := [("entry", 2)]) (g := gName 2) (tt := tYes) (by rfl) sc_primitive.nd (PI.or (pi_list (pv 0)) (pi_tup (pv 0))) (blkOk_by (own := [("entry", 2)]) (N := ["v", "common", "entry"]) (sc := defScope s_primitive) (by first | decide +kernel | kernel_rfl)) (fun _ _ _ _ _ => (pg_name (i := 2) sc_primitive.nd rfl (.inl rfl))) (fun _ _ _ _ _ => pts_nil) (fun _ _ _ _ _ => (pe_op op_fdivW (pv 2) (pv 1)))) pa_nil)))))), ?_⟩
    refine ⟨_, rfl, kd, a, ns, rfl, hv, ?_⟩
    refine ⟨_, rfl, rfl, _, rfl, ite2 (fun e => ?_) (fun e => ?_)⟩
    · have e0 : gl ns = 0 := V.int.inj (of_decide_eq_true e)
      have ep : prim ns = ns := if_pos e0
      refine ⟨_, rfl, a, ns.map V.int, rfl, ?_⟩
      cases kd with
      | true =>
        refine .inr ⟨SqT.of hv, q _ _ (Same.refl _) ?_⟩
        rw [ep]
        exact hv
      | false =>
        refine .inl ⟨SqL.of hv, fun l nl => q _ _ (same_upd nl) ?_⟩
        rw [ep]
        exact upd_same
    · have e0 : gl ns ≠ 0 := fun z => e (decide_eq_true (by rw [z]))
      have ep : prim ns = ns.map (· / gl ns) := if_neg e0
      have cd : ∀ x : Int, CDivW x (gl ns) := fun x => wide_div (by have := gl_nn ns; omega) (gl_lim (by decide) hB) (by decide) (by decide)
      have room : ∀ i, (((prim ns).take i).map V.int).length < sizeLine := fun i => by
        rw [List.length_map, List.length_take]
        exact Nat.lt_of_le_of_lt (Nat.min_le_right _ _) (small1000 (by rw [prim_len]; exact hl))
      have next : ∀ (i : Nat) (n : Int) (H0 : Hp) (D : Addr), ns[i]? = some n → upd (upd H0 D (.lst (((prim ns).take i).map V.int))) D (.lst (((prim ns).take i).map V.int ++ [.int (n / gl ns)])) = upd H0 D (.lst (((prim ns).take (i + 1)).map V.int)) := fun i n H0 D hn => by
        have hg : (prim ns)[i]? = some (n / gl ns) := by
          rw [ep, List.getElem?_map, hn]
          rfl
        rw [upd_upd, take_get hg, List.map_append]
        rfl
      have last : ∀ (D : Addr) (H' : Hp), (∃ H0, Same H H0 ∧ H0 D = none ∧ H' = upd H0 D (.lst (((prim ns).take (ns.map V.int).length).map V.int))) →
          ∃ p ys, [V.ref D] = [.ref p] ∧ ((SqL K H' p ys ∧ ∀ l, H' l = none → Q (.ref l) (upd H' l (.tup ys))) ∨ (SqT K H' p ys ∧ Q (.ref p) H')) := fun D H' h => by
        obtain ⟨H0, s0, n0, rfl⟩ := h
        rw [List.length_map, show ns.length = (prim ns).length from (prim_len ns).symm, List.take_length]
        exact ⟨D, _, rfl, .inl ⟨SqL.of upd_same, fun l nl => q _ _ ((s0.trans (same_upd n0)).trans (same_upd nl)) upd_same⟩⟩
      cases kd with
      | true =>
        refine .inr ⟨_, rfl, a, rfl, ⟨_, SqT.of hv⟩, fun D nD => ?_⟩
        refine lc_tup (xs := ns.map V.int) (fun i H' => ∃ H0, Same H H0 ∧ H0 D = none ∧ H' = upd H0 D (.lst (((prim ns).take i).map V.int))) ⟨H, Same.refl _, nD, rfl⟩ (fun i H' _ hP => ?_) (fun i x H' hx hP => ?_) (fun H' hP => ?_)
        · obtain ⟨H0, s0, n0, rfl⟩ := hP
          exact SqT.of ((s0.trans (same_upd n0)) _ _ hv)
        · obtain ⟨H0, s0, n0, rfl⟩ := hP
          obtain ⟨n, hn, rfl⟩ := map_get hx
          refine ⟨rfl, ?_⟩
          unfold tYes
          refine iteT ?_
          exact ⟨_, rfl, _, rfl, _, _, rfl, rfl, cd n, _, upd_same, room i, H0, s0, n0, next i n H0 D hn⟩
        · exact last D H' hP
      | false =>
        refine .inl ⟨_, rfl, a, rfl, ⟨_, SqL.of hv⟩, fun D nD => ?_⟩
        refine lc_list (xs := ns.map V.int) (fun i H' => ∃ H0, Same H H0 ∧ H0 D = none ∧ H' = upd H0 D (.lst (((prim ns).take i).map V.int))) ⟨H, Same.refl _, nD, rfl⟩ (fun i H' _ hP => ?_) (fun i x H' hx hP => ?_) (fun H' hP => ?_)
        · obtain ⟨H0, s0, n0, rfl⟩ := hP
          exact SqL.of ((s0.trans (same_upd n0)) _ _ hv)
        · obtain ⟨H0, s0, n0, rfl⟩ := hP
          obtain ⟨n, hn, rfl⟩ := map_get hx
          refine ⟨rfl, ?_⟩
          unfold tYes
          refine iteT ?_
          exact ⟨_, rfl, _, rfl, _, _, rfl, rfl, cd n, _, upd_same, room i, H0, s0, n0, next i n H0 D hn⟩
        · exact last D H' hP

/-! ### the law's matrices -/
theorem ne_pool {H : Hp} {p D : Addr} (hP : Pl H p) (nD : H D = none) : D ≠ p := by
  obtain ⟨q0, h0⟩ := hP.q
  exact (h0.ne_free nD).1.symm
theorem Kp.refl (p : Addr) (H : Hp) : Kp p H H := ⟨Keep.refl p H, fun _ h => h⟩
abbrev s__law_matrix : Stmt := topS 27
theorem sc__law_matrix : FnScope ["pool", "many", "size", "rows", "k", "a", "other", "j"] ["pool", "many", "size"] (defScope s__law_matrix) := ⟨rfl, rfl, rfl, by decide +kernel, rfl, by decide +kernel, by decide +kernel⟩
/-- the bound of the entries of the first i rows -/
def MB (i : Nat) (v : List Int) : Prop := ∀ x ∈ v, 2 * x.natAbs + 2 ≤ 5 * 2 ^ i
theorem MB.up {i j : Nat} {v : List Int} (h : MB i v) (l : i ≤ j) : MB j v := fun x hx => by
  have := h x hx
  have : 2 ^ i ≤ 2 ^ j := Nat.pow_le_pow_right (by decide) l
  omega
def spMatrix : Sp := fun vs H Q _ => ∃ (p : Addr) (m s : Nat), vs = [.ref p, .int m, .int s] ∧ m ≤ 8 ∧ s ≤ 10 ∧ Pl H p ∧ ∀ (H' : Hp) (l : Addr) (M : List (List Int)), Pl H' p → Kp p H H' → l ≠ p → H l = none → VL H' l M → M.length = m → (∀ v ∈ M, v.length = s) → (∀ v ∈ M, MB m v) → Q (.ref l) H'
/-- Kp, with what is fresh staying out -/
theorem mem_push {α : Type} {xs : List α} {x : α} {R : α → Prop} (h : ∀ v ∈ xs, R v) (hx : R x) : ∀ v ∈ xs ++ [x], R v := fun v hv => by
  rcases List.mem_append.mp hv with h1 | h1
  · exact h v h1
  · rw [List.mem_singleton.mp h1]; exact hx
theorem kp_new {p D : Addr} {H H' : Hp} {o : HO} (nD : H D = none) (hP : Pl H p) (k : Kp p H H') : Kp p H (upd H' D o) := by
  obtain ⟨q0, h0⟩ := hP.q
  have nq := (h0.ne_free nD).1
  refine ⟨fun x y hx hy => ?_, fun q hq => ?_⟩
  · rw [upd_ne (ne_of_none hy nD)]
    exact k.k x y hx hy
  · obtain ⟨l, e⟩ := k.h q hq
    exact ⟨l, by rw [upd_ne nq]; exact e⟩
theorem pl_new {p D : Addr} {H H' : Hp} {o : HO} (nD : H D = none) (hP : Pl H p) (k : Kp p H H') (hP' : Pl H' p) : Pl (upd H' D o) p := by
  obtain ⟨q0, h0⟩ := hP.q
  have := h0.ne_free nD
  exact ((h0.kp k hP').upd this.1 this.2).pl
theorem ok_matrix {f : Addr} {fd : FuncData} {k : Nat} (F : Fun K "_law_matrix" "_law_matrix" s__law_matrix f fd) (Z : Glb mg)
    (C_law_draw : Call P w K mg base k "_law_draw" ["pool", "many"] spDraw) : FnOk P w K mg base CX0 (k + 1) f fd ["pool", "many", "size"] spMatrix := by
  refine F.ok sc__law_matrix (fun vs H Q E h => ?_) (fun cdv A outer s H vs Q E hr h => ?_)
  · obtain ⟨p, m, s, rfl, _⟩ := h
    rfl
  · obtain ⟨p, m, s, rfl, m8, s10, hP, q⟩ := h
    refine ⟨_, (pss_cons (ps_set (i := 3) sc__law_matrix.nd rfl (.inl rfl) (pe_lst pa_nil))
      (pss_cons (ps_for PassesOwn.never rfl (pi_range1 rfl Z.m_range (pa_cons (pv 1) pa_nil)) (pg_name (i := 4) sc__law_matrix.nd rfl (.inl rfl)) (pss_one (ps_if (PW.pt (pw_and (pt_cmpR op_gt (pv 4) pe_int (nomark _)) (pw_and1 (pt_cmpR op_eq (pe_call C_law_draw.G hr (by rfl) C_law_draw.m C_law_draw.kp C_law_draw.b .nil pass0 (pa_cons (pv 0) (pa_cons pe_int pa_nil))) pe_int (nomark _))))) (pss_cons (ps_set (i := 5) sc__law_matrix.nd rfl (.inr rfl) (pe_op op_sub (pe_call C_law_draw.G hr (by rfl) C_law_draw.m C_law_draw.kp C_law_draw.b .nil pass0 (pa_cons (pv 0) (pa_cons pe_int pa_nil))) pe_int))
      (pss_cons (ps_set (i := 6) sc__law_matrix.nd rfl (.inr rfl) (pe_ix (r := rIxL K) ix_list (pv 3) (pe_call C_law_draw.G hr (by rfl) C_law_draw.m C_law_draw.kp C_law_draw.b .nil pass0 (pa_cons (pv 0) (pa_cons (pe_callB call_len_seq (by rfl) Z.m_len PySem.boot_len (pa_cons (pv 3) pa_nil)) pa_nil))) (fun _ _ => rfl)))
      (pss_one (ps_expr (pe_bm PySem.F.plainAttrs_list PySem.F.slot_list_append PySem.F.type_list_append mt_append (pv 3) (pa_cons (pe_callTy call_tuple_of (by rfl) Z.m_tuple (by decide +kernel) (pa_cons (pe_lc (own := [("j", 7)]) (g := gName 7) (tt := tYes) (by rfl) sc__law_matrix.nd (pi_range1 rfl Z.m_range (pa_cons (pv 2) pa_nil)) (blkOk_by (own := [("j", 7)]) (N := ["pool", "many", "size", "rows", "k", "a", "other", "j"]) (sc := defScope s__law_matrix) (by first | decide +kernel | kernel_rfl)) (fun _ _ _ _ _ => (pg_name (i := 7) sc__law_matrix.nd rfl (.inl rfl))) (fun _ _ _ _ _ => pts_nil) (fun _ _ _ _ _ => (pe_op op_add (pe_op op_mulW (pv 5) (pe_ix (r := rIxT K) ix_tup (pv 6) (pv 7) (fun _ _ => rfl))) (pe_callTy call_int1 (by rfl) Z.m_int (by decide +kernel) (pa_cons (pe_cmpR op_eq (pe_call C_law_draw.G hr (by rfl) C_law_draw.m C_law_draw.kp C_law_draw.b .nil pass0 (pa_cons (pv 0) (pa_cons pe_int pa_nil))) pe_int (nomark _)) pa_nil))))) pa_nil)) pa_nil)))))) (pss_one (ps_expr (pe_bm PySem.F.plainAttrs_list PySem.F.slot_list_append PySem.F.type_list_append mt_append (pv 3) (pa_cons (pe_callTy call_tuple_of (by rfl) Z.m_tuple (by decide +kernel) (pa_cons (pe_lc (own := [("j", 7)]) (g := gName 7) (tt := tYes) (by rfl) sc__law_matrix.nd (pi_range1 rfl Z.m_range (pa_cons (pv 2) pa_nil)) (blkOk_by (own := [("j", 7)]) (N := ["pool", "many", "size", "rows", "k", "a", "other", "j"]) (sc := defScope s__law_matrix) (by first | decide +kernel | kernel_rfl)) (fun _ _ _ _ _ => (pg_name (i := 7) sc__law_matrix.nd rfl (.inl rfl))) (fun _ _ _ _ _ => pts_nil) (fun _ _ _ _ _ => (pe_op op_sub (pe_call C_law_draw.G hr (by rfl) C_law_draw.m C_law_draw.kp C_law_draw.b .nil pass0 (pa_cons (pv 0) (pa_cons pe_int pa_nil))) pe_int))) pa_nil)) pa_nil)))))))
      (pss_one (ps_ret (pv 3))))), ?_⟩
    refine ⟨Nat.zero_le _, fun l nl => ?_⟩
    have lp : l ≠ p := by
      obtain ⟨q0, h0⟩ := hP.q
      exact (h0.ne_free nl).1.symm
    refine ⟨_, rfl, m, rfl, by omega, by omega, ?_⟩
    refine for_range (lo := 0) (n := m) (fun i σ H' => ∃ (M : List (List Int)) (y4 y5 y6 : Option V), σ = [some (.ref p), some (.int m), some (.int s), some (.ref l), y4, y5, y6, none] ∧ Pl H' p ∧ Kp p H H' ∧ VL H' l M ∧ M.length = i ∧ (∀ v ∈ M, v.length = s) ∧ (∀ v ∈ M, MB i v))
      ⟨[], none, none, none, rfl, pl_new nl hP (Kp.refl _ _) hP, kp_new nl hP (Kp.refl _ _), vl0, rfl, (fun v h => nomatch h), (fun v h => nomatch h)⟩ (fun i σ H1 hi hW => ?_) (fun σ H1 hW => ?_)
    · obtain ⟨M, y4, y5, y6, rfl, P1, K1, V1, lM, lv, bM⟩ := hW
      have pow1 : 2 ^ (i + 1) = 2 * 2 ^ i := by rw [Nat.pow_succ, Nat.mul_comm]
      have pow0 : 1 ≤ 2 ^ i := Nat.one_le_two_pow
      refine ⟨_, rfl, _, _, rfl, rfl, _, rfl, ite2 (fun e1 => ?_) (fun e1 => ?_)⟩
      · have i1 : 1 ≤ i := by
          have := of_decide_eq_true e1
          omega
        refine ⟨_, rfl, p, _, rfl, by decide, by decide, P1, fun v0 H2 l2 u2 P2 B2 => ⟨rfl, _, rfl, ite2 (fun e2 => ?_) (fun e2 => ?_)⟩⟩
        · have K2 := K1.trans B2.kp
          have V2 := V1.kp P1 lp B2.keep
          refine ⟨_, rfl, p, _, rfl, by decide, by decide, P2, fun a0 H3 l3 u3 P3 B3 => ⟨_, _, rfl, rfl, ?_⟩⟩
          have K3 := K2.trans B3.kp
          have V3 := V2.kp P2 lp B3.keep
          obtain ⟨rs3, e3, lr3, g3⟩ := id V3
          refine ⟨_, rfl, _, rfl, _, rfl, l, _, rfl, .inl (SqL.of e3), p, _, rfl, by rw [List.length_map]; omega, by rw [List.length_map]; exact Nat.lt_of_lt_of_le (show rs3.length < 2 ^ 4 by omega) (Nat.pow_le_pow_right (by decide) (by decide)), P3, fun o0 H4 l4 u4 P4 B4 => ?_⟩
          have K4 := K3.trans B4.kp
          have V4 := V3.kp P3 lp B4.keep
          obtain ⟨on, rfl⟩ := Int.eq_ofNat_of_zero_le l4
          rw [List.length_map] at u4
          obtain ⟨rs4, ro, e4, lr4, hro, Vo⟩ := V4.at (i := on) (by omega)
          refine ⟨_, _, _, _, rfl, rfl, SqL.of e4, atI_nat (get_ref hro), ?_⟩
          have lo : (M[on]'(by omega)).length = s := lv _ (List.getElem_mem _)
          have bo : MB i (M[on]'(by omega)) := bM _ (List.getElem_mem _)
          generalize M[on]'(by omega) = ov at *
          refine ⟨_, rfl, .inl ⟨rfl, _, SqL.of e4⟩, _, rfl, s, rfl, by omega, by omega, fun D nD => ?_⟩
          refine lc_range (lo := 0) (n := s) (fun j H5 => Dr p H4 D 20 j H5 ∧ ∃ ns : List Int, H5 D = some (.lst (ns.map V.int)) ∧ MB (i + 1) ns) ⟨dr0 P4 nD, [], upd_same, fun x hx => nomatch hx⟩ (fun j H5 hj hW => ?_) (fun H5 hW => ?_)
          · obtain ⟨hW, zs, ez, bz⟩ := hW
            refine ⟨rfl, ?_⟩
            unfold tYes
            refine iteT ?_
            have P5 := hW.1.choose_spec.2.1.pl
            have Vo5 := Vo.keep P4 hW.kp.k
            have ej : ov[j]? = some (ov[j]'(by omega)) := List.getElem?_eq_getElem (by omega)
            have bj := bo _ (List.getElem_mem (l := ov) (n := j) (by omega))
            have p8 : 2 ^ i ≤ 2 ^ 8 := Nat.pow_le_pow_right (by decide) (by omega)
            have e0 : (0 : Int) + (j : Int) = ((j : Nat) : Int) := Int.zero_add _
            rw [e0]
            generalize ov[j]'(by omega) = oj at *
            have bm : ((a0 - 2) * oj).natAbs ≤ 2 * oj.natAbs := by
              rw [Int.natAbs_mul]
              exact Nat.mul_le_mul_right _ (by omega)
            refine ⟨_, rfl, _, rfl, _, rfl, _, _, _, _, rfl, rfl, SqT.of Vo5, atI_nat (get_map ej), _, _, rfl, rfl, cmul (a := 5) (b := 12) (by omega) (by omega), _, rfl, p, _, rfl, by decide, by decide, P5, fun n H6 l6 u6 P6 B6 => ⟨rfl, .inr ⟨_, rfl, _, _, rfl, rfl, ?_⟩⟩⟩
            obtain ⟨x, hx⟩ : ∃ x : Int, x = (a0 - 2) * oj + (if decide (V.int n = V.int 0) = true then 1 else 0) := ⟨_, rfl⟩
            have bx : 2 * x.natAbs + 2 ≤ 5 * 2 ^ (i + 1) := by
              have : x.natAbs ≤ ((a0 - 2) * oj).natAbs + 1 := by
                rw [hx]
                split <;> omega
              omega
            obtain ⟨acc, h1, h2, h3⟩ := dr_step (n := x) nD P4 hW B6 P6 (by
              have : 2 ^ (i + 1) ≤ 2 ^ 9 := Nat.pow_le_pow_right (by decide) (by omega)
              omega)
            refine ⟨acc, h1, small1000 (by omega), (by rw [hx] at h3; exact h3), ?_⟩
            have e0 : acc = zs.map V.int := by
              have := (B6.1 D (ne_pool P4 nD)).trans ez
              rw [h1] at this
              exact HO.lst.inj (Option.some.inj this)
            exact ⟨zs ++ [x], by rw [upd_same, e0, List.map_append, hx]; rfl, fun y hy => by
              rcases List.mem_append.mp hy with h | h
              · exact bz y h
              · rw [List.mem_singleton.mp h]; exact bx⟩
          · obtain ⟨hW, zs, ez, bz⟩ := hW
            have K5 := hW.kp
            obtain ⟨⟨q3, _, hq3, _⟩, _, xs, eD, hlen, hB⟩ := hW
            have exz : xs = zs := by
              rw [ez] at eD
              have := HO.lst.inj (Option.some.inj eD)
              exact (List.map_inj_right (fun a b h => by injection h)).mp this.symm
            subst exz
            refine ⟨D, _, rfl, .inl ⟨SqL.of eD, fun t nt => ?_⟩⟩
            have st := same_upd (o := .tup (xs.map V.int)) nt
            have V6 := (V4.kp P4 lp K5.k).same st
            obtain ⟨rs6, e6, l6, g6⟩ := id V6
            refine ⟨l, _, _, rfl, rfl, e6, by rw [List.length_map, l6]; exact small1000 (by omega), ?_⟩
            have K7 := (K4.trans K5).trans (Same.kp st)
            exact ⟨M ++ [xs], _, _, _, rfl, pl_new nl hP K7 (hq3.pl.same st), kp_new nl hP K7, V6.push upd_same e6, by rw [List.length_append, lM]; rfl, mem_push lv hlen, mem_push (fun v hv => (bM v hv).up (by omega)) bz⟩
        · have K2 := K1.trans B2.kp
          have V2 := V1.kp P1 lp B2.keep
          obtain ⟨rs, eL, lR, gR⟩ := id V2
          refine ⟨_, rfl, .inl ⟨rfl, _, SqL.of eL⟩, _, rfl, s, rfl, by omega, by omega, fun D nD => ?_⟩
          refine lc_range (lo := 0) (n := s) (fun j H5 => Dr p H2 D 20 j H5 ∧ ∃ ns : List Int, H5 D = some (.lst (ns.map V.int)) ∧ MB (i + 1) ns) ⟨dr0 P2 nD, [], upd_same, (fun x hx => nomatch hx)⟩ (fun j H3 hj hW => ?_) (fun H3 hW => ?_)
          · refine ⟨rfl, ?_⟩
            unfold tYes
            refine iteT ?_
            obtain ⟨hW, zs, ez, bz⟩ := hW
            have P5 := hW.1.choose_spec.2.1.pl
            refine ⟨_, rfl, p, _, rfl, by decide, by decide, P5, fun n H4 l4 u4 P4 B4 => ⟨_, _, rfl, rfl, ?_⟩⟩
            obtain ⟨acc, h1, h2, h3⟩ := dr_step (n := n - 4) nD P2 hW B4 P4 (by omega)
            refine ⟨acc, h1, small1000 (by omega), h3, ?_⟩
            have e0 : acc = zs.map V.int := by
              have := (B4.1 D (ne_pool P2 nD)).trans ez
              rw [h1] at this
              exact HO.lst.inj (Option.some.inj this)
            exact ⟨zs ++ [n - 4], by rw [upd_same, e0, List.map_append]; rfl, mem_push (R := fun x : Int => 2 * x.natAbs + 2 ≤ 5 * 2 ^ (i + 1)) bz (by omega)⟩
          · obtain ⟨hW, zs, ez, bz⟩ := hW
            have K3 := hW.kp
            obtain ⟨⟨q3, _, hq3, _⟩, _, xs, eD, hlen, hB⟩ := hW
            have exz : xs = zs := by
              rw [ez] at eD
              have := HO.lst.inj (Option.some.inj eD)
              exact (List.map_inj_right (fun a b h => by injection h)).mp this.symm
            subst exz
            refine ⟨D, _, rfl, .inl ⟨SqL.of eD, fun t nt => ?_⟩⟩
            have st := same_upd (o := .tup (xs.map V.int)) nt
            have V3 := (V2.kp P2 lp K3.k).same st
            obtain ⟨rs3, e3, l3, g3⟩ := id V3
            refine ⟨l, _, _, rfl, rfl, e3, by rw [List.length_map, l3]; exact small1000 (by omega), ?_⟩
            have K5 := (K2.trans K3).trans (Same.kp st)
            exact ⟨M ++ [xs], _, _, _, rfl, pl_new nl hP K5 (hq3.pl.same st), kp_new nl hP K5, V3.push upd_same e3, by rw [List.length_append, lM]; rfl, mem_push lv hlen, mem_push (fun v hv => (bM v hv).up (by omega)) bz⟩
      · refine iteF ?_
        obtain ⟨rs, eL, lR, gR⟩ := id V1
        refine ⟨_, rfl, .inl ⟨rfl, _, SqL.of eL⟩, _, rfl, s, rfl, by omega, by omega, fun D nD => ?_⟩
        refine lc_range (lo := 0) (n := s) (fun j H5 => Dr p H1 D 20 j H5 ∧ ∃ ns : List Int, H5 D = some (.lst (ns.map V.int)) ∧ MB (i + 1) ns) ⟨dr0 P1 nD, [], upd_same, (fun x hx => nomatch hx)⟩ (fun j H3 hj hW => ?_) (fun H3 hW => ?_)
        · refine ⟨rfl, ?_⟩
          unfold tYes
          refine iteT ?_
          obtain ⟨hW, zs, ez, bz⟩ := hW
          have P5 := hW.1.choose_spec.2.1.pl
          refine ⟨_, rfl, p, _, rfl, by decide, by decide, P5, fun n H4 l4 u4 P4 B4 => ⟨_, _, rfl, rfl, ?_⟩⟩
          obtain ⟨acc, h1, h2, h3⟩ := dr_step (n := n - 4) nD P1 hW B4 P4 (by omega)
          refine ⟨acc, h1, small1000 (by omega), h3, ?_⟩
          have e0 : acc = zs.map V.int := by
            have := (B4.1 D (ne_pool P1 nD)).trans ez
            rw [h1] at this
            exact HO.lst.inj (Option.some.inj this)
          exact ⟨zs ++ [n - 4], by rw [upd_same, e0, List.map_append]; rfl, mem_push (R := fun x : Int => 2 * x.natAbs + 2 ≤ 5 * 2 ^ (i + 1)) bz (by omega)⟩
        · obtain ⟨hW, zs, ez, bz⟩ := hW
          have K3 := hW.kp
          obtain ⟨⟨q3, _, hq3, _⟩, _, xs, eD, hlen, hB⟩ := hW
          have exz : xs = zs := by
            rw [ez] at eD
            have := HO.lst.inj (Option.some.inj eD)
            exact (List.map_inj_right (fun a b h => by injection h)).mp this.symm
          subst exz
          refine ⟨D, _, rfl, .inl ⟨SqL.of eD, fun t nt => ?_⟩⟩
          have st := same_upd (o := .tup (xs.map V.int)) nt
          have V3 := (V1.kp P1 lp K3.k).same st
          obtain ⟨rs3, e3, l3, g3⟩ := id V3
          refine ⟨l, _, _, rfl, rfl, e3, by rw [List.length_map, l3]; exact small1000 (by omega), ?_⟩
          have K5 := (K1.trans K3).trans (Same.kp st)
          exact ⟨M ++ [xs], _, _, _, rfl, pl_new nl hP K5 (hq3.pl.same st), kp_new nl hP K5, V3.push upd_same e3, by rw [List.length_append, lM]; rfl, mem_push lv hlen, mem_push (fun v hv => (bM v hv).up (by omega)) bz⟩
    · obtain ⟨M, y4, y5, y6, rfl, P1, K1, V1, lM, lv, bM⟩ := hW
      exact ⟨_, rfl, q H1 l M P1 K1 lp nl V1 lM lv bM⟩

abbrev s_fraction : Stmt := topS 5
theorem sc_fraction : FnScope ["a", "b", "common"] ["a", "b"] (defScope s_fraction) := ⟨rfl, rfl, rfl, by decide +kernel, rfl, by decide +kernel, by decide +kernel⟩
theorem ok_frac {f : Addr} {fd : FuncData} {k : Nat} (F : Fun K "fraction" "fraction" s_fraction f fd) (Z : Glb mg) : FnOk P w K mg base CX0 (k + 1) f fd ["a", "b"] spFr := by
  refine F.ok sc_fraction (fun vs H Q E h => ?_) (fun cdv A outer s H vs Q E hr h => ?_)
  · obtain ⟨a, b, rfl, _⟩ := h
    rfl
  · obtain ⟨a, b, rfl, hp, ha, hb, q⟩ := h
    refine ⟨_, (pss_cons (ps_if (pt_cmpR op_eq (pv 1) pe_int (nomark _)) (pss_one ps_never) pss_nil)
      (pss_cons (ps_set (i := 2) sc_fraction.nd rfl (.inl rfl) (pe_callBfun cr_gcd (by rfl) Z.m_gcd (pa_cons (pv 0) (pa_cons (pv 1) pa_nil))))
      (pss_cons (ps_if (pt_cmpR op_lt (pv 1) pe_int (nomark _)) (pss_one ps_never) pss_nil)
      (pss_one (ps_ret (pe_tup (pa_cons (pe_op op_fdivW (pv 0) (pv 2)) (pa_cons (pe_op op_fdivW (pv 1) (pv 2)) pa_nil)))))))), ?_⟩
    have cd : CDivW b (g2 a b) := wide_div (g2_pos (by omega)) (g2_lim hp hb) (by decide) (by decide)
    refine ⟨_, rfl, rfl, _, rfl, ?_⟩
    rw [decide_eq_false (fun z => by have := V.int.inj z; omega)]
    refine iteF ⟨_, rfl, _, rfl, a, b, rfl, _, rfl, _, _, rfl, rfl, _, rfl, ?_⟩
    rw [decide_eq_false (by omega)]
    exact iteF ⟨_, rfl, _, rfl, _, _, rfl, rfl, cd, _, rfl, _, rfl, _, _, rfl, rfl, cd, ints2 _ _, q⟩

/-! ### rows put in steps -/
open Rk
def PvL (H : Hp) (D : Addr) (vs : List (List Int)) (H' : Hp) : Prop := Same H H' ∧ VL H' D vs
theorem pvl0 {H : Hp} {D : Addr} (nD : H D = none) : PvL H D [] (upd H D (.lst [])) := ⟨same_upd nD, vl0⟩
theorem pvl_step {H H' H'' : Hp} {D r : Addr} {vs : List (List Int)} {v : List Int} (nD : H D = none) (hP : PvL H D vs H') (s : Same H' H'') (hr : Vc H'' r v) (hl : vs.length < 1000) :
    ∃ acc, H'' D = some (.lst acc) ∧ acc.length < sizeLine ∧ PvL H D (vs ++ [v]) (upd H'' D (.lst (acc ++ [.ref r]))) := by
  have V2 := hP.2.same s
  obtain ⟨rs, e, l, g⟩ := id V2
  refine ⟨_, e, by rw [List.length_map, l]; exact small1000 (by omega), fun y o hy => ?_, V2.push hr e⟩
  rw [upd_ne (ne_of_none hy nD)]
  exact s _ _ (hP.1 _ _ hy)
theorem en_get {v : List Int} {c : Nat} (h : c < v.length) : (v.map V.int)[c]? = some (.int (en v c)) := by
  rw [get_map (List.getElem?_eq_getElem h)]
  unfold en
  rw [List.getD_eq_getElem?_getD, List.getElem?_eq_getElem h]
  rfl
theorem en_mem {v : List Int} {c : Nat} (h : c < v.length) : en v c ∈ v := by
  unfold en
  rw [List.getD_eq_getElem?_getD, List.getElem?_eq_getElem h]
  exact List.getElem_mem h
theorem en_map {v : List Int} {f : Int → Int} {c : Nat} (h : c < v.length) : en (v.map f) c = f (en v c) := by
  unfold en
  rw [List.getD_eq_getElem?_getD, List.getD_eq_getElem?_getD, List.getElem?_map, List.getElem?_eq_getElem h]
  rfl
theorem en_out {v : List Int} {c : Nat} (h : v.length ≤ c) : en v c = 0 := by
  unfold en
  rw [List.getD_eq_getElem?_getD, List.getElem?_eq_none h]
  rfl
def wpos (v : List Int) (c : Nat) : List Int := if en v c < 0 then v.map fun x => -x else v
def elm (v l : List Int) (c : Nat) : List Int := (v.zip l).map fun p => en l c * p.1 - en v c * p.2
def clr (v l : List Int) (c : Nat) : List Int := if en v c = 0 then v else prim (elm v l c)
theorem wpos_len (v : List Int) (c : Nat) : (wpos v c).length = v.length := by
  unfold wpos
  split
  · rw [List.length_map]
  · rfl
theorem elm_len {v l : List Int} (c : Nat) (h : v.length = l.length) : (elm v l c).length = v.length := by
  unfold elm
  rw [List.length_map, List.length_zip, h, Nat.min_self]
theorem clr_len {v l : List Int} (c : Nat) (h : v.length = l.length) : (clr v l c).length = v.length := by
  unfold clr
  split
  · rfl
  · rw [prim_len, elm_len c h]
theorem elm_get {v l : List Int} {c i : Nat} {x y : Int} (h1 : v[i]? = some x) (h2 : l[i]? = some y) : (elm v l c)[i]? = some (en l c * x - en v c * y) := by
  unfold elm
  rw [List.getElem?_map, List.getElem?_zip_eq_some (z := (x, y)) |>.mpr ⟨h1, h2⟩]
  rfl
theorem elm_en {v l : List Int} {c i : Nat} (h : v.length = l.length) (hi : i < v.length) : en (elm v l c) i = en l c * en v i - en v c * en l i := by
  have e := elm_get (c := c) (List.getElem?_eq_getElem hi) (List.getElem?_eq_getElem (show i < l.length by omega))
  unfold en at *
  rw [List.getD_eq_getElem?_getD (l := elm v l c), e, List.getD_eq_getElem?_getD (l := v) (i := i), List.getElem?_eq_getElem hi, List.getD_eq_getElem?_getD (l := l) (i := i), List.getElem?_eq_getElem (show i < l.length by omega)]
  rfl
theorem prim_en {v : List Int} (h : gl v ≠ 0) {i : Nat} : gl v * en (prim v) i = en v i := by
  by_cases hi : i < v.length
  · rw [show prim v = v.map (· / gl v) from if_neg h, en_map hi]
    exact Int.mul_ediv_cancel' (gl_dvd (en_mem hi))
  · rw [en_out (by rw [prim_len]; omega), en_out (by omega), Int.mul_zero]
theorem clr_el {v l : List Int} {w c : Nat} (hv : v.length = w) (hl : l.length = w) (h0 : en l c ≠ 0) : El w c l v (clr v l c) := by
  unfold clr
  by_cases z : en v c = 0
  · rw [if_pos z]
    exact ⟨en l c, h0, fun j _ => by rw [z]; omega⟩
  · rw [if_neg z]
    by_cases g : gl (elm v l c) = 0
    · rw [show prim (elm v l c) = elm v l c from if_pos g]
      exact ⟨1, by decide, fun j hj => by rw [elm_en (by omega) (by omega), Int.one_mul]⟩
    · exact ⟨_, g, fun j hj => by rw [prim_en g, elm_en (by omega) (by omega)]⟩
/-- entries below 2 ^ b -/
def Lim (b : Nat) (v : List Int) : Prop := ∀ x ∈ v, x.natAbs < 2 ^ b
theorem Lim.up {a b : Nat} {v : List Int} (h : Lim a v) (l : a ≤ b) : Lim b v := fun x hx => up_pow (h x hx) l
theorem Lim.en {b : Nat} {v : List Int} (h : Lim b v) (i : Nat) : (en v i).natAbs < 2 ^ b := by
  by_cases hi : i < v.length
  · exact h _ (en_mem hi)
  · rw [en_out (by omega)]
    exact Nat.pow_pos (by decide)
theorem prim_lim {b : Nat} {v : List Int} (h : Lim b v) : Lim b (prim v) := by
  have h1 : ∀ n ∈ v, n.natAbs ≤ 2 ^ b - 1 := fun n hn => by have := h n hn; omega
  intro x hx
  have := prim_small h1 x hx
  have p : 0 < 2 ^ b := Nat.pow_pos (by decide)
  omega
theorem elm_lim {b : Nat} {v l : List Int} (c : Nat) (hv : Lim b v) (hl : Lim b l) : Lim (2 * b + 1) (elm v l c) := by
  intro x hx
  unfold elm at hx
  obtain ⟨⟨y, z⟩, hp, rfl⟩ := List.mem_map.mp hx
  have hy := hv y (List.of_mem_zip hp).1
  have hz := hl z (List.of_mem_zip hp).2
  have := sub_pow (mul_pow (hl.en c) hy) (mul_pow (hv.en c) hz)
  rw [show 2 * b + 1 = b + b + 1 by omega]
  exact this
theorem clr_lim {b : Nat} {v l : List Int} (c : Nat) (hv : Lim b v) (hl : Lim b l) : Lim (2 * b + 1) (clr v l c) := by
  unfold clr
  split
  · exact hv.up (by omega)
  · exact prim_lim (elm_lim c hv hl)
theorem wpos_lim {b c : Nat} {v : List Int} (hv : Lim b v) : Lim b (wpos v c) := by
  unfold wpos
  split
  · intro x hx
    obtain ⟨y, hy, rfl⟩ := List.mem_map.mp hx
    have := hv y hy
    omega
  · exact hv
/-- primitive, or of zeros -/
def Pok (v : List Int) : Prop := gl v = 0 ∨ gl v = 1
theorem Pok.prim {v : List Int} (h : Pok v) : prim v = v := by
  unfold HwP.prim
  rcases h with h | h
  · rw [if_pos h]
  · rw [h, if_neg (by decide)]
    conv => rhs; rw [← List.map_id v]
    exact List.map_congr_left fun x _ => Int.ediv_one x
theorem pok_prim (v : List Int) : Pok (prim v) := by
  by_cases g : gl v = 0
  · rw [show prim v = v from if_pos g]
    exact .inl g
  · right
    have e : (prim v).map (gl v * ·) = v := by
      apply List.ext_getElem?
      intro i
      rw [List.getElem?_map]
      by_cases hi : i < v.length
      · have e1 : v[i]? = some v[i] := List.getElem?_eq_getElem hi
        have e2 : (prim v)[i]? = some (v[i] / gl v) := by
          rw [show prim v = v.map (· / gl v) from if_neg g, List.getElem?_map, e1]
          rfl
        rw [e2, e1]
        exact congrArg some (Int.mul_ediv_cancel' (gl_dvd (List.getElem_mem hi)))
      · rw [List.getElem?_eq_none (by rw [prim_len]; omega), List.getElem?_eq_none (by omega)]
        rfl
    have s := gl_scale (gl v) (gl_nn v) (prim v)
    rw [e] at s
    have n := gl_nn v
    have : gl v * (gl (prim v) - 1) = 0 := by rw [Int.mul_sub, ← s]; omega
    rcases Int.mul_eq_zero.mp this with h | h
    · exact absurd h g
    · omega
theorem gl_neg (v : List Int) : gl (v.map fun x => -x) = gl v := by
  unfold gl
  have : ∀ (l : List Int) (c : Int), (l.map fun x => -x).foldl g2 c = l.foldl g2 c := by
    intro l
    induction l with
    | nil => intro c; rfl
    | cons x r ih =>
      intro c
      rw [List.map_cons, List.foldl_cons, List.foldl_cons, ih]
      congr 1
      unfold g2
      rw [Int.natAbs_neg]
  exact this v 0
theorem Pok.wpos {v : List Int} {c : Nat} (h : Pok v) : Pok (wpos v c) := by
  unfold HwP.wpos
  split
  · unfold Pok
    rw [gl_neg]
    exact h
  · exact h
theorem Pok.clr {v l : List Int} {c : Nat} (h : Pok v) : Pok (clr v l c) := by
  unfold HwP.clr
  split
  · exact h
  · exact pok_prim _
theorem wpos_pos {v : List Int} {c : Nat} (hc : c < v.length) (h : en v c ≠ 0) : 0 < en (wpos v c) c := by
  unfold wpos
  split
  · rw [en_map hc]; omega
  · omega
theorem wpos_zero {v : List Int} {c i : Nat} (h : en v i = 0) : en (wpos v c) i = 0 := by
  unfold wpos
  split
  · by_cases hi : i < v.length
    · rw [en_map hi, h]; rfl
    · rw [en_out (by rw [List.length_map]; omega)]
  · exact h
theorem wpos_dv {v : List Int} {w c : Nat} (hv : v.length = w) (x : Nat → Int) : dv w v x = 0 ↔ dv w (wpos v c) x = 0 := by
  unfold wpos
  split
  · have : dv w (v.map fun x => -x) x = (-1) * dv w v x := by
      unfold dv
      rw [← sm_mul]
      exact sm_congr fun j hj => by rw [en_map (by omega)]; rw [Int.neg_mul]; omega
    rw [this]
    omega
  · exact Iff.rfl
/-- rows in steps, reduced -/
structure Red (w : Nat) (P : List (Nat × List Int)) : Prop where
  pos : ∀ p ∈ P, 0 < en p.2 p.1
  pok : ∀ p ∈ P, Pok p.2
  len : ∀ p ∈ P, p.2.length = w
  off : ∀ p ∈ P, ∀ q ∈ P, p.1 ≠ q.1 → en q.2 p.1 = 0
def clrP (l : List Int) (c : Nat) (P : List (Nat × List Int)) : List (Nat × List Int) := P.map fun p => (p.1, clr p.2 l c)
theorem clrP_fst (l : List Int) (c : Nat) (P : List (Nat × List Int)) : (clrP l c P).map (·.1) = P.map (·.1) := by
  unfold clrP
  rw [List.map_map]
  rfl
theorem clr_pos {v l : List Int} {w c j : Nat} (hv : v.length = w) (hl : l.length = w) (h0 : 0 < en l c) (hj : j < w) (h1 : 0 < en v j) (h2 : en l j = 0) : 0 < en (clr v l c) j := by
  unfold clr
  split
  · exact h1
  · have e : en (elm v l c) j = en l c * en v j := by rw [elm_en (by omega) (by omega), h2]; omega
    have p := Int.mul_pos h0 h1
    have g : gl (elm v l c) ≠ 0 := fun z => by
      have := prim_zero z _ (en_mem (v := elm v l c) (c := j) (by rw [elm_len c (by omega)]; omega))
      omega
    have e2 := prim_en g (i := j)
    rw [e] at e2
    have n := gl_nn (elm v l c)
    by_cases q : 0 < en (prim (elm v l c)) j
    · exact q
    · exfalso
      have : gl (elm v l c) * en (prim (elm v l c)) j ≤ 0 := Int.mul_nonpos_of_nonneg_of_nonpos n (by omega)
      omega
theorem Tri.clr {w k : Nat} {l : List Int} (hl : l.length = w) (h0 : en l k ≠ 0) (hk : k < w) (hz : ∀ j, j < k → en l j = 0) : ∀ {m : Nat} {P : List (Nat × List Int)}, m ≤ k → Tri w m P → (∀ p ∈ P, p.2.length = w) → Tri w m (clrP l k P)
  | _, [], _, _, _ => trivial
  | m, p :: r, hm, h, hlen => by
    obtain ⟨h1, h2, h3, h4⟩ := h
    have g1 : p.1 < m := h1
    have g2 : p.1 < k := by omega
    have g3 : p.1 < w := by omega
    have lp := hlen p List.mem_cons_self
    have e := clr_el (c := k) lp hl h0
    refine ⟨h1, e.ne h0 g3 h2 (hz _ g2), fun j hj => e.zero (Nat.lt_trans hj g3) (h3 j hj) (hz _ (Nat.lt_trans hj g2)), ?_⟩
    exact Tri.clr hl h0 hk hz (Nat.le_of_lt g2) h4 fun q hq => hlen q (List.mem_cons_of_mem _ hq)
theorem Red.step {w k : Nat} {l : List Int} {P : List (Nat × List Int)} (h : Red w P) (t : Tri w k P) (hl : l.length = w) (h0 : 0 < en l k) (hk : k < w) (hz : ∀ j, j < k → en l j = 0) (pl : Pok l) : Red w ((k, l) :: clrP l k P) := by
  have mem : ∀ p ∈ clrP l k P, ∃ q ∈ P, p.1 = q.1 ∧ p.2 = HwP.clr q.2 l k := fun p hp => by
    unfold clrP at hp
    obtain ⟨q, hq, rfl⟩ := List.mem_map.mp hp
    exact ⟨q, hq, rfl, rfl⟩
  refine ⟨fun p hp => ?_, fun p hp => ?_, fun p hp => ?_, fun p hp q hq ne => ?_⟩
  · rcases List.mem_cons.mp hp with e | e
    · rw [e]; exact h0
    · obtain ⟨q, hq, e1, e2⟩ := mem p e
      have lt := t.lt q hq
      rw [e1, e2]
      exact clr_pos (h.len q hq) hl h0 (by omega) (h.pos q hq) (hz _ lt)
  · rcases List.mem_cons.mp hp with e | e
    · rw [e]; exact pl
    · obtain ⟨q, hq, e1, e2⟩ := mem p e
      rw [e2]
      exact (h.pok q hq).clr
  · rcases List.mem_cons.mp hp with e | e
    · rw [e]; exact hl
    · obtain ⟨q, hq, e1, e2⟩ := mem p e
      rw [e2, clr_len _ (by rw [h.len q hq, hl])]
      exact h.len q hq
  · rcases List.mem_cons.mp hp with e | e
    · rcases List.mem_cons.mp hq with e' | e'
      · rw [e, e'] at ne
        exact absurd rfl ne
      · obtain ⟨q', hq', e1, e2⟩ := mem q e'
        rw [e2, e]
        exact (clr_el (h.len q' hq') hl (by omega)).at hk
    · obtain ⟨p', hp', e1, e2⟩ := mem p e
      have lt := t.lt p' hp'
      rcases List.mem_cons.mp hq with e' | e'
      · rw [e', e1]
        exact hz _ lt
      · obtain ⟨q', hq', e3, e4⟩ := mem q e'
        rw [e4, e1]
        refine (clr_el (h.len q' hq') hl (by omega)).zero (by omega) (h.off p' hp' q' hq' ?_) (hz _ lt)
        rw [← e1, ← e3]
        exact ne

abbrev s_first_with_entry : Stmt := topS 10
theorem sc_first_with_entry : FnScope ["rows", "column", "start", "k"] ["rows", "column", "start"] (defScope s_first_with_entry) := ⟨rfl, rfl, rfl, by decide +kernel, rfl, by decide +kernel, by decide +kernel⟩
def spFirst : Sp := fun vs H Q _ => ∃ (a : Addr) (M : List (List Int)) (c w : Nat), vs = [.ref a, .int c, .int 0] ∧ VL H a M ∧ (∀ v ∈ M, v.length = w) ∧ c < w ∧ M.length ≤ 100 ∧ ((∀ v ∈ M, en v c = 0) → Q .non H) ∧ (∀ (i : Nat) (v : List Int), M[i]? = some v → en v c ≠ 0 → Q (.int i) H)
theorem ok_first {f : Addr} {fd : FuncData} {k : Nat} (F : Fun K "first_with_entry" "first_with_entry" s_first_with_entry f fd) (Z : Glb mg) : FnOk P w K mg base CX0 (k + 1) f fd ["rows", "column", "start"] spFirst := by
  refine F.ok sc_first_with_entry (fun vs H Q E h => ?_) (fun cdv A outer s H vs Q E hr h => ?_)
  · obtain ⟨a, M, c, w, rfl, _⟩ := h
    rfl
  · obtain ⟨a, M, c, w, rfl, hV, hl, hc, hm, q0, q1⟩ := h
    obtain ⟨rs, ea, rl, rg⟩ := id hV
    refine ⟨_, (pss_cons (ps_for PassesOwn.never rfl (pi_range2 rfl Z.m_range (pa_cons (pv 2) (pa_cons (pe_callB call_len_seq (by rfl) Z.m_len PySem.boot_len (pa_cons (pv 0) pa_nil)) pa_nil))) (pg_name (i := 3) sc_first_with_entry.nd rfl (.inl rfl)) (pss_one (ps_if (pt_cmpR op_ne (pe_ix (r := rIxT K) ix_tup (pe_ix (r := rIxL K) ix_list (pv 0) (pv 3) (fun _ _ => rfl)) (pv 1) (fun _ _ => rfl)) pe_int (nomark _)) (pss_one (ps_ret (pv 3))) pss_nil)))
      (pss_one (ps_ret pe_non))), ?_⟩
    refine ⟨_, rfl, _, rfl, a, _, rfl, .inl (SqL.of ea), ?_⟩
    rw [List.length_map, rl]
    refine ⟨_, _, rfl, ⟨by omega, by omega, by omega, by omega⟩, ?_⟩
    rw [show ((M.length : Int) - 0).toNat = M.length by omega]
    refine for_range (lo := 0) (n := M.length) (fun i σ H' => H' = H ∧ (∃ y3 : Option V, σ = [some (.ref a), some (.int c), some (.int 0), y3]) ∧ ∀ j v, j < i → M[j]? = some v → en v c = 0) ⟨rfl, ⟨_, rfl⟩, fun j v h => absurd h (by omega)⟩ (fun i σ H' hi hP => ?_) (fun σ H' hP => ?_)
    · obtain ⟨rfl, ⟨y3, rfl⟩, hz⟩ := hP
      have er : rs[i]? = some (rs[i]'(by omega)) := List.getElem?_eq_getElem (by omega)
      obtain ⟨v, ev, hv⟩ := rg _ _ er
      have e1 : (0 : Int) + (i : Int) = ((i : Nat) : Int) := Int.zero_add _
      rw [e1]
      have cl : c < v.length := by rw [hl v (List.mem_of_getElem? ev)]; exact hc
      refine ⟨_, rfl, _, rfl, _, _, _, _, rfl, rfl, SqL.of ea, atI_nat (get_ref er), _, rfl, _, _, _, _, rfl, rfl, SqT.of hv, atI_nat (en_get cl), rfl, _, rfl, ite2 (fun e => ?_) (fun e => ?_)⟩
      · have ne : en v c ≠ 0 := fun z => by
          rw [z] at e
          exact absurd e (by decide)
        exact ⟨_, rfl, q1 i v ev ne⟩
      · have e0 : en v c = 0 := by
          by_cases z : en v c = 0
          · exact z
          · exact absurd (by rw [dec_int]; generalize en v c = y at z; simp [z]) e
        exact ⟨rfl, ⟨_, rfl⟩, fun j u h1 h2 => by
          by_cases z : j = i
          · subst z
            rw [ev] at h2
            cases h2
            exact e0
          · exact hz j u (by omega) h2⟩
    · obtain ⟨rfl, ⟨y3, rfl⟩, hz⟩ := hP
      refine q0 fun v hv => ?_
      obtain ⟨i, hi⟩ := List.getElem?_of_mem hv
      exact hz i v (lt_of_get hi) hi
abbrev s_with_positive_entry : Stmt := topS 11
theorem sc_with_positive_entry : FnScope ["row", "column", "entry"] ["row", "column"] (defScope s_with_positive_entry) := ⟨rfl, rfl, rfl, by decide +kernel, rfl, by decide +kernel, by decide +kernel⟩
def spWpos : Sp := fun vs H Q _ => ∃ (a : Addr) (c : Nat) (v : List Int), vs = [.ref a, .int c] ∧ Vc H a v ∧ c < v.length ∧ v.length ≤ 1000 ∧ ∀ (H' : Hp) (r : Addr), Same H H' → Vc H' r (wpos v c) → Q (.ref r) H'
theorem ok_wpos {f : Addr} {fd : FuncData} {k : Nat} (F : Fun K "with_positive_entry" "with_positive_entry" s_with_positive_entry f fd) (Z : Glb mg) : FnOk P w K mg base CX0 (k + 1) f fd ["row", "column"] spWpos := by
  refine F.ok sc_with_positive_entry (fun vs H Q E h => ?_) (fun cdv A outer s H vs Q E hr h => ?_)
  · obtain ⟨a, c, v, rfl, _⟩ := h
    rfl
  · obtain ⟨a, c, v, rfl, hv, hc, hl, q⟩ := h
    refine ⟨_, (pss_cons (ps_if (pt_cmpR op_lt (pe_ix (r := rIxT K) ix_tup (pv 0) (pv 1) (fun _ _ => rfl)) pe_int (nomark _)) (pss_one (ps_ret (pe_callTy call_tuple_of (by rfl) Z.m_tuple (by decide +kernel) (pa_cons (pe_lc (own := [("entry", 2)]) (g := gName 2) (tt := tYes) (by rfl) sc_with_positive_entry.nd (pi_tup (pv 0)) (blkOk_by (own := [("entry", 2)]) (N := ["row", "column", "entry"]) (sc := defScope s_with_positive_entry) (by first | decide +kernel | kernel_rfl)) (fun _ _ _ _ _ => (pg_name (i := 2) sc_with_positive_entry.nd rfl (.inl rfl))) (fun _ _ _ _ _ => pts_nil) (fun _ _ _ _ _ => (pe_un un_neg (pv 2)))) pa_nil)))) pss_nil)
      (pss_one (ps_ret (pv 0)))), ?_⟩
    refine ⟨_, rfl, _, rfl, _, _, _, _, rfl, rfl, SqT.of hv, atI_nat (en_get hc), _, _, rfl, rfl, _, rfl, ite2 (fun e => ?_) (fun e => ?_)⟩
    · have e0 : en v c < 0 := of_decide_eq_true e
      have ew : wpos v c = v.map fun n => -n := if_pos e0
      rw [ew] at q
      refine ⟨_, rfl, a, rfl, ⟨_, SqT.of hv⟩, fun D nD => ?_⟩
      refine lc_tup (xs := v.map V.int) (fun i H' => Same H H' ∧ H' D = some (.lst (((v.map fun n => -n).take i).map V.int))) ⟨same_upd nD, upd_same⟩ (fun i H' _ hP => SqT.of (hP.1 _ _ hv)) (fun i x H' hx hP => ?_) (fun H' hP => ?_)
      · obtain ⟨n, hn, rfl⟩ := map_get hx
        refine ⟨rfl, ?_⟩
        unfold tYes
        refine iteT ?_
        have hg : (v.map fun n => -n)[i]? = some (-n) := by
          rw [List.getElem?_map, hn]
          rfl
        refine ⟨_, rfl, _, rfl, _, hP.2, ?_, ?_, ?_⟩
        · rw [List.length_map, List.length_take]
          exact Nat.lt_of_le_of_lt (Nat.min_le_right _ _) (small1000 (by rw [List.length_map]; omega))
        · intro x o hxo
          have : x ≠ D := ne_of_none hxo nD
          rw [upd_ne this]
          exact hP.1 _ _ hxo
        · rw [upd_same, take_get hg, List.map_append]
          rfl
      · obtain ⟨sH, eD⟩ := hP
        rw [List.length_map, show v.length = (v.map fun n => -n).length by rw [List.length_map], List.take_length] at eD
        exact ⟨D, _, rfl, .inl ⟨SqL.of eD, fun t nt => q _ _ (sH.trans (same_upd nt)) upd_same⟩⟩
    · have e0 : ¬ en v c < 0 := fun z => e (decide_eq_true z)
      have ew : wpos v c = v := if_neg e0
      rw [ew] at q
      exact ⟨_, rfl, q _ _ (Same.refl _) hv⟩
abbrev s_cleared : Stmt := topS 12
theorem sc_cleared : FnScope ["row", "lead", "column", "factor", "a", "b"] ["row", "lead", "column"] (defScope s_cleared) := ⟨rfl, rfl, rfl, by decide +kernel, rfl, by decide +kernel, by decide +kernel⟩
def spClr : Sp := fun vs H Q _ => ∃ (a b : Addr) (v l : List Int) (c B : Nat), vs = [.ref a, .ref b, .int c] ∧ Vc H a v ∧ Vc H b l ∧ v.length = l.length ∧ c < v.length ∧ v.length ≤ 1000 ∧ Lim B v ∧ Lim B l ∧ 2 * B + 1 ≤ 299 ∧ ∀ (H' : Hp) (r : Addr), Same H H' → Vc H' r (clr v l c) → Q (.ref r) H'
theorem ok_clr {f : Addr} {fd : FuncData} {k : Nat} (F : Fun K "cleared" "cleared" s_cleared f fd) (Z : Glb mg)
    (Cprimitive : Call P w K mg base k "primitive" ["v"] spPrimL) : FnOk P w K mg base CX0 (k + 1) f fd ["row", "lead", "column"] spClr := by
  refine F.ok sc_cleared (fun vs H Q E h => ?_) (fun cdv A outer s H vs Q E hr h => ?_)
  · obtain ⟨a, b, v, l, c, B, rfl, _⟩ := h
    rfl
  · obtain ⟨a, b, v, l, c, B, rfl, hv, hl, hvl, hc, hm, L1, L2, hB, q⟩ := h
    refine ⟨_, (pss_cons (ps_set (i := 3) sc_cleared.nd rfl (.inr rfl) (pe_ix (r := rIxT K) ix_tup (pv 0) (pv 2) (fun _ _ => rfl)))
      (pss_cons (ps_if (pt_cmpR op_eq (pv 3) pe_int (nomark _)) (pss_one (ps_ret (pv 0))) pss_nil)
      (pss_one (ps_ret (pe_call Cprimitive.G hr (by rfl) Cprimitive.m Cprimitive.kp Cprimitive.b .nil pass0 (pa_cons (pe_lc (own := [("a", 4), ("b", 5)]) (g := gTup K 2 (gCons (gName 4) (gCons (gName 5) gNil))) (tt := tYes) (by rfl) sc_cleared.nd (pi_zipA (by rfl) Z.m_zip (pa_cons (pv 0) (pa_cons (pv 1) pa_nil))) (blkOk_by (own := [("a", 4), ("b", 5)]) (N := ["row", "lead", "column", "factor", "a", "b"]) (sc := defScope s_cleared) (by first | decide +kernel | kernel_rfl)) (fun _ _ _ _ _ => (pg_tup rfl (pgs_cons (pg_name (i := 4) sc_cleared.nd rfl (.inl rfl)) (pgs_cons (pg_name (i := 5) sc_cleared.nd rfl (.inl rfl)) pgs_nil)))) (fun _ _ _ _ _ => pts_nil) (fun _ _ _ _ _ => (pe_op op_sub (pe_op op_mulW (pe_ix (r := rIxT K) ix_tup (pv 1) (pv 2) (fun _ _ => rfl)) (pv 4)) (pe_op op_mulW (pv 3) (pv 5))))) pa_nil)))))), ?_⟩
    refine ⟨_, rfl, _, rfl, _, _, _, _, rfl, rfl, SqT.of hv, atI_nat (en_get hc), ?_⟩
    refine ⟨_, rfl, rfl, _, rfl, ite2 (fun e => ?_) (fun e => ?_)⟩
    · have e0 : en v c = 0 := V.int.inj (of_decide_eq_true e)
      refine ⟨_, rfl, q _ _ (Same.refl _) ?_⟩
      rw [show clr v l c = v from if_pos e0]
      exact hv
    · have e0 : en v c ≠ 0 := fun z => e (decide_eq_true (by rw [z]))
      have el := elm_len c hvl
      refine ⟨_, rfl, _, rfl, a, b, v.map V.int, l.map V.int, rfl, .inr ⟨SqT.of hv, SqT.of hl, fun D nD => ?_⟩⟩
      refine lc_it (walk_zipT (xs := v.map V.int) (ys := l.map V.int) (n := v.length) (by rw [List.length_map]) (by rw [List.length_map]; exact hvl.symm)) (fun i H' => Same H H' ∧ H' D = some (.lst (((elm v l c).take i).map V.int))) ⟨same_upd nD, upd_same⟩ (fun i H' _ hP => ⟨SqT.of (hP.1 _ _ hv), SqT.of (hP.1 _ _ hl)⟩) (fun i x H' H'' hi hP hY => ?_) (fun H' hP => ?_)
      · obtain ⟨s0, eD⟩ := hP
        obtain ⟨T, x1, y1, rfl, nT, rfl, hx, hy⟩ := hY
        obtain ⟨n, hn, rfl⟩ := map_get hx
        obtain ⟨m, hm', rfl⟩ := map_get hy
        refine ⟨T, [.int n, .int m], rfl, SqT.of upd_same, rfl, _, _, rfl, _, _, rfl, rfl, rfl, ?_⟩
        unfold tYes
        refine iteT ?_
        have hT : D ≠ T := ne_of_none eD nT
        have s1 : Same H (upd H' T (.tup [.int n, .int m])) := s0.trans (same_upd nT)
        have u299 : ∀ {x : Int}, x.natAbs < 2 ^ B → x.natAbs < 2 ^ 299 := fun h => up_pow h (by omega)
        refine ⟨_, rfl, _, rfl, _, _, _, _, rfl, rfl, SqT.of (s1 _ _ hl), atI_nat (en_get (by omega)), _, rfl, _, _, rfl, rfl, cmul (u299 (L2.en c)) (u299 (L1 n (List.mem_of_getElem? hn))), _, rfl, _, rfl, _, _, rfl, rfl, cmul (u299 (L1.en c)) (u299 (L2 m (List.mem_of_getElem? hm'))), _, _, rfl, rfl, _, (by rw [upd_ne hT]; exact eD), ?_, ?_, ?_⟩
        · rw [List.length_map, List.length_take]
          exact Nat.lt_of_le_of_lt (Nat.min_le_right _ _) (small1000 (by omega))
        · intro x o hxo
          rw [upd_ne (ne_of_none hxo nD)]
          exact s1 _ _ hxo
        · rw [upd_same, take_get (elm_get hn hm'), List.map_append]
          rfl
      · obtain ⟨s0, eD⟩ := hP
        rw [← el, List.take_length] at eD
        exact ⟨false, D, elm v l c, rfl, eD, by omega, (elm_lim c L1 L2).up (by omega), fun H2 r s2 hr2 => q _ _ (s0.trans s2) (by rw [show clr v l c = prim (elm v l c) from if_neg e0]; exact hr2)⟩
theorem prim_dv {w : Nat} {v : List Int} (x : Nat → Int) : dv w v x = 0 ↔ dv w (prim v) x = 0 := by
  by_cases g : gl v = 0
  · rw [show prim v = v from if_pos g]
  · have : dv w v x = gl v * dv w (prim v) x := by
      unfold dv
      rw [← sm_mul]
      exact sm_congr fun j hj => by rw [← prim_en g, Int.mul_assoc]
    rw [this]
    constructor
    · intro h
      rcases Int.mul_eq_zero.mp h with h | h
      · exact absurd h g
      · exact h
    · intro h
      rw [h, Int.mul_zero]
theorem nl_prim {w : Nat} (M : List (List Int)) : Nl w M = Nl w (M.map prim) := by
  funext x
  refine propext ⟨fun h v hv => ?_, fun h v hv => ?_⟩
  · obtain ⟨u, hu, rfl⟩ := List.mem_map.mp hv
    exact (prim_dv x).mp (h u hu)
  · exact (prim_dv x).mpr (h _ (List.mem_map.mpr ⟨v, hv, rfl⟩))
/-- the elimination of a column -/
theorem ech_step {w c at' : Nat} {N : (Nat → Int) → Prop} {P : List (Nat × List Int)} {W : List (List Int)} {v0 : List Int} (h : Inv w N c P W) (hr : Red w P) (hc : c < w) (hW : ∀ v ∈ W, v.length = w) (hP : ∀ v ∈ W, Pok v) (e0 : W[at']? = some v0) (n0 : en v0 c ≠ 0) :
    Inv w N (c + 1) ((c, wpos v0 c) :: clrP (wpos v0 c) c P) ((W.eraseIdx at').map fun v => clr v (wpos v0 c) c) ∧ Red w ((c, wpos v0 c) :: clrP (wpos v0 c) c P) := by
  have m0 := List.mem_of_getElem? e0
  have l0 := hW v0 m0
  have ll : (wpos v0 c).length = w := by rw [wpos_len, l0]
  have pp := wpos_pos (by omega) n0
  have z0 : ∀ j, j < c → en (wpos v0 c) j = 0 := fun j hj => wpos_zero (h.zero v0 m0 j hj)
  have mE : ∀ v ∈ W.eraseIdx at', v ∈ W := fun v hv => List.mem_of_mem_eraseIdx hv
  refine ⟨h.some hc (by omega) z0 (Tri.clr ll (by omega) hc z0 (Nat.le_refl _) h.tri hr.len) (clrP_fst _ _ _) (fun x hx => ?_) ⟨v0, m0, wpos_dv l0⟩ (fun v' hv' => ?_) (fun v hv => ?_), hr.step h.tri ll pp hc z0 (hP v0 m0).wpos⟩
  · constructor
    · intro a p hp
      unfold clrP at hp
      obtain ⟨q, hq, rfl⟩ := List.mem_map.mp hp
      exact ((clr_el (hr.len q hq) ll (by omega)).null (by omega) hx).mpr (a q hq)
    · intro a q hq
      exact ((clr_el (hr.len q hq) ll (by omega)).null (by omega) hx).mp (a (q.1, clr q.2 (wpos v0 c) c) (List.mem_map.mpr ⟨q, hq, rfl⟩))
  · obtain ⟨v, hv, rfl⟩ := List.mem_map.mp hv'
    exact ⟨v, mE v hv, clr_el (hW v (mE v hv)) ll (by omega)⟩
  · obtain ⟨i, hi⟩ := List.getElem?_of_mem hv
    by_cases z : i = at'
    · left
      subst z
      rw [e0] at hi
      cases hi
      exact wpos_dv l0
    · right
      exact ⟨_, List.mem_map.mpr ⟨v, (List.mem_eraseIdx_iff_getElem?).mpr ⟨i, z, hi⟩, rfl⟩, clr_el (hW v hv) ll (by omega)⟩
theorem erase_take {α : Type} {xs : List α} {a i : Nat} {x : α} (h : xs[i]? = some x) : (xs.take (i + 1)).eraseIdx a = if i = a then (xs.take i).eraseIdx a else (xs.take i).eraseIdx a ++ [x] := by
  have hi := lt_of_get h
  have li : (xs.take i).length = i := by rw [List.length_take]; omega
  rw [take_get h]
  by_cases c1 : a < i
  · rw [List.eraseIdx_append_of_lt_length (by omega), if_neg (by omega)]
  · rw [List.eraseIdx_append_of_length_le (by omega), li]
    rw [List.eraseIdx_of_length_le (k := a) (l := xs.take i) (by omega)]
    by_cases c2 : i = a
    · rw [if_pos c2, c2, Nat.sub_self, List.eraseIdx_cons_zero, List.append_nil]
    · rw [if_neg c2, List.eraseIdx_of_length_le (by rw [List.length_singleton]; omega)]
/-- the bound after r eliminations -/
def lm (b r : Nat) : Nat := (b + 1) * 2 ^ r - 1
theorem lm_step (b r : Nat) : 2 * lm b r + 1 = lm b (r + 1) := by
  unfold lm
  have : 1 ≤ 2 ^ r := Nat.one_le_two_pow
  have h : 1 * 1 ≤ (b + 1) * 2 ^ r := Nat.mul_le_mul (by omega) this
  have e : (b + 1) * 2 ^ (r + 1) = 2 * ((b + 1) * 2 ^ r) := by rw [Nat.pow_succ, ← Nat.mul_assoc, Nat.mul_comm]
  rw [e]
  omega
theorem lm_up (b : Nat) {r t : Nat} (h : r ≤ t) : lm b r ≤ lm b t := by
  unfold lm
  have : (b + 1) * 2 ^ r ≤ (b + 1) * 2 ^ t := Nat.mul_le_mul_left _ (Nat.pow_le_pow_right (by decide) h)
  omega
/-! ### bounds of the rows, column by column -/
def Lmg (g : Nat → Nat) (b : Nat) (v : List Int) : Prop := ∀ j, (en v j).natAbs < 2 ^ (b + g j)
theorem Lmg.up {g : Nat → Nat} {a b : Nat} {v : List Int} (h : Lmg g a v) (l : a ≤ b) : Lmg g b v := fun j => up_pow (h j) (by omega)
theorem prim_en_abs (v : List Int) (j : Nat) : (en (prim v) j).natAbs ≤ (en v j).natAbs := by
  by_cases g : gl v = 0
  · rw [show prim v = v from if_pos g]
    exact Nat.le_refl _
  · rw [← prim_en g (i := j), Int.natAbs_mul]
    have := gl_nn v
    have h1 : 1 ≤ (gl v).natAbs := by omega
    have := Nat.mul_le_mul_right (en (prim v) j).natAbs h1
    omega
theorem Lmg.prim {g : Nat → Nat} {b : Nat} {v : List Int} (h : Lmg g b v) : Lmg g b (prim v) := fun j => Nat.lt_of_le_of_lt (prim_en_abs v j) (h j)
theorem Lmg.wpos {g : Nat → Nat} {b c : Nat} {v : List Int} (h : Lmg g b v) : Lmg g b (wpos v c) := fun j => by
  unfold HwP.wpos
  split
  · by_cases hj : j < v.length
    · rw [en_map hj]
      have := h j
      omega
    · rw [en_out (by rw [List.length_map]; omega)]
      exact Nat.pow_pos (by decide)
  · exact h j
theorem Lmg.clr {g : Nat → Nat} {d e c : Nat} {v l : List Int} (hvl : v.length = l.length) (hc : g c = 0) (hv : Lmg g d v) (hl : Lmg g e l) : Lmg g (d + e + 1) (clr v l c) := fun j => by
  unfold HwP.clr
  split
  · exact hv.up (by omega) j
  · refine Nat.lt_of_le_of_lt (prim_en_abs _ j) ?_
    by_cases hj : j < v.length
    · rw [elm_en hvl hj]
      have h1 := hl c
      have h2 := hv c
      rw [hc] at h1 h2
      have m1 := mul_pow h1 (hv j)
      have m2 := mul_pow h2 (hl j)
      have := sub_pow (up_pow m1 (show e + 0 + (d + g j) ≤ d + e + g j by omega)) (up_pow m2 (show d + 0 + (e + g j) ≤ d + e + g j by omega))
      exact up_pow this (by omega)
    · rw [en_out (by rw [elm_len c hvl]; omega)]
      exact Nat.pow_pos (by decide)
/-- the bound of the i-th row after r eliminations -/
def lpb (b r i : Nat) : Nat := (b + 1) * (2 ^ r - 2 ^ i) - 1
def LPg (g : Nat → Nat) (b r : Nat) : List (Nat × List Int) → Prop
  | [] => True
  | p :: t => Lmg g (lpb b r t.length) p.2 ∧ LPg g b r t
theorem lpb_step {b r i : Nat} (h : i < r) : lpb b r i + lm b r + 1 = lpb b (r + 1) i := by
  unfold lpb lm
  have h1 : 2 ^ i < 2 ^ r := Nat.pow_lt_pow_right (by decide) h
  have h2 : 1 ≤ 2 ^ r := Nat.one_le_two_pow
  have e : 2 ^ (r + 1) - 2 ^ i = (2 ^ r - 2 ^ i) + 2 ^ r := by rw [Nat.pow_succ]; omega
  rw [e, Nat.mul_add]
  have h3 : (b + 1) * 1 ≤ (b + 1) * (2 ^ r - 2 ^ i) := Nat.mul_le_mul_left _ (by omega)
  have h4 : (b + 1) * 1 ≤ (b + 1) * 2 ^ r := Nat.mul_le_mul_left _ h2
  omega
theorem lpb_self (b r : Nat) : lpb b (r + 1) r = lm b r := by
  unfold lpb lm
  rw [show 2 ^ (r + 1) - 2 ^ r = 2 ^ r by rw [Nat.pow_succ]; omega]
theorem LPg.clr {g : Nat → Nat} {b r c w : Nat} {l : List Int} (hc : g c = 0) (hl : Lmg g (lm b r) l) (ll : l.length = w) : ∀ {P : List (Nat × List Int)}, P.length ≤ r → (∀ p ∈ P, p.2.length = w) → LPg g b r P → LPg g b (r + 1) (clrP l c P)
  | [], _, _, _ => trivial
  | p :: t, hr, hw, h => by
    have hr' : t.length < r := hr
    have e : (clrP l c t).length = t.length := by unfold clrP; rw [List.length_map]
    refine ⟨?_, LPg.clr hc hl ll (Nat.le_of_lt hr') (fun q hq => hw q (List.mem_cons_of_mem _ hq)) h.2⟩
    show Lmg g (lpb b (r + 1) (clrP l c t).length) (HwP.clr p.2 l c)
    rw [e, ← lpb_step hr']
    exact Lmg.clr (by rw [hw p List.mem_cons_self, ll]) hc h.1 hl
/-- what is known of all entries -/
def LP (M : List (List Int)) (P : List (Nat × List Int)) (W : List (List Int)) : Prop :=
  ∀ (g : Nat → Nat) (b : Nat), (∀ v ∈ M, Lmg g b v) → (∀ p ∈ P, g p.1 = 0) → LPg g b P.length P ∧ ∀ v ∈ W, Lmg g (lm b P.length) v
theorem lp0 (M : List (List Int)) : LP M [] (M.map prim) := fun g b hM _ => ⟨trivial, fun v hv => by
  obtain ⟨u, hu, rfl⟩ := List.mem_map.mp hv
  have := (hM u hu).prim
  rw [show lm b ([] : List (Nat × List Int)).length = b by unfold lm; simp]
  exact this⟩
theorem LP.step {w c at' : Nat} {M : List (List Int)} {P : List (Nat × List Int)} {W : List (List Int)} {v0 : List Int} (h : LP M P W) (hP : ∀ p ∈ P, p.2.length = w) (hW : ∀ v ∈ W, v.length = w) (e0 : W[at']? = some v0) :
    LP M ((c, wpos v0 c) :: clrP (wpos v0 c) c P) ((W.eraseIdx at').map fun v => clr v (wpos v0 c) c) := fun g b hM hg => by
  have m0 := List.mem_of_getElem? e0
  have hc : g c = 0 := hg (c, wpos v0 c) List.mem_cons_self
  have hgP : ∀ p ∈ P, g p.1 = 0 := fun p hp => hg (p.1, clr p.2 (wpos v0 c) c) (List.mem_cons_of_mem _ (List.mem_map.mpr ⟨p, hp, rfl⟩))
  obtain ⟨h1, h2⟩ := h g b hM hgP
  have hl := (h2 v0 m0).wpos (c := c)
  have ll : (wpos v0 c).length = w := by rw [wpos_len, hW v0 m0]
  have e : (clrP (wpos v0 c) c P).length = P.length := by unfold clrP; rw [List.length_map]
  have eL : ((c, wpos v0 c) :: clrP (wpos v0 c) c P).length = P.length + 1 := by rw [List.length_cons, e]
  rw [eL]
  refine ⟨⟨?_, LPg.clr hc hl ll (Nat.le_refl _) hP h1⟩, fun v' hv' => ?_⟩
  · show Lmg g (lpb b (P.length + 1) (clrP (wpos v0 c) c P).length) (wpos v0 c)
    rw [e, lpb_self]
    exact hl
  · obtain ⟨v, hv, rfl⟩ := List.mem_map.mp hv'
    have hv := List.mem_of_mem_eraseIdx hv
    have := Lmg.clr (by rw [hW v hv, ll]) hc (h2 v hv) hl
    rw [← lm_step]
    exact this.up (by omega)
/-- the product of the pivots -/
def ppv : List (Nat × List Int) → Nat
  | [] => 1
  | p :: t => (en p.2 p.1).natAbs * ppv t
def sbn (b r : Nat) : Nat → Nat
  | 0 => 0
  | n + 1 => sbn b r n + lpb b r n
theorem ppv_lim {g : Nat → Nat} {b r : Nat} : ∀ {P : List (Nat × List Int)}, LPg g b r P → (∀ p ∈ P, g p.1 = 0) → ppv P ≤ 2 ^ sbn b r P.length
  | [], _, _ => Nat.le_refl 1
  | p :: t, h, hg => by
    have ih := ppv_lim h.2 fun q hq => hg q (List.mem_cons_of_mem _ hq)
    have h1 := h.1 p.1
    rw [hg p List.mem_cons_self] at h1
    show (en p.2 p.1).natAbs * ppv t ≤ 2 ^ (sbn b r t.length + lpb b r t.length)
    rw [Nat.pow_add, Nat.mul_comm]
    exact Nat.mul_le_mul ih (Nat.le_of_lt h1)
theorem ppv_split {g : Nat → Nat} {b r : Nat} : ∀ {P : List (Nat × List Int)}, LPg g b r P → (∀ p ∈ P, g p.1 = 0) → ∀ p ∈ P, ∃ d R, Lmg g d p.2 ∧ ppv P = (en p.2 p.1).natAbs * R ∧ R * 2 ^ d ≤ 2 ^ sbn b r P.length
  | [], _, _, _, hp => nomatch hp
  | q :: t, h, hg, p, hp => by
    rcases List.mem_cons.mp hp with e | e
    · subst e
      refine ⟨_, ppv t, h.1, rfl, ?_⟩
      show _ ≤ 2 ^ (sbn b r t.length + lpb b r t.length)
      rw [Nat.pow_add]
      exact Nat.mul_le_mul_right _ (ppv_lim h.2 fun q hq => hg q (List.mem_cons_of_mem _ hq))
    · obtain ⟨d, R, h1, h2, h3⟩ := ppv_split h.2 (fun q hq => hg q (List.mem_cons_of_mem _ hq)) p e
      have h4 := h.1 q.1
      rw [hg q List.mem_cons_self] at h4
      refine ⟨d, (en q.2 q.1).natAbs * R, h1, ?_, ?_⟩
      · show (en q.2 q.1).natAbs * ppv t = _
        rw [h2, Nat.mul_left_comm]
      · show _ ≤ 2 ^ (sbn b r t.length + lpb b r t.length)
        rw [Nat.pow_add, Nat.mul_assoc, Nat.mul_comm (2 ^ sbn b r t.length)]
        exact Nat.mul_le_mul (Nat.le_of_lt h4) h3
/-- what echelon tells -/
structure Ech (w b : Nat) (M : List (List Int)) (P : List (Nat × List Int)) (left : List (List Int)) : Prop where
  inv : Inv w (Nl w M) w P left
  red : Red w P
  lim : ∀ p ∈ P, Lim (lm b P.length) p.2
  lw : P.length ≤ w
  lM : P.length ≤ M.length
  lp : LP M P left
def rowsP (P : List (Nat × List Int)) : List (List Int) := (P.map (·.2)).reverse
theorem rowsP_len (P : List (Nat × List Int)) : (rowsP P).length = P.length := by unfold rowsP; rw [List.length_reverse, List.length_map]
theorem rowsP_cons (p : Nat × List Int) (P : List (Nat × List Int)) : rowsP (p :: P) = rowsP P ++ [p.2] := by unfold rowsP; rw [List.map_cons, List.reverse_cons]
theorem rowsP_clr (l : List Int) (c : Nat) (P : List (Nat × List Int)) : rowsP (clrP l c P) = (rowsP P).map fun v => clr v l c := by
  unfold rowsP clrP
  rw [List.map_map, List.map_reverse, List.map_map]
  rfl
theorem rowsP_mem {P : List (Nat × List Int)} {v : List Int} : v ∈ rowsP P ↔ ∃ p ∈ P, p.2 = v := by
  unfold rowsP
  rw [List.mem_reverse, List.mem_map]

abbrev s_echelon : Stmt := topS 9
theorem sc_echelon : FnScope ["rows", "work", "done", "column", "at", "lead", "row", "k"] ["rows"] (defScope s_echelon) := ⟨rfl, rfl, rfl, by decide +kernel, rfl, by decide +kernel, by decide +kernel⟩
def spEch : Sp := fun vs H Q _ => ∃ (a : Addr) (M : List (List Int)) (w b t : Nat), vs = [.ref a] ∧ VL H a M ∧ (∀ v ∈ M, v.length = w) ∧ 1 ≤ w ∧ w ≤ 100 ∧ 1 ≤ M.length ∧ M.length ≤ 100 ∧ (∀ v ∈ M, Lim b v) ∧ (w ≤ t ∨ M.length ≤ t) ∧ lm b t ≤ 299 ∧
  ∀ (H' : Hp) (r : Addr) (P : List (Nat × List Int)) (left : List (List Int)), Same H H' → H r = none → VL H' r (rowsP P) → Ech w b M P left → Q (.ref r) H'
theorem ok_ech {f : Addr} {fd : FuncData} {k : Nat} (F : Fun K "echelon" "echelon" s_echelon f fd) (Z : Glb mg)
    (Cprimitive : Call P w K mg base k "primitive" ["v"] spPrimL)
    (Cfirst_with_entry : Call P w K mg base k "first_with_entry" ["rows", "column", "start"] spFirst)
    (Cwith_positive_entry : Call P w K mg base k "with_positive_entry" ["row", "column"] spWpos)
    (Ccleared : Call P w K mg base k "cleared" ["row", "lead", "column"] spClr) : FnOk P w K mg base CX0 (k + 1) f fd ["rows"] spEch := by
  refine F.ok sc_echelon (fun vs H Q E h => ?_) (fun cdv A outer s H vs Q E hr h => ?_)
  · obtain ⟨a, M, w, b, t, rfl, _⟩ := h
    rfl
  · obtain ⟨a, M, w, b, t, rfl, hV, hw, w1, w2, m1, m2, hB, ht, hb, q⟩ := h
    obtain ⟨rs, ea, rl, rg⟩ := id hV
    refine ⟨_, (pss_cons (ps_setLc (i := 1) (own := [("row", 6)]) (g := gName 6) (tt := tYes) (by rfl) sc_echelon.nd rfl rfl (sw_true rfl rfl rfl (by decide +kernel)) (pi_list (pv 0)) (blkOk_by (own := [("row", 6)]) (N := ["rows", "work", "done", "column", "at", "lead", "row", "k"]) (sc := defScope s_echelon) (by first | decide +kernel | kernel_rfl)) (fun _ _ _ _ _ => (pg_name (i := 6) sc_echelon.nd rfl (.inl rfl))) (fun _ _ _ _ _ => pts_nil) (fun _ _ _ _ _ => (pe_call Cprimitive.G hr (by rfl) Cprimitive.m Cprimitive.kp Cprimitive.b .nil pass0 (pa_cons (pv 6) pa_nil))))
      (pss_cons (ps_set (i := 2) sc_echelon.nd rfl (.inl rfl) (pe_lst pa_nil))
      (pss_cons (ps_for PassesOwn.never rfl (pi_range1 rfl Z.m_range (pa_cons (pe_callB call_len_seq (by rfl) Z.m_len PySem.boot_len (pa_cons (pe_ix (r := rIxL K) ix_list (pv 0) pe_int (fun _ _ => rfl)) pa_nil)) pa_nil)) (pg_name (i := 3) sc_echelon.nd rfl (.inr rfl)) (pss_cons (ps_set (i := 4) sc_echelon.nd rfl (.inr rfl) (pe_call Cfirst_with_entry.G hr (by rfl) Cfirst_with_entry.m Cfirst_with_entry.kp Cfirst_with_entry.b .nil pass0 (pa_cons (pv 1) (pa_cons (pv 3) (pa_cons pe_int pa_nil)))))
      (pss_one (ps_if (pt_cmp (pc_notN (pv 4))) (pss_cons (ps_set (i := 5) sc_echelon.nd rfl (.inr rfl) (pe_call Cwith_positive_entry.G hr (by rfl) Cwith_positive_entry.m Cwith_positive_entry.kp Cwith_positive_entry.b .nil pass0 (pa_cons (pe_ix (r := rIxL K) ix_list (pv 1) (pv 4) (fun _ _ => rfl)) (pa_cons (pv 3) pa_nil))))
      (pss_cons (ps_setLc (i := 2) (own := [("row", 6)]) (g := gName 6) (tt := tYes) (by rfl) sc_echelon.nd rfl rfl (sw_true rfl rfl rfl (by decide +kernel)) (pi_list (pv 2)) (blkOk_by (own := [("row", 6)]) (N := ["rows", "work", "done", "column", "at", "lead", "row", "k"]) (sc := defScope s_echelon) (by first | decide +kernel | kernel_rfl)) (fun _ _ _ _ _ => (pg_name (i := 6) sc_echelon.nd rfl (.inl rfl))) (fun _ _ _ _ _ => pts_nil) (fun _ _ _ _ _ => (pe_call Ccleared.G hr (by rfl) Ccleared.m Ccleared.kp Ccleared.b .nil pass0 (pa_cons (pv 6) (pa_cons (pv 5) (pa_cons (pv 3) pa_nil))))))
      (pss_cons (ps_expr (pe_bm PySem.F.plainAttrs_list PySem.F.slot_list_append PySem.F.type_list_append mt_append (pv 2) (pa_cons (pv 5) pa_nil)))
      (pss_one (ps_setLc (i := 1) (own := [("k", 7), ("row", 6)]) (g := gTup K 2 (gCons (gName 7) (gCons (gName 6) gNil))) (by rfl) sc_echelon.nd rfl rfl (sw_true rfl rfl rfl (by decide +kernel)) (pi_enum (by rfl) Z.m_enumerate (pa_cons (pv 1) pa_nil)) (blkOk_by (own := [("k", 7), ("row", 6)]) (N := ["rows", "work", "done", "column", "at", "lead", "row", "k"]) (sc := defScope s_echelon) (by first | decide +kernel | kernel_rfl)) (fun _ _ _ _ _ => (pg_tup rfl (pgs_cons (pg_name (i := 7) sc_echelon.nd rfl (.inl rfl)) (pgs_cons (pg_name (i := 6) sc_echelon.nd rfl (.inl rfl)) pgs_nil)))) (fun _ _ _ _ _ => (pts_one (pt_cmpR op_ne (pv 7) (pv 4) (nomark _)))) (fun _ _ _ _ _ => (pe_call Ccleared.G hr (by rfl) Ccleared.m Ccleared.kp Ccleared.b .nil pass0 (pa_cons (pv 6) (pa_cons (pv 5) (pa_cons (pv 3) pa_nil)))))))))) pss_nil))))
      (pss_one (ps_ret (pv 2)))))), ?_⟩
    -- work
    refine ⟨_, rfl, a, rfl, ⟨_, SqL.of ea⟩, fun wl nwl => ?_⟩
    refine lc_list (xs := rs.map V.ref) (fun i H' => PvL H wl ((M.map prim).take i) H') (pvl0 nwl) (fun i H' _ hP => SqL.of (hP.1 _ _ ea)) (fun i x H' hx hP => ?_) (fun H1 hP => ?_)
    · obtain ⟨r, hr1, rfl⟩ := ref_get hx
      obtain ⟨v, ev, hv⟩ := rg _ _ hr1
      have lv := hw v (List.mem_of_getElem? ev)
      refine ⟨rfl, ?_⟩
      unfold tYes
      refine iteT ?_
      refine ⟨_, rfl, true, r, v, rfl, hP.1 _ _ hv, by omega, (hB v (List.mem_of_getElem? ev)).up (by have := lm_up b (Nat.zero_le t); unfold lm at *; simp at this; omega), fun H2 r2 s2 hr2 => ?_⟩
      have := pvl_step nwl hP s2 hr2 (by rw [List.length_take]; have := lt_of_get ev; omega)
      rw [← take_get (xs := M.map prim) (i := i) (by rw [List.getElem?_map, ev]; rfl)] at this
      exact this
    rw [show (rs.map V.ref).length = (M.map prim).length by rw [List.length_map, List.length_map, rl], List.take_length] at hP
    -- done
    refine ⟨Nat.zero_le _, fun dl ndl => ?_⟩
    have s2 := hP.1.trans (same_upd (o := .lst []) ndl)
    have ndl0 : H dl = none := hP.1.free ndl
    have Vw : VL (upd H1 dl (.lst [])) wl (M.map prim) := hP.2.same (same_upd ndl)
    have Vd : VL (upd H1 dl (.lst [])) dl (rowsP []) := vl0
    generalize upd H1 dl (.lst []) = H2 at *
    -- the columns
    have er0 : rs[0]? = some (rs[0]'(by omega)) := List.getElem?_eq_getElem (by omega)
    obtain ⟨v0, ev0, hv0⟩ := rg _ _ er0
    have lv0 := hw v0 (List.mem_of_getElem? ev0)
    refine ⟨_, rfl, _, _, _, _, rfl, rfl, SqL.of (s2 _ _ ea), atI_nat (get_ref er0), _, _, rfl, .inr (SqT.of (s2 _ _ hv0)), (v0.map V.int).length, rfl, by rw [List.length_map]; omega, by rw [List.length_map]; omega, ?_⟩
    rw [List.length_map, lv0]
    refine for_range (lo := 0) (n := w) (fun c σ H' => ∃ (P : List (Nat × List Int)) (W : List (List Int)) (wl dl : Addr) (y3 y4 y5 : Option V), σ = [some (.ref a), some (.ref wl), some (.ref dl), y3, y4, y5, none, none] ∧ Same H H' ∧ H dl = none ∧ VL H' wl W ∧ VL H' dl (rowsP P) ∧
        Inv w (Nl w M) c P W ∧ Red w P ∧ (∀ v ∈ W, v.length = w) ∧ (∀ v ∈ W, Pok v) ∧ P.length + W.length = M.length ∧ P.length ≤ c ∧ (∀ v ∈ W, Lim (lm b P.length) v) ∧ (∀ p ∈ P, Lim (lm b P.length) p.2) ∧ LP M P W)
      ⟨[], M.map prim, wl, dl, _, _, _, rfl, s2, ndl0, Vw, Vd, by rw [nl_prim]; exact Inv.start w _, ⟨(fun _ h => nomatch h), (fun _ h => nomatch h), (fun _ h => nomatch h), (fun _ h => nomatch h)⟩, ?_, ?_, by rw [List.length_map]; exact Nat.zero_add _, Nat.zero_le _, ?_, (fun _ h => nomatch h), lp0 M⟩ (fun c σ H3 hc hW => ?_) (fun σ H3 hW => ?_)
    · intro v hv
      obtain ⟨u, hu, rfl⟩ := List.mem_map.mp hv
      rw [prim_len, hw u hu]
    · intro v hv
      obtain ⟨u, hu, rfl⟩ := List.mem_map.mp hv
      exact pok_prim u
    · intro v hv
      obtain ⟨u, hu, rfl⟩ := List.mem_map.mp hv
      have := prim_lim (hB u hu)
      rw [show lm b ([] : List (Nat × List Int)).length = b by unfold lm; simp]
      exact this
    · obtain ⟨P1, W, wl, dl, y3, y4, y5, rfl, s3, ndl, Vw, Vd, hI, hR, lW, pW, lPW, lP, bW, bP, hLP⟩ := hW
      have e0 : (0 : Int) + (c : Int) = ((c : Nat) : Int) := Int.zero_add _
      rw [e0]
      refine ⟨_, rfl, _, rfl, wl, W, c, w, rfl, Vw, lW, hc, by omega, fun hz => ?_, fun at' v0 ev0 hn => ?_⟩
      · refine ⟨_, rfl, _, rfl, iteF ?_⟩
        exact ⟨P1, W, wl, dl, _, _, _, rfl, s3, ndl, Vw, Vd, hI.none hc hz, hR, lW, pW, lPW, by omega, bW, bP, hLP⟩
      · have m0 := List.mem_of_getElem? ev0
        have W1 : 1 ≤ W.length := by have := lt_of_get ev0; omega
        have lv0 := lW v0 m0
        have lim : lm b (P1.length + 1) ≤ 299 := Nat.le_trans (lm_up b (by omega)) hb
        have lims := lm_step b P1.length
        obtain ⟨ws, ew, wsl, wsg⟩ := id Vw
        have er : ws[at']? = some (ws[at']'(by have := lt_of_get ev0; omega)) := List.getElem?_eq_getElem _
        obtain ⟨v0', ev0', hv0⟩ := wsg _ _ er
        rw [ev0] at ev0'
        cases ev0'
        obtain ⟨hI', hR'⟩ := ech_step hI hR hc lW pW ev0 hn
        have ll : (wpos v0 c).length = w := by rw [wpos_len, lv0]
        refine ⟨_, rfl, _, rfl, iteT ?_⟩
        -- lead
        refine ⟨_, rfl, _, rfl, _, _, _, _, rfl, rfl, SqL.of ew, atI_nat (get_ref er), _, rfl, _, c, v0, rfl, hv0, by omega, by omega, fun H4 ld s4 hld => ?_⟩
        have Vd4 := Vd.same s4
        have Vw4 := Vw.same s4
        obtain ⟨ds, ed, dsl, dsg⟩ := id Vd4
        rw [rowsP_len] at dsl
        have bl := wpos_lim (c := c) (bW v0 m0)
        -- done
        refine ⟨_, rfl, dl, rfl, ⟨_, SqL.of ed⟩, fun D nD => ?_⟩
        refine lc_list (xs := ds.map V.ref) (fun i H' => PvL H4 D (((rowsP P1).map fun v => clr v (wpos v0 c) c).take i) H') (pvl0 nD) (fun i H' _ hP => SqL.of (hP.1 _ _ ed)) (fun i x H' hx hP => ?_) (fun H5 hP => ?_)
        · obtain ⟨r, hr1, rfl⟩ := ref_get hx
          obtain ⟨v, ev, hv⟩ := dsg _ _ hr1
          obtain ⟨p, hp, ep⟩ := rowsP_mem.mp (List.mem_of_getElem? ev)
          have lv : v.length = w := by rw [← ep]; exact hR.len p hp
          have bv : Lim (lm b P1.length) v := by rw [← ep]; exact bP p hp
          refine ⟨rfl, ?_⟩
          unfold tYes
          refine iteT ?_
          refine ⟨_, rfl, _, rfl, _, rfl, r, ld, v, wpos v0 c, c, lm b P1.length, rfl, hP.1 _ _ hv, hP.1 _ _ hld, by omega, by omega, by omega, bv, bl, by omega, fun H6 r2 s6 hr2 => ?_⟩
          have := pvl_step nD hP s6 hr2 (by rw [List.length_take]; have := lt_of_get ev; rw [rowsP_len] at this; omega)
          rw [← take_get (xs := (rowsP P1).map fun v => clr v (wpos v0 c) c) (i := i) (by rw [List.getElem?_map, ev]; rfl)] at this
          exact this
        rw [show (ds.map V.ref).length = ((rowsP P1).map fun v => clr v (wpos v0 c) c).length by rw [List.length_map, List.length_map, rowsP_len, dsl], List.take_length] at hP
        -- append
        obtain ⟨acc, ea5, la5, hP6⟩ := pvl_step nD hP (Same.refl _) (hP.1 _ _ hld) (by rw [List.length_map, rowsP_len]; omega)
        refine ⟨_, rfl, .inl ⟨rfl, _, SqL.of ea5⟩, _, rfl, D, _, _, rfl, rfl, ea5, la5, ?_⟩
        rw [← rowsP_clr, ← rowsP_cons (c, wpos v0 c)] at hP6
        generalize upd H5 D (.lst (acc ++ [V.ref ld])) = H6 at *
        have Vw6 := Vw4.same hP6.1
        have ew6 := hP6.1 _ _ (s4 _ _ ew)
        -- work
        refine ⟨_, rfl, wl, _, rfl, SqL.of ew6, fun D2 nD2 => ?_⟩
        refine lc_it (walk_enum (xs := ws.map V.ref)) (fun i H' => PvL H6 D2 (((W.take i).eraseIdx at').map fun v => clr v (wpos v0 c) c) H') (pvl0 nD2) (fun i H' _ hP => SqL.of (hP.1 _ _ ew6)) (fun i x H' H'' hi hP hY => ?_) (fun H7 hP => ?_)
        · obtain ⟨T, x1, y1, rfl, nT, rfl, hx, hy⟩ := hY
          obtain ⟨r, hr1, rfl⟩ := ref_get hy
          cases hx
          obtain ⟨v, ev, hv⟩ := wsg _ _ hr1
          have hv6 := hP6.1 _ _ (s4 _ _ hv)
          have lv := lW v (List.mem_of_getElem? ev)
          refine ⟨T, [.int i, .ref r], rfl, SqT.of upd_same, rfl, _, _, rfl, _, _, rfl, rfl, rfl, ?_⟩
          have s7 := hP.1.trans (same_upd (o := .tup [.int i, .ref r]) nT)
          have hT : D2 ≠ T := by
            obtain ⟨rs7, e7, _⟩ := hP.2
            exact ne_of_none e7 nT
          have hP7 : PvL H6 D2 (((W.take i).eraseIdx at').map fun v => clr v (wpos v0 c) c) (upd H' T (.tup [.int i, .ref r])) := ⟨s7, hP.2.same (same_upd nT)⟩
          have et := erase_take (a := at') ev
          refine ⟨_, rfl, _, rfl, rfl, _, rfl, ite2 (fun e => ?_) (fun e => ?_)⟩
          · have ne : i ≠ at' := fun z => by subst z; exact absurd e (by simp)
            rw [if_neg ne] at et
            refine ⟨_, rfl, _, rfl, _, rfl, r, ld, v, wpos v0 c, c, lm b P1.length, rfl, s7 _ _ hv6, s7 _ _ (hP6.1 _ _ hld), by omega, by omega, by omega, bW v (List.mem_of_getElem? ev), bl, by omega, fun H8 r2 s8 hr2 => ?_⟩
            have := pvl_step nD2 hP7 s8 hr2 (by
              rw [List.length_map]
              have h1 := List.length_eraseIdx_le (W.take i) at'
              have h2 := List.length_take_le i W
              have := lt_of_get ev
              omega)
            rw [et, List.map_append]
            exact this
          · have ne : i = at' := by
              by_cases z : i = at'
              · exact z
              · exact absurd (by simp; omega) e
            rw [if_pos ne] at et
            rw [et]
            exact hP7
        rw [show (ws.map V.ref).length = W.length by rw [List.length_map, wsl], List.take_length] at hP
        refine ⟨_, W.eraseIdx at' |>.map fun v => clr v (wpos v0 c) c, D2, D, _, _, _, rfl, (s3.trans s4).trans (hP6.1.trans hP.1), (s3.trans s4).free nD, hP.2, hP6.2.same hP.1, hI', hR', ?_, ?_, ?_, ?_, ?_, ?_, hLP.step hR.len lW ev0⟩
        · intro v' hv'
          obtain ⟨v, hv, rfl⟩ := List.mem_map.mp hv'
          have := lW v (List.mem_of_mem_eraseIdx hv)
          rw [clr_len _ (by omega), this]
        · intro v' hv'
          obtain ⟨v, hv, rfl⟩ := List.mem_map.mp hv'
          exact (pW v (List.mem_of_mem_eraseIdx hv)).clr
        · rw [List.length_map, List.length_eraseIdx_of_lt (lt_of_get ev0), List.length_cons]
          unfold clrP
          rw [List.length_map]
          omega
        · rw [List.length_cons]
          unfold clrP
          rw [List.length_map]
          omega
        · intro v' hv'
          obtain ⟨v, hv, rfl⟩ := List.mem_map.mp hv'
          rw [List.length_cons]
          unfold clrP
          rw [List.length_map, ← lims]
          exact clr_lim c (bW v (List.mem_of_mem_eraseIdx hv)) bl
        · intro p hp
          rw [List.length_cons]
          have el : (clrP (wpos v0 c) c P1).length = P1.length := by unfold clrP; rw [List.length_map]
          rw [el, ← lims]
          rcases List.mem_cons.mp hp with e | e
          · rw [e]; exact bl.up (by omega)
          · unfold clrP at e
            obtain ⟨q', hq', rfl⟩ := List.mem_map.mp e
            exact clr_lim c (bP q' hq') bl
    · obtain ⟨P1, W, wl, dl, y3, y4, y5, rfl, s3, ndl, Vw, Vd, hI, hR, lW, pW, lPW, lP, bW, bP, hLP⟩ := hW
      exact ⟨_, rfl, q H3 dl P1 W s3 ndl Vd ⟨hI, hR, bP, lP, by omega, hLP⟩⟩

/-! ### the law's rank -/
def rListOf (K : PySem.W.Frag) : List V → Hp → VK → Prop := fun xs H Q => ∃ p ys, xs = [V.ref p] ∧ (SqL K H p ys ∨ SqT K H p ys) ∧ ∀ l, H l = none → Q (V.ref l) (upd H l (HO.lst ys))
def LL (H : Hp) (a : Addr) (M : List (List Int)) : Prop := ∃ rs : List Addr, H a = some (.lst (rs.map V.ref)) ∧ rs.length = M.length ∧ ∀ (i : Nat) (r : Addr), rs[i]? = some r → r ≠ a ∧ ∃ v : List Int, M[i]? = some v ∧ H r = some (.lst (v.map V.int))
theorem LL.same {H H' : Hp} {a : Addr} {M : List (List Int)} (h : LL H a M) (s : Same H H') : LL H' a M := by
  obtain ⟨rs, e, l, g⟩ := h
  exact ⟨rs, s _ _ e, l, fun i r hr => by obtain ⟨n, v, h1, h2⟩ := g i r hr; exact ⟨n, v, h1, s _ _ h2⟩⟩
theorem ll0 {H : Hp} {a : Addr} : LL (upd H a (.lst [])) a [] := ⟨[], upd_same, rfl, fun i r h => no_get h⟩
theorem LL.push {H : Hp} {a r : Addr} {M : List (List Int)} {v : List Int} {acc : List V} (h : LL H a M) (ne : r ≠ a) (hr : H r = some (.lst (v.map V.int))) (e : H a = some (.lst acc)) : LL (upd H a (.lst (acc ++ [.ref r]))) a (M ++ [v]) := by
  obtain ⟨rs, e', l, g⟩ := h
  rw [e'] at e
  have e := HO.lst.inj (Option.some.inj e)
  subst e
  refine ⟨rs ++ [r], by rw [upd_same, List.map_append]; rfl, by rw [List.length_append, List.length_append, l]; rfl, fun i t ht => ?_⟩
  rcases app_get ht with h1 | ⟨h1, rfl⟩
  · obtain ⟨n, u, h2, h3⟩ := g i t h1
    exact ⟨n, u, by rw [List.getElem?_append_left (lt_of_get h2)]; exact h2, by rw [upd_ne n]; exact h3⟩
  · refine ⟨ne, v, ?_, by rw [upd_ne ne]; exact hr⟩
    rw [h1, l, List.getElem?_append_right (Nat.le_refl _), Nat.sub_self]
    rfl
theorem LL.erase {H : Hp} {a : Addr} {M : List (List Int)} {k : Nat} {xs : List V} (h : LL H a M) (e : H a = some (.lst xs)) : LL (upd H a (.lst (xs.eraseIdx k))) a (M.eraseIdx k) := by
  obtain ⟨rs, e', l, g⟩ := h
  rw [e'] at e
  have e := HO.lst.inj (Option.some.inj e)
  subst e
  have em : ∀ (ys : List Addr) (k : Nat), (ys.map V.ref).eraseIdx k = (ys.eraseIdx k).map V.ref := fun ys k => by
    rw [List.eraseIdx_eq_take_drop_succ, List.eraseIdx_eq_take_drop_succ, List.map_append, List.map_take, List.map_drop]
  refine ⟨rs.eraseIdx k, by rw [upd_same, em], by rw [List.length_eraseIdx, List.length_eraseIdx, l], fun i t ht => ?_⟩
  rw [List.getElem?_eraseIdx] at ht ⊢
  split at ht
  · rename_i hlt
    obtain ⟨n, u, h2, h3⟩ := g _ t ht
    exact ⟨n, u, by rw [if_pos hlt]; exact h2, by rw [upd_ne n]; exact h3⟩
  · rename_i hlt
    obtain ⟨n, u, h2, h3⟩ := g _ t ht
    exact ⟨n, u, by rw [if_neg hlt]; exact h2, by rw [upd_ne n]; exact h3⟩
def PlL (H : Hp) (D : Addr) (M : List (List Int)) (H' : Hp) : Prop := Same H H' ∧ LL H' D M
theorem pll0 {H : Hp} {D : Addr} (nD : H D = none) : PlL H D [] (upd H D (.lst [])) := ⟨same_upd nD, ll0⟩
theorem pll_step {H H' H'' : Hp} {D r : Addr} {vs : List (List Int)} {v : List Int} (nD : H D = none) (hP : PlL H D vs H') (s : Same H' H'') (ne : r ≠ D) (hr : H'' r = some (.lst (v.map V.int))) (hl : vs.length < 1000) :
    ∃ acc, H'' D = some (.lst acc) ∧ acc.length < sizeLine ∧ PlL H D (vs ++ [v]) (upd H'' D (.lst (acc ++ [.ref r]))) := by
  have V2 := hP.2.same s
  obtain ⟨rs, e, l, g⟩ := id V2
  refine ⟨_, e, by rw [List.length_map, l]; exact small1000 (by omega), fun y o hy => ?_, V2.push ne hr e⟩
  rw [upd_ne (ne_of_none hy nD)]
  exact s _ _ (hP.1 _ _ hy)
def elr (w : Nat) (v l : List Int) (c : Nat) : List Int := (List.range w).map fun j => en v j * en l c - en l j * en v c
theorem elr_len (w : Nat) (v l : List Int) (c : Nat) : (elr w v l c).length = w := by unfold elr; rw [List.length_map, List.length_range]
theorem elr_get {w : Nat} {v l : List Int} {c j : Nat} (h : j < w) : (elr w v l c)[j]? = some (en v j * en l c - en l j * en v c) := by
  unfold elr
  rw [List.getElem?_map, List.getElem?_range h]
  rfl
theorem elr_el {w c : Nat} (v l : List Int) : El w c l v (elr w v l c) := by
  refine ⟨1, by decide, fun j hj => ?_⟩
  have : en (elr w v l c) j = en v j * en l c - en l j * en v c := by
    show (elr w v l c).getD j 0 = _
    rw [List.getD_eq_getElem?_getD, elr_get hj]
    rfl
  rw [this, Int.one_mul, Int.mul_comm (en v j), Int.mul_comm (en l j)]
theorem elr_lim {w b c : Nat} {v l : List Int} (hv : Lim b v) (hl : Lim b l) : Lim (2 * b + 1) (elr w v l c) := by
  intro x hx
  unfold elr at hx
  obtain ⟨j, _, rfl⟩ := List.mem_map.mp hx
  have := sub_pow (mul_pow (hv.en j) (hl.en c)) (mul_pow (hl.en j) (hv.en c))
  rw [show 2 * b + 1 = b + b + 1 by omega]
  exact this
theorem lr_step {w c at' : Nat} {N : (Nat → Int) → Prop} {P : List (Nat × List Int)} {W : List (List Int)} {v0 : List Int} (h : Inv w N c P W) (hc : c < w) (e0 : W[at']? = some v0) (n0 : en v0 c ≠ 0) :
    Inv w N (c + 1) ((c, v0) :: P) ((W.eraseIdx at').map fun v => elr w v v0 c) := by
  have m0 := List.mem_of_getElem? e0
  have mE : ∀ v ∈ W.eraseIdx at', v ∈ W := fun v hv => List.mem_of_mem_eraseIdx hv
  refine h.some hc n0 (h.zero v0 m0) h.tri rfl (fun _ _ => Iff.rfl) ⟨v0, m0, fun _ => Iff.rfl⟩ (fun v' hv' => ?_) (fun v hv => ?_)
  · obtain ⟨v, hv, rfl⟩ := List.mem_map.mp hv'
    exact ⟨v, mE v hv, elr_el v v0⟩
  · obtain ⟨i, hi⟩ := List.getElem?_of_mem hv
    by_cases z : i = at'
    · left
      subst z
      rw [e0] at hi
      cases hi
      exact fun _ => Iff.rfl
    · right
      exact ⟨_, List.mem_map.mpr ⟨v, (List.mem_eraseIdx_iff_getElem?).mpr ⟨i, z, hi⟩, rfl⟩, elr_el v v0⟩
theorem elr_getD {w c j c' : Nat} {v0 : List Int} {L : List (List Int)} (hj : j < L.length) (hc : c' < w) : en ((L.map fun v => elr w v v0 c).getD j []) c' = en (L.getD j []) c' * en v0 c - en v0 c' * en (L.getD j []) c := by
  rw [List.getD_eq_getElem?_getD, List.getD_eq_getElem?_getD, List.getElem?_map, List.getElem?_eq_getElem hj]
  show (elr w L[j] v0 c).getD c' 0 = _
  rw [List.getD_eq_getElem?_getD, elr_get hc]
  rfl
theorem cmulB {x y : Int} {B : Nat} (hx : x.natAbs < 2 ^ B) (hy : y.natAbs < 2 ^ B) (hB : B ≤ 100000) : CMulW x y :=
  cmul (a := B + 1) (b := B + 1) (up_pow hx (by omega)) (up_pow hy (by omega)) (by omega) (by omega) (by omega)
abbrev s__law_rank : Stmt := topS 22
theorem sc__law_rank : FnScope ["rows", "left", "found", "width", "k", "at", "j", "leader", "row"] ["rows"] (defScope s__law_rank) := ⟨rfl, rfl, rfl, by decide +kernel, rfl, by decide +kernel, by decide +kernel⟩
def spLRank : Sp := fun vs H Q _ => ∃ (a : Addr) (M : List (List Int)) (w b : Nat), vs = [.ref a] ∧ VL H a M ∧ (∀ v ∈ M, v.length = w) ∧ w ≤ 100 ∧ 1 ≤ M.length ∧ M.length ≤ 100 ∧ (∀ v ∈ M, Lim b v) ∧ lm b w ≤ 100000 ∧
  ∀ (H' : Hp) (P : List (Nat × List Int)) (left : List (List Int)), Same H H' → Inv w (Nl w M) w P left → P.length + left.length = M.length → (Dep w M ↔ left ≠ []) → Q (.int (P.length : Nat)) H'
theorem ok_lrank {f : Addr} {fd : FuncData} {k : Nat} (F : Fun K "_law_rank" "_law_rank" s__law_rank f fd) (Z : Glb mg) : FnOk P w K mg base CX0 (k + 1) f fd ["rows"] spLRank := by
  refine F.ok sc__law_rank (fun vs H Q E h => ?_) (fun cdv A outer s H vs Q E hr h => ?_)
  · obtain ⟨a, M, w, b, rfl, _⟩ := h
    rfl
  · obtain ⟨a, M, w, b, rfl, hV, hw, w2, m1, m2, hB, hb, q⟩ := h
    obtain ⟨rs, ea, rl, rg⟩ := id hV
    refine ⟨_, (pss_cons (ps_setLc (i := 1) (own := [("row", 8)]) (g := gName 8) (tt := tYes) (by rfl) sc__law_rank.nd rfl rfl (sw_true rfl rfl rfl (by decide +kernel)) (pi_list (pv 0)) (blkOk_by (own := [("row", 8)]) (N := ["rows", "left", "found", "width", "k", "at", "j", "leader", "row"]) (sc := defScope s__law_rank) (by first | decide +kernel | kernel_rfl)) (fun _ _ _ _ _ => (pg_name (i := 8) sc__law_rank.nd rfl (.inl rfl))) (fun _ _ _ _ _ => pts_nil) (fun _ _ _ _ _ => (pe_callTy (T := "list") (r := rListOf K) call_list_of (by rfl) Z.m_list (by decide +kernel) (pa_cons (pv 8) pa_nil))))
      (pss_cons (ps_set (i := 2) sc__law_rank.nd rfl (.inl rfl) pe_int)
      (pss_cons (ps_set (i := 3) sc__law_rank.nd rfl (.inr rfl) pe_int)
      (pss_cut (ps_if (pt_cmpR op_gt (pe_callB call_len_seq (by rfl) Z.m_len PySem.boot_len (pa_cons (pv 0) pa_nil)) pe_int (nomark _)) (pss_one (ps_set (i := 3) sc__law_rank.nd rfl (.inr rfl) (pe_callB call_len_seq (by rfl) Z.m_len PySem.boot_len (pa_cons (pe_ix (r := rIxL K) ix_list (pv 0) pe_int (fun _ _ => rfl)) pa_nil)))) pss_nil)
      (pss_cons (ps_for PassesOwn.never rfl (pi_range1 rfl Z.m_range (pa_cons (pv 3) pa_nil)) (pg_name (i := 4) sc__law_rank.nd rfl (.inr rfl)) (pss_cons (ps_set (i := 5) sc__law_rank.nd rfl (.inl rfl) (pe_un un_neg pe_int))
      (pss_cut (ps_for PassesOwn.never rfl (pi_range1 rfl Z.m_range (pa_cons (pe_callB call_len_seq (by rfl) Z.m_len PySem.boot_len (pa_cons (pv 1) pa_nil)) pa_nil)) (pg_name (i := 6) sc__law_rank.nd rfl (.inl rfl)) (pss_one (ps_if (PW.pt (pw_and (pt_cmpR op_lt (pv 5) pe_int (nomark _)) (pw_and1 (pt_cmpR op_ne (pe_ix (r := rIxL K) ix_list (pe_ix (r := rIxL K) ix_list (pv 1) (pv 6) (fun _ _ => rfl)) (pv 4) (fun _ _ => rfl)) pe_int (nomark _))))) (pss_one (ps_set (i := 5) sc__law_rank.nd rfl (.inl rfl) (pv 6))) pss_nil)))
      (pss_one (ps_if (pt_cmpR op_ge (pv 5) pe_int (nomark _)) (pss_cons (ps_set (i := 7) sc__law_rank.nd rfl (.inr rfl) (pe_bm PySem.F.plainAttrs_list PySem.F.slot_list_pop PySem.F.type_list_pop mt_popAt (pv 1) (pa_cons (pv 5) pa_nil)))
      (pss_cons (ps_set (i := 2) sc__law_rank.nd rfl (.inl rfl) (pe_op op_add (pv 2) pe_int))
      (pss_one (ps_setLc (i := 1) (own := [("row", 8)]) (g := gName 8) (tt := tYes) (by rfl) sc__law_rank.nd rfl rfl (sw_true rfl rfl rfl (by decide +kernel)) (pi_list (pv 1)) (blkOk_by (own := [("row", 8)]) (N := ["rows", "left", "found", "width", "k", "at", "j", "leader", "row"]) (sc := defScope s__law_rank) (by first | decide +kernel | kernel_rfl)) (fun _ _ _ _ _ => (pg_name (i := 8) sc__law_rank.nd rfl (.inr rfl))) (fun _ _ _ _ _ => pts_nil) (fun _ _ _ _ _ => (pe_lc (own := [("j", 6)]) (g := gName 6) (tt := tYes) (by rfl) sc__law_rank.nd (pi_range1 rfl Z.m_range (pa_cons (pv 3) pa_nil)) (blkOk_by (own := [("j", 6)]) (N := ["rows", "left", "found", "width", "k", "at", "j", "leader", "row"]) (by first | decide +kernel | kernel_rfl)) (fun _ _ _ _ _ => (pg_name (i := 6) sc__law_rank.nd rfl (.inl rfl))) (fun _ _ _ _ _ => pts_nil) (fun _ _ _ _ _ => (pe_op op_sub (pe_op op_mulW (pe_ix (r := rIxL K) ix_list (pv 8) (pv 6) (fun _ _ => rfl)) (pe_ix (r := rIxL K) ix_list (pv 7) (pv 4) (fun _ _ => rfl))) (pe_op op_mulW (pe_ix (r := rIxL K) ix_list (pv 7) (pv 6) (fun _ _ => rfl)) (pe_ix (r := rIxL K) ix_list (pv 8) (pv 4) (fun _ _ => rfl))))))))))) pss_nil)))))
      (pss_one (ps_ret (pv 2)))))))), ?_⟩
    -- left
    refine ⟨_, rfl, a, rfl, ⟨_, SqL.of ea⟩, fun ll nll => ?_⟩
    refine lc_list (xs := rs.map V.ref) (fun i H' => PlL H ll (M.take i) H') (pll0 nll) (fun i H' _ hP => SqL.of (hP.1 _ _ ea)) (fun i x H' hx hP => ?_) (fun H1 hP => ?_)
    · obtain ⟨r, hr1, rfl⟩ := ref_get hx
      obtain ⟨v, ev, hv⟩ := rg _ _ hr1
      refine ⟨rfl, ?_⟩
      unfold tYes
      refine iteT ?_
      refine ⟨_, rfl, r, _, rfl, .inr (SqT.of (hP.1 _ _ hv)), fun l nl => ?_⟩
      have lD : l ≠ ll := by
        obtain ⟨rs1, e1, _⟩ := hP.2
        exact (ne_of_none e1 nl).symm
      have := pll_step (r := l) (v := v) (H'' := upd H' l (.lst (v.map V.int))) nll hP (same_upd nl) lD upd_same (by rw [List.length_take]; have := lt_of_get ev; omega)
      rw [← take_get ev] at this
      exact this
    rw [show (rs.map V.ref).length = M.length by rw [List.length_map, rl], List.take_length] at hP
    obtain ⟨s1, L1⟩ := hP
    -- width
    refine ⟨fun σ H' => H' = H1 ∧ σ = [some (.ref a), some (.ref ll), some (.int 0), some (.int w), none, none, none, none, none], ?_, ?_⟩
    · have er0 : rs[0]? = some (rs[0]'(by omega)) := List.getElem?_eq_getElem (by omega)
      obtain ⟨v0, ev0, hv0⟩ := rg _ _ er0
      have lv0 := hw v0 (List.mem_of_getElem? ev0)
      refine ⟨_, rfl, _, _, rfl, .inl (SqL.of (s1 _ _ ea)), _, _, rfl, rfl, _, rfl, ite2 (fun _ => ?_) (fun e => absurd (decide_eq_true (by rw [List.length_map, rl]; show (0 : Int) < _; omega)) e)⟩
      refine ⟨_, rfl, _, _, _, _, rfl, rfl, SqL.of (s1 _ _ ea), atI_nat (get_ref er0), _, _, rfl, .inr (SqT.of (s1 _ _ hv0)), rfl, ?_⟩
      rw [List.length_map, lv0]
      rfl
    intro σ H2 hW
    obtain ⟨rfl, rfl⟩ := hW
    refine ⟨_, rfl, w, rfl, by omega, by omega, ?_⟩
    refine for_range (lo := 0) (n := w) (fun c σ H' => ∃ (P : List (Nat × List Int)) (W : List (List Int)) (ll : Addr) (y4 y5 y6 y7 : Option V), σ = [some (.ref a), some (.ref ll), some (.int (P.length : Nat)), some (.int w), y4, y5, y6, y7, none] ∧ Same H H' ∧ H ll = none ∧ LL H' ll W ∧
        Inv w (Nl w M) c P W ∧ (∀ v ∈ W, v.length = w) ∧ P.length + W.length = M.length ∧ P.length ≤ c ∧ (∀ v ∈ W, Lim (lm b P.length) v) ∧ (Dep w M ↔ Dep w W))
      ⟨[], M, ll, _, _, _, _, rfl, s1, nll, L1, Inv.start w M, hw, Nat.zero_add _, Nat.zero_le _, fun v hv => by rw [show lm b ([] : List (Nat × List Int)).length = b by unfold lm; simp]; exact hB v hv, Iff.rfl⟩ (fun c σ H3 hc hW => ?_) (fun σ H3 hW => ?_)
    · obtain ⟨P1, W, ll, y4, y5, y6, y7, rfl, s3, nll, L3, hI, lW, lPW, lP, bW, hD⟩ := hW
      have e0 : (0 : Int) + (c : Int) = ((c : Nat) : Int) := Int.zero_add _
      rw [e0]
      obtain ⟨ws, ew, wsl, wsg⟩ := id L3
      refine ⟨_, rfl, ?_⟩
      refine ⟨fun σ H' => H' = H3 ∧ ∃ (z : Int) (y6 : Option V), σ = [some (.ref a), some (.ref ll), some (.int (P1.length : Nat)), some (.int w), some (.int c), some (.int z), y6, y7, none] ∧ ((z = -1 ∧ ∀ v ∈ W, en v c = 0) ∨ ∃ (i : Nat) (v : List Int), z = i ∧ W[i]? = some v ∧ en v c ≠ 0), ?_, ?_⟩
      · refine ⟨_, rfl, _, _, rfl, .inl (SqL.of ew), (ws.map V.ref).length, rfl, by rw [List.length_map]; omega, by rw [List.length_map]; omega, ?_⟩
        rw [List.length_map, wsl]
        refine for_range (lo := 0) (n := W.length) (fun i σ H' => H' = H3 ∧ ∃ (z : Int) (y6 : Option V), σ = [some (.ref a), some (.ref ll), some (.int (P1.length : Nat)), some (.int w), some (.int c), some (.int z), y6, y7, none] ∧ ((z = -1 ∧ ∀ (j : Nat) (v : List Int), j < i → W[j]? = some v → en v c = 0) ∨ ∃ (i : Nat) (v : List Int), z = i ∧ W[i]? = some v ∧ en v c ≠ 0))
          ⟨rfl, -1, _, rfl, .inl ⟨rfl, fun j v h => absurd h (by omega)⟩⟩ (fun i σ H4 hi hW => ?_) (fun σ H4 hW => ?_)
        · obtain ⟨rfl, z, y6, rfl, hz⟩ := hW
          have e1 : (0 : Int) + (i : Int) = ((i : Nat) : Int) := Int.zero_add _
          rw [e1]
          have er : ws[i]? = some (ws[i]'(by omega)) := List.getElem?_eq_getElem _
          obtain ⟨_, v, ev, hv⟩ := wsg _ _ er
          have lv := lW v (List.mem_of_getElem? ev)
          rcases hz with ⟨rfl, hz⟩ | ⟨i0, v0, rfl, ev0, hn⟩
          · refine ⟨_, rfl, _, _, rfl, rfl, _, rfl, iteT ?_⟩
            refine ⟨_, rfl, _, rfl, _, _, _, _, rfl, rfl, SqL.of ew, atI_nat (get_ref er), _, rfl, _, _, _, _, rfl, rfl, SqL.of hv, atI_nat (en_get (by omega)), rfl, _, rfl, ite2 (fun e => ?_) (fun e => ?_)⟩
            · refine ⟨_, rfl, ?_⟩
              refine ⟨rfl, i, _, rfl, .inr ⟨i, v, rfl, ev, fun z => ?_⟩⟩
              rw [z] at e
              exact absurd e (by decide)
            · refine ⟨rfl, -1, _, rfl, .inl ⟨rfl, fun j u h1 h2 => ?_⟩⟩
              by_cases z : j = i
              · subst z
                rw [ev] at h2
                cases h2
                by_cases z : en v c = 0
                · exact z
                · exact absurd (by rw [dec_int]; generalize en v c = y at z; simp [z]) e
              · exact hz j u (by omega) h2
          · refine ⟨_, rfl, _, _, rfl, rfl, _, rfl, ite2 (fun e => absurd (of_decide_eq_true e) (by show ¬ ((i0 : Int) < 0); omega)) (fun _ => ?_)⟩
            exact ⟨rfl, i0, _, rfl, .inr ⟨i0, v0, rfl, ev0, hn⟩⟩
        · obtain ⟨rfl, z, y6, rfl, hz⟩ := hW
          refine ⟨rfl, z, y6, rfl, ?_⟩
          rcases hz with ⟨h1, h2⟩ | h
          · exact .inl ⟨h1, fun v hv => by
              obtain ⟨i, hi⟩ := List.getElem?_of_mem hv
              exact h2 i v (lt_of_get hi) hi⟩
          · exact .inr h
      intro σ H4 hW
      obtain ⟨rfl, z, y6, rfl, hz⟩ := hW
      rcases hz with ⟨rfl, hz⟩ | ⟨i, v0, rfl, ev0, hn⟩
      · refine ⟨_, rfl, _, _, rfl, rfl, _, rfl, iteF ?_⟩
        exact ⟨P1, W, ll, _, _, _, _, rfl, s3, nll, L3, hI.none hc hz, lW, lPW, by omega, bW, hD⟩
      · have hi := lt_of_get ev0
        refine ⟨_, rfl, _, _, rfl, rfl, _, rfl, ite2 (fun _ => ?_) (fun e => absurd (decide_eq_true (Int.natCast_nonneg i)) e)⟩
        have er : ws[i]? = some (ws[i]'(by omega)) := List.getElem?_eq_getElem _
        obtain ⟨_, v0', ev0', hv0⟩ := wsg _ _ er
        rw [ev0] at ev0'
        cases ev0'
        -- leader
        refine ⟨_, rfl, .inl ⟨rfl, _, SqL.of ew⟩, _, rfl, ll, _, _, i, _, rfl, rfl, ew, by omega, by omega, ?_, get_ref er, ?_⟩
        · rw [seqIndex_of (by omega) (by rw [List.length_map]; omega)]
          rfl
        have L4 := L3.erase (k := i) ew
        have r4 : (ws[i]'(by omega)) ≠ ll := (wsg _ _ er).1
        have hv4 : (upd H4 ll (.lst ((ws.map V.ref).eraseIdx i))) (ws[i]'(by omega)) = some (.lst (v0.map V.int)) := by rw [upd_ne r4]; exact hv0
        have s4 : Same H (upd H4 ll (.lst ((ws.map V.ref).eraseIdx i))) := fun x o hx => by
          rw [upd_ne (ne_of_none hx nll)]
          exact s3 _ _ hx
        generalize ws[i]'(by omega) = ra at *
        generalize upd H4 ll (.lst ((ws.map V.ref).eraseIdx i)) = H5 at *
        refine ⟨_, rfl, _, _, rfl, rfl, ?_⟩
        obtain ⟨us, eu, usl, usg⟩ := id L4
        refine ⟨_, rfl, ll, rfl, ⟨_, SqL.of eu⟩, fun D nD => ?_⟩
        have nDH : H D = none := s4.free nD
        refine lc_list (xs := us.map V.ref) (fun m H' => PlL H5 D (((W.eraseIdx i).map fun v => elr w v v0 c).take m) H') (pll0 nD) (fun m H' _ hP => SqL.of (hP.1 _ _ eu)) (fun m x H' hx hP => ?_) (fun H6 hP => ?_)
        · obtain ⟨r, hr1, rfl⟩ := ref_get hx
          obtain ⟨_, v, ev, hv⟩ := usg _ _ hr1
          refine ⟨rfl, ?_⟩
          unfold tYes
          refine iteT ?_
          refine ⟨_, rfl, w, rfl, by omega, by omega, fun D2 nD2 => ?_⟩
          have hi' := List.mem_of_mem_eraseIdx (List.mem_of_getElem? ev)
          have lv := lW v hi'
          have lv0 := lW v0 (List.mem_of_getElem? ev0)
          have bv := bW v hi'
          have b0 := bW v0 (List.mem_of_getElem? ev0)
          have bb : lm b P1.length ≤ 100000 := Nat.le_trans (lm_up b (by omega)) hb
          refine lc_range (lo := 0) (n := w) (g := gName 6) (tt := fun _ H Q => Q true H) (te := tOp (rI0 fun i j => V.int (i - j)) (tOp (rI CMulW fun i j => V.int (i * j)) (tOp (rIxL _) (tVar 8) (tVar 6)) (tOp (rIxL _) (tVar 7) (tVar 4))) (tOp (rI CMulW fun i j => V.int (i * j)) (tOp (rIxL _) (tVar 7) (tVar 6)) (tOp (rIxL _) (tVar 8) (tVar 4)))) (vs := [6]) (fun j H2 => Same H' H2 ∧ H2 D2 = some (.lst (((elr w v v0 c).take j).map V.int))) ⟨same_upd nD2, upd_same⟩ (fun j H2 hj hP2 => ?_) (fun H2 hP2 => ?_)
          · obtain ⟨s2, e2⟩ := hP2
            have e1 : (0 : Int) + (j : Int) = ((j : Nat) : Int) := Int.zero_add _
            rw [e1]
            have hv2 := s2 _ _ (hP.1 _ _ hv)
            have h02 := s2 _ _ (hP.1 _ _ hv4)
            refine ⟨rfl, ?_⟩
            try unfold tYes
            refine iteT ?_
            refine ⟨_, rfl, _, rfl, _, _, _, _, rfl, rfl, SqL.of hv2, atI_nat (en_get (by omega)), _, rfl, _, rfl, _, _, _, _, rfl, rfl, SqL.of h02, atI_nat (en_get (by omega)), _, _, rfl, rfl, cmulB (bv.en j) (b0.en c) bb, _, rfl, _, rfl, _, _, _, _, rfl, rfl, SqL.of h02, atI_nat (en_get (by omega)), _, rfl, _, rfl, _, _, _, _, rfl, rfl, SqL.of hv2, atI_nat (en_get (by omega)), _, _, rfl, rfl, cmulB (b0.en j) (bv.en c) bb, _, _, rfl, rfl, _, e2, ?_, ?_, ?_⟩
            · rw [List.length_map, List.length_take]
              exact Nat.lt_of_le_of_lt (Nat.min_le_right _ _) (small1000 (by rw [elr_len]; omega))
            · intro x o hx
              rw [upd_ne (ne_of_none hx nD2)]
              exact s2 _ _ hx
            · rw [upd_same, take_get (elr_get hj), List.map_append]
              rfl
          · obtain ⟨s2, e2⟩ := hP2
            rw [List.take_of_length_le (by rw [elr_len]; exact Nat.le_refl _)] at e2
            have DD : D2 ≠ D := by
              obtain ⟨rs1, e1, _⟩ := hP.2
              exact (ne_of_none e1 nD2).symm
            have := pll_step nD hP s2 DD e2 (by
              rw [List.length_take]
              have := lt_of_get ev
              rw [List.length_eraseIdx_of_lt hi] at this
              omega)
            rw [← take_get (xs := (W.eraseIdx i).map fun v => elr w v v0 c) (i := m) (by rw [List.getElem?_map, ev]; rfl)] at this
            exact this
        rw [show (us.map V.ref).length = ((W.eraseIdx i).map fun v => elr w v v0 c).length by rw [List.length_map, List.length_map, usl], List.take_length] at hP
        refine ⟨(c, v0) :: P1, (W.eraseIdx i).map fun v => elr w v v0 c, D, _, _, _, _, rfl, s4.trans hP.1, nDH, hP.2, lr_step hI hc ev0 hn, ?_, ?_, ?_, ?_, hD.trans (dep_step ev0 hc hn (by rw [List.length_map]) fun j hj c' hc' => elr_getD hj hc')⟩
        · intro v' hv'
          obtain ⟨v, hv, rfl⟩ := List.mem_map.mp hv'
          exact elr_len _ _ _ _
        · rw [List.length_map, List.length_eraseIdx_of_lt hi, List.length_cons]
          omega
        · rw [List.length_cons]
          omega
        · intro v' hv'
          obtain ⟨v, hv, rfl⟩ := List.mem_map.mp hv'
          rw [List.length_cons, ← lm_step]
          exact elr_lim (bW v (List.mem_of_mem_eraseIdx hv)) (bW v0 (List.mem_of_getElem? ev0))
    · obtain ⟨P1, W, ll, y4, y5, y6, y7, rfl, s3, nll, L3, hI, lW, lPW, lP, bW, hD⟩ := hW
      exact ⟨_, rfl, q H3 P1 W s3 hI lPW (hD.trans (dep_end fun v hv j hj => hI.zero v hv j hj))⟩

def rTupOf (K : PySem.W.Frag) : List V → Hp → VK → Prop := fun xs H Q => ∃ p ys, xs = [V.ref p] ∧ ((SqL K H p ys ∧ ∀ l, H l = none → Q (V.ref l) (upd H l (HO.tup ys))) ∨ (SqT K H p ys ∧ Q (V.ref p) H))
abbrev s_pivot_of : Stmt := topS 13
theorem sc_pivot_of : FnScope ["row", "at"] ["row"] (defScope s_pivot_of) := ⟨rfl, rfl, rfl, by decide +kernel, rfl, by decide +kernel, by decide +kernel⟩
def spPivot : Sp := fun vs H Q _ => ∃ (a : Addr) (v : List Int) (c : Nat), vs = [.ref a] ∧ Vc H a v ∧ c < v.length ∧ en v c ≠ 0 ∧ (∀ j, j < c → en v j = 0) ∧ Q (.int c) H
theorem ok_pivot {f : Addr} {fd : FuncData} {k : Nat} (F : Fun K "pivot_of" "pivot_of" s_pivot_of f fd) (Z : Glb mg) : FnOk P w K mg base CX0 (k + 1) f fd ["row"] spPivot := by
  refine F.ok sc_pivot_of (fun vs H Q E h => ?_) (fun cdv A outer s H vs Q E hr h => ?_)
  · obtain ⟨a, v, c, rfl, _⟩ := h
    rfl
  · obtain ⟨a, v, c, rfl, hv, hc, hn, hz, q⟩ := h
    refine ⟨_, (pss_cons (ps_set (i := 1) sc_pivot_of.nd rfl (.inl rfl) pe_int)
      (pss_cons (ps_while PassesOwn.never (pt_cmpR op_eq (pe_ix (r := rIxT K) ix_tup (pv 0) (pv 1) (fun _ _ => rfl)) pe_int (nomark _)) (pss_one (ps_aug (i := 1) sc_pivot_of.nd rfl (.inl rfl) pe_int ip_add)))
      (pss_one (ps_ret (pv 1))))), ?_⟩
    refine ⟨fun m σ H' => ∃ i : Nat, m = c - i ∧ i ≤ c ∧ σ = [some (.ref a), some (.int i)] ∧ H' = H, ⟨_, 0, rfl, Nat.zero_le _, rfl, rfl⟩, fun m σ H' hW => ?_⟩
    obtain ⟨i, rfl, hi, rfl, rfl⟩ := hW
    refine ⟨_, rfl, _, rfl, _, _, _, _, rfl, rfl, SqT.of hv, atI_nat (en_get (by omega)), rfl, _, rfl, ite2 (fun e => ?_) (fun e => ?_)⟩
    · have e1 : en v i = 0 := V.int.inj (of_decide_eq_true e)
      have ne : i ≠ c := fun z => hn (z ▸ e1)
      exact ⟨fun σ' H'' => σ' = [some (.ref a), some (.int (i + 1 : Nat))] ∧ H'' = H', fun σ' H'' hN => ⟨_, by show c - (i + 1) < c - i; omega, i + 1, rfl, by omega, hN⟩, _, rfl, _, _, rfl, rfl, rfl, rfl⟩
    · have e1 : i = c := by
        by_cases z : i = c
        · exact z
        · exact absurd (decide_eq_true (by rw [hz i (by omega)])) e
      subst e1
      exact ⟨_, rfl, q⟩

/-! ### a relation of the rows -/
theorem shapedL_ints (ns : List Int) (h : ns.length ≤ 1000) : SeqAt.shaped (.list (ns.map PyData.int)) = true := by
  unfold SeqAt.shaped
  rw [Bool.and_eq_true]
  refine ⟨?_, ?_⟩
  · rw [PyData.canLay0, lay_ints]
  · rw [decide_eq_true_iff, PyData.depth]
    have := depth_ints ns
    omega
theorem rowsP_get {P : List (Nat × List Int)} {i : Nat} {p : Nat × List Int} (h : P.reverse[i]? = some p) : (rowsP P)[i]? = some p.2 := by
  unfold rowsP
  rw [← List.map_reverse, List.getElem?_map, h]
  rfl
theorem rowsP_at {P : List (Nat × List Int)} {i : Nat} {v : List Int} (h : (rowsP P)[i]? = some v) : ∃ p, P.reverse[i]? = some p ∧ p.2 = v ∧ p ∈ P := by
  unfold rowsP at h
  rw [← List.map_reverse, List.getElem?_map] at h
  obtain ⟨p, h1, h2⟩ := Option.map_eq_some_iff.mp h
  exact ⟨p, h1, h2, List.mem_reverse.mp (List.mem_of_getElem? h1)⟩
theorem Tri.zero {w : Nat} : ∀ {k : Nat} {P : List (Nat × List Int)}, Tri w k P → ∀ p ∈ P, ∀ j, j < p.1 → en p.2 j = 0
  | _, [], _, _, h => nomatch h
  | _, q :: r, h, p, hp => by
    rcases List.mem_cons.mp hp with e | e
    · rw [e]; exact h.2.2.1
    · exact Tri.zero h.2.2.2 p e
theorem pairwise_desc : ∀ {k : Nat} {P : List Nat}, Desc k P → P.Pairwise fun a b => b < a
  | _, [], _ => .nil
  | _, _ :: _, h => .cons (fun b hb => h.2.lt b hb) (pairwise_desc h.2)
theorem asc {w k : Nat} {P : List (Nat × List Int)} (t : Tri w k P) {i j : Nat} {p q : Nat × List Int} (hij : i < j) (hp : P.reverse[i]? = some p) (hq : P.reverse[j]? = some q) : p.1 < q.1 := by
  have h := List.pairwise_reverse.mpr (pairwise_desc t.desc)
  rw [← List.map_reverse, List.pairwise_iff_getElem] at h
  have hi := lt_of_get hp
  have hj := lt_of_get hq
  have := h i j (by rw [List.length_map]; exact hi) (by rw [List.length_map]; exact hj) hij
  rw [List.getElem_map, List.getElem_map] at this
  rw [List.getElem?_eq_getElem hi] at hp
  rw [List.getElem?_eq_getElem hj] at hq
  cases hp
  cases hq
  exact this
/-- the pivots' columns, ascending -/
def colsP (P : List (Nat × List Int)) : List Int := P.reverse.map fun p => (p.1 : Int)
/-- the columns below n that are none -/
def freeP (P : List (Nat × List Int)) (n : Nat) : List Nat := (List.range n).filter fun k => !(P.map (·.1)).contains k
theorem in_cols {P : List (Nat × List Int)} {k : Nat} : inV (.int (k : Int)) ((colsP P).map V.int) = (P.map (·.1)).contains k := by
  unfold inV colsP
  rw [List.map_map, List.any_map, List.any_reverse, ← List.any_beq', List.any_map]
  congr 1
  funext p
  show ((p.1 : Int) == (k : Int)) = (p.1 == k)
  by_cases h : p.1 = k
  · simp [h]
  · rw [beq_eq_false_iff_ne.mpr h, beq_eq_false_iff_ne.mpr (by omega)]
theorem freeP_mem {P : List (Nat × List Int)} {n k : Nat} : k ∈ freeP P n ↔ k < n ∧ k ∉ P.map (·.1) := by
  unfold freeP
  rw [List.mem_filter, List.mem_range]
  constructor
  · rintro ⟨h1, h2⟩
    refine ⟨h1, fun h => ?_⟩
    rw [List.contains_iff_mem.mpr h] at h2
    exact absurd h2 (by decide)
  · rintro ⟨h1, h2⟩
    refine ⟨h1, ?_⟩
    cases e : (P.map (·.1)).contains k with
    | false => rfl
    | true => exact absurd (List.contains_iff_mem.mp e) h2
/-- the least common multiple of a list -/
def lcl (l : List Nat) : Nat := l.foldl Nat.lcm 1
theorem lcl_step {l : List Nat} {i x : Nat} (h : l[i]? = some x) : lcl (l.take (i + 1)) = Nat.lcm (lcl (l.take i)) x := by
  unfold lcl
  rw [List.take_add_one, h, List.foldl_append]
  rfl
theorem lcl_all {l : List Nat} : (∀ x ∈ l, x ∣ lcl l) ∧ ∀ m, (∀ x ∈ l, x ∣ m) → lcl l ∣ m := by
  unfold lcl
  have : ∀ (l : List Nat) (c : Nat), (c ∣ l.foldl Nat.lcm c ∧ ∀ x ∈ l, x ∣ l.foldl Nat.lcm c) ∧ ∀ m, c ∣ m → (∀ x ∈ l, x ∣ m) → l.foldl Nat.lcm c ∣ m := by
    intro l
    induction l with
    | nil => intro c; exact ⟨⟨Nat.dvd_refl c, fun _ h => nomatch h⟩, fun m h _ => h⟩
    | cons x r ih =>
      intro c
      obtain ⟨⟨h1, h2⟩, h3⟩ := ih (Nat.lcm c x)
      refine ⟨⟨Nat.dvd_trans (Nat.dvd_lcm_left c x) h1, fun y hy => ?_⟩, fun m hc hm => ?_⟩
      · rcases List.mem_cons.mp hy with e | e
        · rw [e]; exact Nat.dvd_trans (Nat.dvd_lcm_right c x) h1
        · exact h2 y e
      · exact h3 m (Nat.lcm_dvd hc (hm x List.mem_cons_self)) fun y hy => hm y (List.mem_cons_of_mem _ hy)
  exact ⟨(this l 1).1.2, fun m hm => (this l 1).2 m (Nat.one_dvd m) hm⟩
def pvsP (P : List (Nat × List Int)) : List Nat := P.reverse.map fun p => (en p.2 p.1).natAbs
theorem ppv_dvd : ∀ {P : List (Nat × List Int)}, ∀ p ∈ P, (en p.2 p.1).natAbs ∣ ppv P
  | [], _, h => nomatch h
  | q :: t, p, hp => by
    rcases List.mem_cons.mp hp with e | e
    · rw [e]; exact Nat.dvd_mul_right _ _
    · exact Nat.dvd_trans (ppv_dvd p e) (Nat.dvd_mul_left _ _)
theorem ppv_pos : ∀ {P : List (Nat × List Int)}, (∀ p ∈ P, 0 < en p.2 p.1) → 0 < ppv P
  | [], _ => by decide
  | q :: t, h => Nat.mul_pos (by have := h q List.mem_cons_self; omega) (ppv_pos fun p hp => h p (List.mem_cons_of_mem _ hp))
theorem lcl_ppv {P : List (Nat × List Int)} {i : Nat} : lcl ((pvsP P).take i) ∣ ppv P := by
  refine lcl_all.2 _ fun x hx => ?_
  have := List.mem_of_mem_take hx
  unfold pvsP at this
  obtain ⟨p, hp, rfl⟩ := List.mem_map.mp this
  exact ppv_dvd p (List.mem_reverse.mp hp)
theorem sm_two {f : Nat → Int} {n a b : Nat} (ha : a < n) (hb : b < n) (ne : a ≠ b) (h : ∀ j, j < n → j ≠ a → j ≠ b → f j = 0) : sm n f = f a + f b := by
  have e : sm n f = sm n (fun j => (if j = a then f a else 0) + (if j = b then f b else 0)) := sm_congr fun j hj => by
    by_cases h1 : j = a
    · rw [if_pos h1, if_neg (by omega), h1]; omega
    · by_cases h2 : j = b
      · rw [if_neg h1, if_pos h2, h2]; omega
      · rw [if_neg h1, if_neg h2, h j hj h1 h2]; rfl
  rw [e, sm_add, sm_one (k := a) ha fun j _ hj => if_neg hj, sm_one (k := b) hb fun j _ hj => if_neg hj, if_pos rfl, if_pos rfl]
theorem en_set {v : List Int} {i j : Nat} {x : Int} (h : i < v.length) : en (v.set i x) j = if j = i then x else en v j := by
  show (v.set i x).getD j 0 = _
  rw [List.getD_eq_getElem?_getD, List.getElem?_set]
  by_cases e : j = i
  · subst e
    rw [if_pos rfl, if_pos h, if_pos rfl]
    rfl
  · rw [if_neg (Ne.symm e), if_neg e]
    show _ = v.getD j 0
    rw [List.getD_eq_getElem?_getD]
/-- the vector of a free column k, where the first i pivots are in -/
structure Fnd (P : List (Nat × List Int)) (k : Nat) (L : Int) (i : Nat) (f : List Int) : Prop where
  hk : en f k = L
  hp : ∀ (j : Nat) (q : Nat × List Int), j < i → P.reverse[j]? = some q → en f q.1 = -en q.2 k * (L / en q.2 q.1)
  hz : ∀ j, j ≠ k → (∀ (m : Nat) (q : Nat × List Int), m < i → P.reverse[m]? = some q → q.1 ≠ j) → en f j = 0
theorem Fnd.step {w c k i : Nat} {L : Int} {P : List (Nat × List Int)} {f : List Int} {q : Nat × List Int} (h : Fnd P k L i f) (t : Tri w c P) (hk : k ∉ P.map (·.1)) (hq : P.reverse[i]? = some q) (hf : q.1 < f.length) :
    Fnd P k L (i + 1) (f.set q.1 (-en q.2 k * (L / en q.2 q.1))) := by
  have mq : ∀ {m : Nat} {r : Nat × List Int}, P.reverse[m]? = some r → r.1 ≠ k := fun hr z => hk (List.mem_map.mpr ⟨_, List.mem_reverse.mp (List.mem_of_getElem? hr), z⟩)
  refine ⟨?_, fun j r hj hr => ?_, fun j hj hm => ?_⟩
  · rw [en_set hf, if_neg (mq hq).symm]
    exact h.hk
  · rw [en_set hf]
    by_cases e : j = i
    · subst e
      rw [hq] at hr
      cases hr
      rw [if_pos rfl]
    · have := asc t (show j < i by omega) hr hq
      rw [if_neg (by omega)]
      exact h.hp j r (by omega) hr
  · rw [en_set hf, if_neg (hm i q (by omega) hq).symm]
    exact h.hz j hj fun m r h1 h2 => hm m r (by omega) h2
/-- it vanishes on all rows -/
theorem Fnd.null {w c k : Nat} {L : Int} {P : List (Nat × List Int)} {f : List Int} (h : Fnd P k L P.length f) (R : Red w P) (t : Tri w c P) (cw : c ≤ w) (kw : k < w) (hk : k ∉ P.map (·.1)) (hL : ∀ p ∈ P, en p.2 p.1 ∣ L) : ∀ p ∈ P, dv w p.2 (en f) = 0 := by
  intro p hp
  have pw := t.lt p hp
  obtain ⟨i, hi⟩ := List.getElem?_of_mem (List.mem_reverse.mpr hp)
  have il := lt_of_get hi
  rw [List.length_reverse] at il
  have ne : p.1 ≠ k := fun z => hk (List.mem_map.mpr ⟨p, hp, z⟩)
  unfold dv
  rw [sm_two (a := p.1) (b := k) (by omega) kw ne fun j hj h1 h2 => ?_]
  · rw [h.hk, h.hp i p il hi]
    obtain ⟨d, hd⟩ := hL p hp
    have pp := R.pos p hp
    rw [hd, Int.mul_ediv_cancel_left _ (by omega)]
    rw [Int.neg_mul, Int.mul_neg, Int.mul_left_comm (en p.2 k)]
    omega
  · by_cases e : j ∈ P.map (·.1)
    · obtain ⟨q, hq, rfl⟩ := List.mem_map.mp e
      rw [R.off q hq p hp h1, Int.zero_mul]
    · rw [h.hz j h2 fun m q _ hq z => e (List.mem_map.mpr ⟨q, List.mem_reverse.mp (List.mem_of_getElem? hq), z⟩), Int.mul_zero]
/-- its entries are small -/
theorem Fnd.lim {w k b r : Nat} {L : Nat} {P : List (Nat × List Int)} {f : List Int} (h : Fnd P k L P.length f) (R : Red w P) (lp : LPg (fun _ => 0) b r P) (hL : L ∣ ppv P) (L0 : 0 < L) : ∀ j, (en f j).natAbs ≤ 2 ^ sbn b r P.length := by
  have Lb : L ≤ 2 ^ sbn b r P.length := Nat.le_trans (Nat.le_of_dvd (ppv_pos R.pos) hL) (ppv_lim lp fun _ _ => rfl)
  intro j
  by_cases e1 : j = k
  · rw [e1, h.hk]
    omega
  · by_cases e : j ∈ P.map (·.1)
    · obtain ⟨q, hq, rfl⟩ := List.mem_map.mp e
      obtain ⟨i, hi⟩ := List.getElem?_of_mem (List.mem_reverse.mpr hq)
      have il := lt_of_get hi
      rw [List.length_reverse] at il
      obtain ⟨d, R', h1, h2, h3⟩ := ppv_split lp (fun _ _ => rfl) q hq
      have h4 := h1 k
      have pp := R.pos q hq
      rw [h.hp i q il hi, Int.natAbs_mul, Int.natAbs_neg]
      have h5 : ((L : Int) / en q.2 q.1).natAbs ≤ R' := by
        obtain ⟨a, ha⟩ := Int.eq_ofNat_of_zero_le (Int.le_of_lt pp)
        rw [ha] at h2 ⊢
        rw [Int.natAbs_natCast] at h2
        show (((L / a : Nat) : Int)).natAbs ≤ R'
        rw [Int.natAbs_natCast]
        refine Nat.div_le_of_le_mul ?_
        rw [← h2]
        exact Nat.le_of_dvd (ppv_pos R.pos) hL
      refine Nat.le_trans (Nat.mul_le_mul (Nat.le_of_lt h4) h5) ?_
      show 2 ^ (d + 0) * R' ≤ _
      rw [Nat.add_zero, Nat.mul_comm]
      exact h3
    · rw [h.hz j e1 fun m q _ hq z => e (List.mem_map.mpr ⟨q, List.mem_reverse.mp (List.mem_of_getElem? hq), z⟩)]
      exact Nat.zero_le _
theorem sbn_7 {r : Nat} (h : r ≤ 4) : sbn 7 r r ≤ 388 := by
  match r, h with
  | 0, _ => decide
  | 1, _ => decide
  | 2, _ => decide
  | 3, _ => decide
  | 4, _ => decide

/-! ### linear equations -/
def wid (M : List (List Int)) (rt : List Int) : List (List Int) := (M.zip rt).map fun p => p.1 ++ [p.2]
theorem en_app {v : List Int} {r : Int} {j : Nat} : en (v ++ [r]) j = if j < v.length then en v j else if j = v.length then r else 0 := by
  show (v ++ [r]).getD j 0 = _
  rw [List.getD_eq_getElem?_getD, List.getElem?_append]
  split
  · show _ = v.getD j 0
    rw [List.getD_eq_getElem?_getD]
  · split
    · rename_i h
      rw [h, Nat.sub_self]
      rfl
    · rw [List.getElem?_eq_none (by rw [List.length_singleton]; omega)]
      rfl
theorem dv_wid {v : List Int} {r : Int} {n : Nat} (hv : v.length = n) (x : Nat → Int) : dv (n + 1) (v ++ [r]) x = dv n v x + r * x n := by
  show sm n _ + en (v ++ [r]) n * x n = _
  congr 1
  · exact sm_congr fun j hj => by rw [en_app, if_pos (by omega)]
  · rw [en_app, if_neg (by omega), if_pos (by omega)]
theorem wid_len {M : List (List Int)} {rt : List Int} (h : rt.length = M.length) : (wid M rt).length = M.length := by
  unfold wid
  rw [List.length_map, List.length_zip, h, Nat.min_self]
theorem wid_get {M : List (List Int)} {rt : List Int} {i : Nat} {v : List Int} {r : Int} (h1 : M[i]? = some v) (h2 : rt[i]? = some r) : (wid M rt)[i]? = some (v ++ [r]) := by
  unfold wid
  rw [List.getElem?_map, List.getElem?_zip_eq_some (z := (v, r)) |>.mpr ⟨h1, h2⟩]
  rfl
theorem wid_mem {M : List (List Int)} {rt : List Int} {u : List Int} (h : u ∈ wid M rt) : ∃ v r, v ∈ M ∧ r ∈ rt ∧ u = v ++ [r] := by
  unfold wid at h
  obtain ⟨p, hp, rfl⟩ := List.mem_map.mp h
  exact ⟨p.1, p.2, (List.of_mem_zip hp).1, (List.of_mem_zip hp).2, rfl⟩
/-- with 0 for the last column the wider rows vanish as the rows do -/
theorem nl_wid {M : List (List Int)} {rt : List Int} {n : Nat} (hl : rt.length = M.length) (hM : ∀ v ∈ M, v.length = n) {x : Nat → Int} (h0 : x n = 0) : Nl (n + 1) (wid M rt) x ↔ Nl n M x := by
  constructor
  · intro h v hv
    obtain ⟨i, hi⟩ := List.getElem?_of_mem hv
    have e2 : rt[i]? = some (rt[i]'(by rw [hl]; exact (List.getElem?_eq_some_iff.mp hi).1)) := List.getElem?_eq_getElem _
    have := h _ (List.mem_of_getElem? (wid_get hi e2))
    rw [dv_wid (hM v hv), h0, Int.mul_zero, Int.add_zero] at this
    exact this
  · intro h u hu
    obtain ⟨v, r, hv, hr, rfl⟩ := wid_mem hu
    rw [dv_wid (hM v hv), h0, Int.mul_zero, Int.add_zero]
    exact h v hv
theorem pv_wid {M : List (List Int)} {rt : List Int} {n k : Nat} (hl : rt.length = M.length) (hM : ∀ v ∈ M, v.length = n) (hk : k < n) : Pv (n + 1) (Nl (n + 1) (wid M rt)) k ↔ Pv n (Nl n M) k := by
  constructor
  · intro h y hy hz
    let x : Nat → Int := fun j => if j < n then y j else 0
    have xn : x n = 0 := if_neg (by omega)
    have xj : ∀ j, j < n → x j = y j := fun j hj => if_pos hj
    rw [← xj k hk]
    refine h x ((nl_wid hl hM xn).mpr fun v hv => ?_) fun j h1 h2 => ?_
    · rw [← hy v hv]
      exact sm_congr fun j hj => by rw [xj j hj]
    · by_cases e : j < n
      · rw [xj j e]; exact hz j h1 e
      · exact if_neg e
  · intro h x hx hz
    exact h x ((nl_wid hl hM (hz n hk (by omega))).mp hx) fun j h1 h2 => hz j h1 (by omega)
theorem Desc.last : ∀ {n : Nat} {Q : List Nat}, Desc (n + 1) Q → (n ∈ Q → ∃ Q', Q = n :: Q' ∧ Desc n Q') ∧ (n ∉ Q → Desc n Q)
  | _, [], _ => ⟨(fun h => nomatch h), fun _ => trivial⟩
  | n, c :: r, h => by
    refine ⟨fun hm => ?_, fun hm => ?_⟩
    · by_cases e : c = n
      · subst e
        exact ⟨r, rfl, h.2⟩
      · rcases List.mem_cons.mp hm with z | z
        · exact absurd z.symm e
        · have := h.2.lt n z
          have := h.1
          omega
    · refine ⟨?_, h.2⟩
      have : c ≠ n := fun z => hm (z ▸ List.mem_cons_self)
      have := h.1
      omega
/-- the ranks: one more exactly if the last column is a pivot -/
theorem rank_wid {M : List (List Int)} {rt : List Int} {n : Nat} {P Q : List (Nat × List Int)} {L1 L2 : List (List Int)} (hl : rt.length = M.length) (hM : ∀ v ∈ M, v.length = n)
    (h : Inv (n + 1) (Nl (n + 1) (wid M rt)) (n + 1) P L1) (h' : Inv n (Nl n M) n Q L2) : (n ∈ P.map (·.1) → P.length = Q.length + 1) ∧ (n ∉ P.map (·.1) → P.length = Q.length) := by
  have key : ∀ j, j < n → (j ∈ P.map (·.1) ↔ j ∈ Q.map (·.1)) := fun j hj => by rw [h.piv j (by omega), h'.piv j hj, pv_wid hl hM hj]
  have dP := Desc.last h.tri.desc
  constructor
  · intro hn
    obtain ⟨R, e, dR⟩ := dP.1 hn
    have : R = Q.map (·.1) := desc_ext dR h'.tri.desc fun j => by
      constructor
      · intro hj
        have lj := dR.lt j hj
        exact (key j lj).mp (e ▸ List.mem_cons_of_mem _ hj)
      · intro hj
        have lj := h'.tri.desc.lt j hj
        have := (key j lj).mpr hj
        rw [e] at this
        rcases List.mem_cons.mp this with z | z
        · omega
        · exact z
    have l := congrArg List.length e
    rw [this, List.length_map, List.length_cons, List.length_map] at l
    exact l
  · intro hn
    have d := dP.2 hn
    have : P.map (·.1) = Q.map (·.1) := desc_ext d h'.tri.desc fun j => by
      constructor
      · intro hj; exact (key j (d.lt j hj)).mp hj
      · intro hj; exact (key j (h'.tri.desc.lt j hj)).mpr hj
    have l := congrArg List.length this
    rwa [List.length_map, List.length_map] at l
theorem fnd_ex {w c k : Nat} {P : List (Nat × List Int)} (L : Int) (t : Tri w c P) (cw : c ≤ w) (kw : k < w) (hk : k ∉ P.map (·.1)) : ∃ f : List Int, f.length = w ∧ Fnd P k L P.length f := by
  have : ∀ i, i ≤ P.length → ∃ f : List Int, f.length = w ∧ Fnd P k L i f := by
    intro i
    induction i with
    | zero =>
      intro _
      refine ⟨(List.replicate w (0 : Int)).set k L, by rw [List.length_set, List.length_replicate], by rw [en_set (by rw [List.length_replicate]; exact kw), if_pos rfl], fun j q h => absurd h (by omega), fun j hj _ => ?_⟩
      rw [en_set (by rw [List.length_replicate]; exact kw), if_neg hj]
      show (List.replicate w (0 : Int)).getD j 0 = 0
      rw [List.getD_eq_getElem?_getD, List.getElem?_replicate]
      split <;> rfl
    | succ i ih =>
      intro h
      obtain ⟨f, lf, hf⟩ := ih (by omega)
      have eq : P.reverse[i]? = some (P.reverse[i]'(by rw [List.length_reverse]; omega)) := List.getElem?_eq_getElem _
      have mq := List.mem_reverse.mp (List.mem_of_getElem? eq)
      have := t.lt _ mq
      exact ⟨_, by rw [List.length_set]; exact lf, hf.step t hk eq (by omega)⟩
  exact this _ (Nat.le_refl _)
/-- the pivot in a column, or 1 -/
def pd : List (Nat × List Int) → Nat → Nat
  | [], _ => 1
  | p :: t, i => if i = p.1 then (en p.2 p.1).natAbs else pd t i
def pto (f : Nat → Nat) : Nat → Nat
  | 0 => 1
  | n + 1 => pto f n * f n
theorem pto_congr {f g : Nat → Nat} : ∀ {n : Nat}, (∀ i, i < n → f i = g i) → pto f n = pto g n
  | 0, _ => rfl
  | n + 1, h => by unfold pto; rw [pto_congr fun i hi => h i (by omega), h n (by omega)]
theorem pto_le {f g : Nat → Nat} : ∀ {n : Nat}, (∀ i, i < n → f i ≤ g i) → pto f n ≤ pto g n
  | 0, _ => Nat.le_refl _
  | n + 1, h => Nat.mul_le_mul (pto_le fun i hi => h i (by omega)) (h n (by omega))
theorem pto_up {f : Nat → Nat} (h : ∀ i, 1 ≤ f i) : ∀ {m n : Nat}, m ≤ n → pto f m ≤ pto f n
  | m, 0, l => by rw [show m = 0 by omega]; exact Nat.le_refl _
  | m, n + 1, l => by
    by_cases e : m = n + 1
    · rw [e]; exact Nat.le_refl _
    · have := pto_up h (show m ≤ n by omega)
      have := Nat.mul_le_mul this (h n)
      rw [Nat.mul_one] at this
      exact this
theorem pto_one {f : Nat → Nat} {c a : Nat} (h : f c = 1) : ∀ {n : Nat}, pto (fun i => if i = c then a else f i) n = if c < n then a * pto f n else pto f n
  | 0 => by rw [if_neg (by omega)]; rfl
  | n + 1 => by
    show pto (fun i => if i = c then a else f i) n * (if n = c then a else f n) = _
    rw [pto_one h]
    by_cases e : n = c
    · rw [if_neg (by omega), if_pos e, if_pos (by omega)]
      show _ = a * (pto f n * f n)
      rw [e, h, Nat.mul_one, Nat.mul_comm]
    · by_cases l : c < n
      · rw [if_pos l, if_neg e, if_pos (by omega), Nat.mul_assoc]
        rfl
      · rw [if_neg l, if_neg e, if_neg (by omega)]
        rfl
theorem pd_out : ∀ {P : List (Nat × List Int)} {i : Nat}, i ∉ P.map (·.1) → pd P i = 1
  | [], _, _ => rfl
  | p :: t, i, h => by
    unfold pd
    have ne : i ≠ p.1 := fun z => h (by rw [z]; exact List.mem_cons_self)
    rw [if_neg ne]
    exact pd_out fun z => h (List.mem_cons_of_mem _ z)
theorem pto_pd {w n : Nat} : ∀ {k : Nat} {P : List (Nat × List Int)}, Tri w k P → pto (pd P) n ≤ ppv P ∨ ∃ p ∈ P, en p.2 p.1 = 0
  | _, [], _ => by
    left
    have : ∀ n, pto (pd []) n = 1 := fun n => by
      induction n with
      | zero => rfl
      | succ n ih => unfold pto; rw [ih]; rfl
    rw [this]
    exact Nat.le_refl _
  | k, p :: t, h => by
    have hp : p.1 ∉ t.map (·.1) := fun z => by
      obtain ⟨q, hq, e⟩ := List.mem_map.mp z
      have := h.2.2.2.lt q hq
      omega
    rcases pto_pd (n := n) h.2.2.2 with ih | ⟨q, hq, e⟩
    · left
      have e : pto (pd (p :: t)) n = if p.1 < n then (en p.2 p.1).natAbs * pto (pd t) n else pto (pd t) n := by
        rw [← pto_one (f := pd t) (pd_out hp)]
        exact pto_congr fun i _ => rfl
      rw [e]
      have n0 : 1 ≤ (en p.2 p.1).natAbs := by
        have := h.2.1
        omega
      show _ ≤ (en p.2 p.1).natAbs * ppv t
      split
      · exact Nat.mul_le_mul_left _ ih
      · have := Nat.mul_le_mul n0 ih
        omega
    · exact .inr ⟨q, List.mem_cons_of_mem _ hq, e⟩
theorem pd_in {w : Nat} : ∀ {k : Nat} {P : List (Nat × List Int)}, Tri w k P → ∀ p ∈ P, pd P p.1 = (en p.2 p.1).natAbs
  | _, [], _, _, h => nomatch h
  | k, q :: t, h, p, hp => by
    unfold pd
    rcases List.mem_cons.mp hp with e | e
    · rw [e, if_pos rfl]
    · have := h.2.2.2.lt p e
      rw [if_neg (by omega)]
      exact pd_in h.2.2.2 p e
theorem sbn_6 {r : Nat} (h : r ≤ 4) : sbn 6 r r ≤ 339 := by
  match r, h with
  | 0, _ => decide
  | 1, _ => decide
  | 2, _ => decide
  | 3, _ => decide
  | 4, _ => decide

/-- what a sum of fractions is, so far: of the value S / D -/
structure Tot (D S : Int) (B : Nat) (j : Nat) (N Dn : Int) : Prop where
  low : Low (N, Dn)
  val : N * D = S * Dn
  den : Dn.natAbs ≤ B
  num : N.natAbs < 2 ^ (510 * (j + 1))
theorem tot_step {D S N Dn v x a b : Int} {B j : Nat} (D0 : 0 < D) (h : Tot D S B j N Dn) (hB : B * b.natAbs ≤ 2 ^ 339) (b0 : 0 < b) (hx : a * D = x * b) (hv : v.natAbs < 2 ^ 9) (ha : a.natAbs < 2 ^ 159) :
    Tot D (S + v * x) (B * b.natAbs) (j + 1) (frN (N * frD (v * a) (1 * b) + frN (v * a) (1 * b) * Dn) (Dn * frD (v * a) (1 * b))) (frD (N * frD (v * a) (1 * b) + frN (v * a) (1 * b) * Dn) (Dn * frD (v * a) (1 * b))) := by
  rw [Int.one_mul]
  have c1 := fr_cross (a := v * a) b0
  have d0 := frD_pos (a := v * a) b0
  have dl := frD_abs (a := v * a) (b := b) (by omega)
  have cl := frN_abs (a := v * a) (b := b) (by omega)
  generalize frN (v * a) b = c at *
  generalize frD (v * a) b = d at *
  have n0 : 0 < Dn := h.low.1
  have e0 := Int.mul_pos n0 d0
  have c2 := fr_cross (a := N * d + c * Dn) e0
  have l2 := frD_abs (a := N * d + c * Dn) (b := Dn * d) (by omega)
  have l3 := frN_abs (a := N * d + c * Dn) (b := Dn * d) (by omega)
  have lw := low_fr (a := N * d + c * Dn) e0
  generalize frN (N * d + c * Dn) (Dn * d) = N' at *
  generalize frD (N * d + c * Dn) (Dn * d) = D' at *
  have hc : c * D = d * (v * x) := by
    refine Int.eq_of_mul_eq_mul_right (a := b) (by omega) ?_
    have e1 : c * D * b = (c * b) * D := by rw [Int.mul_assoc, Int.mul_comm D, ← Int.mul_assoc]
    rw [e1, c1]
    have e2 : d * (v * a) * D = d * (v * (a * D)) := by rw [Int.mul_assoc, Int.mul_assoc]
    rw [e2, hx]
    simp only [Int.mul_assoc]
  have hv2 := h.val
  refine ⟨lw, ?_, ?_, ?_⟩
  · refine Int.eq_of_mul_eq_mul_right (a := Dn * d) (by omega) ?_
    have e1 : N' * D * (Dn * d) = (N' * (Dn * d)) * D := by rw [Int.mul_assoc, Int.mul_comm D, ← Int.mul_assoc]
    rw [e1, c2]
    have e2 : D' * (N * d + c * Dn) * D = D' * (d * (N * D) + Dn * (c * D)) := by
      rw [Int.mul_assoc]
      congr 1
      rw [Int.add_mul]
      congr 1
      · rw [Int.mul_comm N d, Int.mul_assoc]
      · rw [Int.mul_comm c Dn, Int.mul_assoc]
    rw [e2, hv2, hc]
    have e3 : d * (S * Dn) + Dn * (d * (v * x)) = (S + v * x) * (Dn * d) := by
      rw [Int.add_mul]
      congr 1
      · rw [Int.mul_comm d, Int.mul_assoc]
      · rw [← Int.mul_assoc Dn d, Int.mul_comm (Dn * d)]
    rw [e3]
    rw [← Int.mul_assoc, Int.mul_comm D']
  · refine Nat.le_trans l2 ?_
    rw [Int.natAbs_mul]
    exact Nat.mul_le_mul h.den dl
  · refine Nat.lt_of_le_of_lt l3 ?_
    have b1 : 1 ≤ b.natAbs := by omega
    have hB1 : B ≤ 2 ^ 339 := by
      have := Nat.mul_le_mul_left B b1
      omega
    have dn1 : 1 ≤ Dn.natAbs := by omega
    have hb1 : b.natAbs ≤ 2 ^ 339 := by
      have := Nat.mul_le_mul_right b.natAbs (Nat.le_trans dn1 h.den)
      omega
    have k : (2 : Nat) ^ 339 < 2 ^ 340 := Nat.pow_lt_pow_right (by decide) (by decide)
    have hd : d.natAbs < 2 ^ 340 := by omega
    have hDn : Dn.natAbs < 2 ^ 340 := by have := h.den; omega
    have hcb : c.natAbs < 2 ^ 168 := Nat.lt_of_le_of_lt cl (mul_pow hv ha)
    have p1 := mul_pow h.num hd
    have p2 := mul_pow hcb hDn
    have := add_pow (up_pow p1 (show 510 * (j + 1) + 340 ≤ 510 * (j + 1) + 509 by omega)) (up_pow p2 (show 168 + 340 ≤ 510 * (j + 1) + 509 by omega))
    exact up_pow this (by omega)
theorem tot_end {D S r : Int} {B j : Nat} {N Dn : Int} (D0 : 0 < D) (h : Tot D S B j N Dn) (hS : S = r * D) : N = r ∧ Dn = 1 := by
  have e : N = r * Dn := by
    refine Int.eq_of_mul_eq_mul_right (a := D) (by omega) ?_
    rw [h.val, hS, Int.mul_assoc, Int.mul_comm D, ← Int.mul_assoc]
  have := low_eq (f := (N, Dn)) (g := (r, 1)) h.low ⟨(by show (0 : Int) < 1; decide), Nat.gcd_one_right _⟩ (by show N * 1 = Dn * r; rw [Int.mul_one, e, Int.mul_comm])
  cases this
  exact ⟨rfl, rfl⟩

abbrev s__law_dot : Stmt := topS 21
theorem sc__law_dot : FnScope ["v", "w", "k"] ["v", "w"] (defScope s__law_dot) := ⟨rfl, rfl, rfl, by decide +kernel, rfl, by decide +kernel, by decide +kernel⟩
def spDotL : Sp := fun vs H Q _ => ∃ (a b : Addr) (ns ms : List Int), vs = [.ref a, .ref b] ∧ Vc H a ns ∧ H b = some (.lst (ms.map V.int)) ∧ ns.length = ms.length ∧ ns.length ≤ 1000 ∧ (∀ n ∈ ns, n.natAbs < 2 ^ 299) ∧ (∀ n ∈ ms, n.natAbs < 2 ^ 299) ∧ ∀ H' : Hp, Same H H' → Q (.int (dotz ns ms).sum) H'
theorem ok_ldot {f : Addr} {fd : FuncData} {k : Nat} (F : Fun K "_law_dot" "_law_dot" s__law_dot f fd) (Z : Glb mg) : FnOk P w K mg base CX0 (k + 1) f fd ["v", "w"] spDotL := by
  refine F.ok sc__law_dot (fun vs H Q E h => ?_) (fun cdv A outer s H vs Q E hr h => ?_)
  · obtain ⟨a, b, ns, ms, rfl, _⟩ := h
    rfl
  · obtain ⟨a, b, ns, ms, rfl, ha, hb, hl, hm, B1, B2, q⟩ := h
    refine ⟨_, (pss_one (ps_ret (pe_callB (cr_sum rfl) (by rfl) Z.m_sum (by decide +kernel) (pa_cons (pe_lc (own := [("k", 2)]) (g := gName 2) (tt := tYes) (by rfl) sc__law_dot.nd (pi_range1 rfl Z.m_range (pa_cons (pe_callB call_len_seq (by rfl) Z.m_len PySem.boot_len (pa_cons (pv 0) pa_nil)) pa_nil)) (blkOk_by (own := [("k", 2)]) (N := ["v", "w", "k"]) (sc := defScope s__law_dot) (by first | decide +kernel | kernel_rfl)) (fun _ _ _ _ _ => (pg_name (i := 2) sc__law_dot.nd rfl (.inl rfl))) (fun _ _ _ _ _ => pts_nil) (fun _ _ _ _ _ => (pe_op op_mulW (pe_ix (r := rIxT K) ix_tup (pv 0) (pv 2) (fun _ _ => rfl)) (pe_ix (r := rIxL K) ix_list (pv 1) (pv 2) (fun _ _ => rfl))))) pa_nil)))), ?_⟩
    refine ⟨_, rfl, a, ns.map V.int, rfl, .inr (SqT.of ha), ((ns.map V.int).length : Nat), rfl, by rw [List.length_map]; omega, by rw [List.length_map]; omega, fun D nD => ?_⟩
    refine lc_range (lo := 0) (n := (ns.map V.int).length) (fun i H' => ∃ H0, Same H H0 ∧ H0 D = none ∧ H' = upd H0 D (.lst (((dotz ns ms).take i).map V.int))) ⟨H, Same.refl _, nD, rfl⟩ (fun i H' hi hP => ?_) (fun H' hP => ?_)
    · obtain ⟨H0, s0, n0, rfl⟩ := hP
      have s1 := s0.trans (same_upd (o := .lst (((dotz ns ms).take i).map V.int)) n0)
      rw [List.length_map] at hi
      have hn : ns[i]? = some ns[i] := List.getElem?_eq_getElem hi
      have hm' : ms[i]? = some (ms[i]'(by omega)) := List.getElem?_eq_getElem (by omega)
      have e0 : (0 : Int) + (i : Int) = ((i : Nat) : Int) := Int.zero_add _
      rw [e0]
      refine ⟨rfl, ?_⟩
      unfold tYes
      refine iteT ?_
      refine ⟨_, rfl, _, rfl, _, _, _, _, rfl, rfl, SqT.of (s1 _ _ ha), atI_nat (get_map hn), _, rfl, _, rfl, _, _, _, _, rfl, rfl, SqL.of (s1 _ _ hb), atI_nat (get_map hm'), _, _, rfl, rfl, cmul (B1 _ (List.mem_of_getElem? hn)) (B2 _ (List.mem_of_getElem? hm')), ((dotz ns ms).take i).map V.int, upd_same, ?_, H0, s0, n0, ?_⟩
      · rw [List.length_map, List.length_take]
        exact Nat.lt_of_le_of_lt (Nat.min_le_right _ _) (small1000 (by rw [dotz_len hl]; exact hm))
      · rw [take_get (dotz_get hn hm'), List.map_append, upd_upd]
        rfl
    · obtain ⟨H0, s0, n0, rfl⟩ := hP
      rw [List.length_map, show ns.length = (dotz ns ms).length from (dotz_len hl).symm, List.take_length]
      refine ⟨D, _, rfl, SqL.of upd_same, ?_⟩
      exact q _ (s0.trans (same_upd n0))

abbrev s__law_frac : Stmt := topS 20
theorem sc__law_frac : FnScope ["a", "b", "common"] ["a", "b"] (defScope s__law_frac) := ⟨rfl, rfl, rfl, by decide +kernel, rfl, by decide +kernel, by decide +kernel⟩
def spFrW : Sp := fun vs H Q _ => ∃ a b : Int, vs = [.int a, .int b] ∧ 0 < b ∧ b.natAbs < 2 ^ 395 ∧ ∀ p, H p = none → Q (.ref p) (upd H p (.tup [.int (frN a b), .int (frD a b)]))
theorem ok_lfracW {f : Addr} {fd : FuncData} {k : Nat} (F : Fun K "_law_frac" "_law_frac" s__law_frac f fd) (Z : Glb mg)
    (C_law_gcd : Call P w K mg base k "_law_gcd" ["a", "b"] spGcd) : FnOk P w K mg base CX0 (k + 1) f fd ["a", "b"] spFrW := by
  refine F.ok sc__law_frac (fun vs H Q E h => ?_) (fun cdv A outer s H vs Q E hr h => ?_)
  · obtain ⟨a, b, rfl, _⟩ := h
    rfl
  · obtain ⟨a, b, rfl, hp, hb, q⟩ := h
    refine ⟨_, (pss_cons (ps_set (i := 2) sc__law_frac.nd rfl (.inl rfl) (pe_call C_law_gcd.G hr (by rfl) C_law_gcd.m C_law_gcd.kp C_law_gcd.b .nil pass0 (pa_cons (pv 0) (pa_cons (pv 1) pa_nil))))
      (pss_cons (ps_if (pt_cmpR op_lt (pv 1) pe_int (nomark _)) (pss_one ps_never) pss_nil)
      (pss_one (ps_ret (pe_tup (pa_cons (pe_op op_fdivW (pv 0) (pv 2)) (pa_cons (pe_op op_fdivW (pv 1) (pv 2)) pa_nil))))))), ?_⟩
    have cd : ∀ x : Int, CDivW x (g2 a b) := fun x => wide_div (g2_pos (by omega)) (Nat.lt_of_le_of_lt (g2_le (by omega)) hb) (by decide) (by decide)
    refine ⟨_, rfl, _, rfl, a, b, rfl, hb, _, rfl, _, _, rfl, rfl, _, rfl, ?_⟩
    rw [decide_eq_false (by omega)]
    exact iteF ⟨_, rfl, _, rfl, _, _, rfl, rfl, cd a, _, rfl, _, rfl, _, _, rfl, rfl, cd b, ints2 _ _, q⟩
def spTwoW (g : Int → Int → Int → Int → Int × Int) : Sp := fun vs H Q _ => ∃ (x y : Addr) (a b c d : Int), vs = [.ref x, .ref y] ∧ Vc H x [a, b] ∧ Vc H y [c, d] ∧ 0 < b ∧ 0 < d ∧ a.natAbs < 2 ^ 3000 ∧ c.natAbs < 2 ^ 3000 ∧ b.natAbs < 2 ^ 395 ∧ d.natAbs < 2 ^ 395 ∧ (b * d).natAbs < 2 ^ 395 ∧
  ∀ p, H p = none → Q (.ref p) (upd H p (.tup [.int (frN (g a b c d).1 (g a b c d).2), .int (frD (g a b c d).1 (g a b c d).2)]))
abbrev s__law_add : Stmt := topS 23
theorem sc__law_add : FnScope ["x", "y"] ["x", "y"] (defScope s__law_add) := ⟨rfl, rfl, rfl, by decide +kernel, rfl, by decide +kernel, by decide +kernel⟩
theorem ok_laddW {f : Addr} {fd : FuncData} {k : Nat} (F : Fun K "_law_add" "_law_add" s__law_add f fd) (Z : Glb mg)
    (C_law_frac : Call P w K mg base k "_law_frac" ["a", "b"] spFrW) : FnOk P w K mg base CX0 (k + 1) f fd ["x", "y"] (spTwoW fun a b c d => (a * d + c * b, b * d)) := by
  refine F.ok sc__law_add (fun vs H Q E h => ?_) (fun cdv A outer s H vs Q E hr h => ?_)
  · obtain ⟨x, y, a, b, c, d, rfl, _⟩ := h
    rfl
  · obtain ⟨x, y, a, b, c, d, rfl, hx, hy, b0, d0, ha, hc, hb, hd, hbd, q⟩ := h
    refine ⟨_, (pss_one (ps_ret (pe_call C_law_frac.G hr (by rfl) C_law_frac.m C_law_frac.kp C_law_frac.b .nil pass0 (pa_cons (pe_op op_add (pe_op op_mulW (pe_ix (r := rIxT K) ix_tup (pv 0) pe_int (fun _ _ => rfl)) (pe_ix (r := rIxT K) ix_tup (pv 1) pe_int (fun _ _ => rfl))) (pe_op op_mulW (pe_ix (r := rIxT K) ix_tup (pv 1) pe_int (fun _ _ => rfl)) (pe_ix (r := rIxT K) ix_tup (pv 0) pe_int (fun _ _ => rfl)))) (pa_cons (pe_op op_mulW (pe_ix (r := rIxT K) ix_tup (pv 0) pe_int (fun _ _ => rfl)) (pe_ix (r := rIxT K) ix_tup (pv 1) pe_int (fun _ _ => rfl))) pa_nil))))), ?_⟩
    refine ⟨_, rfl, _, _, _, _, rfl, rfl, SqT.of hx, atI_nat (j := 0) rfl, _, rfl, _, _, _, _, rfl, rfl, SqT.of hy, atI_nat (j := 1) rfl, _, _, rfl, rfl, cmul ha hd, _, rfl, _, _, _, _, rfl, rfl, SqT.of hy, atI_nat (j := 0) rfl, _, rfl, _, _, _, _, rfl, rfl, SqT.of hx, atI_nat (j := 1) rfl, _, _, rfl, rfl, cmul hc hb, _, _, rfl, rfl, _, rfl, _, _, _, _, rfl, rfl, SqT.of hx, atI_nat (j := 1) rfl, _, rfl, _, _, _, _, rfl, rfl, SqT.of hy, atI_nat (j := 1) rfl, _, _, rfl, rfl, cmul hb hd, ?_⟩
    exact ⟨_, _, rfl, Int.mul_pos b0 d0, hbd, q⟩
abbrev s__law_mul : Stmt := topS 24
theorem sc__law_mul : FnScope ["x", "y"] ["x", "y"] (defScope s__law_mul) := ⟨rfl, rfl, rfl, by decide +kernel, rfl, by decide +kernel, by decide +kernel⟩
theorem ok_lmulW {f : Addr} {fd : FuncData} {k : Nat} (F : Fun K "_law_mul" "_law_mul" s__law_mul f fd) (Z : Glb mg)
    (C_law_frac : Call P w K mg base k "_law_frac" ["a", "b"] spFrW) : FnOk P w K mg base CX0 (k + 1) f fd ["x", "y"] (spTwoW fun a b c d => (a * c, b * d)) := by
  refine F.ok sc__law_mul (fun vs H Q E h => ?_) (fun cdv A outer s H vs Q E hr h => ?_)
  · obtain ⟨x, y, a, b, c, d, rfl, _⟩ := h
    rfl
  · obtain ⟨x, y, a, b, c, d, rfl, hx, hy, b0, d0, ha, hc, hb, hd, hbd, q⟩ := h
    refine ⟨_, (pss_one (ps_ret (pe_call C_law_frac.G hr (by rfl) C_law_frac.m C_law_frac.kp C_law_frac.b .nil pass0 (pa_cons (pe_op op_mulW (pe_ix (r := rIxT K) ix_tup (pv 0) pe_int (fun _ _ => rfl)) (pe_ix (r := rIxT K) ix_tup (pv 1) pe_int (fun _ _ => rfl))) (pa_cons (pe_op op_mulW (pe_ix (r := rIxT K) ix_tup (pv 0) pe_int (fun _ _ => rfl)) (pe_ix (r := rIxT K) ix_tup (pv 1) pe_int (fun _ _ => rfl))) pa_nil))))), ?_⟩
    refine ⟨_, rfl, _, _, _, _, rfl, rfl, SqT.of hx, atI_nat (j := 0) rfl, _, rfl, _, _, _, _, rfl, rfl, SqT.of hy, atI_nat (j := 0) rfl, _, _, rfl, rfl, cmul ha hc, _, rfl, _, _, _, _, rfl, rfl, SqT.of hx, atI_nat (j := 1) rfl, _, rfl, _, _, _, _, rfl, rfl, SqT.of hy, atI_nat (j := 1) rfl, _, _, rfl, rfl, cmul hb hd, ?_⟩
    exact ⟨_, _, rfl, Int.mul_pos b0 d0, hbd, q⟩
theorem VL.set {H : Hp} {a r : Addr} {vs : List (List Int)} {v : List Int} {xs : List V} (h : VL H a vs) (hr : Vc H r v) (e : H a = some (.lst xs)) (i : Nat) : VL (upd H a (.lst (xs.set i (.ref r)))) a (vs.set i v) := by
  obtain ⟨rs, e', l, g⟩ := h
  rw [e'] at e
  have e := HO.lst.inj (Option.some.inj e)
  subst e
  have tups : ∀ t (u : List Int), Vc H t u → Vc (upd H a (.lst ((rs.map V.ref).set i (.ref r)))) t u := fun t u ht => by
    unfold Vc at ht ⊢
    rw [upd_ne (ne_of ht e' (fun z => nomatch z))]
    exact ht
  refine ⟨rs.set i r, by rw [upd_same, List.map_set], by rw [List.length_set, List.length_set, l], fun j t ht => ?_⟩
  rw [List.getElem?_set] at ht ⊢
  by_cases c : i = j
  · rw [if_pos c] at ht ⊢
    by_cases d : i < rs.length
    · rw [if_pos d] at ht
      cases ht
      exact ⟨v, by rw [if_pos (by omega)], tups _ _ hr⟩
    · rw [if_neg d] at ht
      cases ht
  · rw [if_neg c] at ht ⊢
    obtain ⟨u, h2, h3⟩ := g j t ht
    exact ⟨u, h2, tups _ _ h3⟩
theorem ixNn {n j : Nat} (hj : j < n) : ixN n (j : Int) = some j := by
  unfold ixN
  first
  | (rw [if_neg (by omega)]; simp [hj])
  | (simp [hj])
theorem flat_rep (x : V) : ∀ n : Nat, (List.replicate n [x]).flatten = List.replicate n x
  | 0 => rfl
  | n + 1 => by rw [List.replicate_succ, List.replicate_succ, List.flatten_cons, flat_rep x n]; rfl
abbrev s_solve : Stmt := topS 14
theorem sc_solve : FnScope ["rows", "right", "width", "found", "row", "at", "entry"] ["rows", "right"] (defScope s_solve) := ⟨rfl, rfl, rfl, by decide +kernel, rfl, by decide +kernel, by decide +kernel⟩
/-- what solve tells of a system that has a solution -/
structure Sol (n : Nat) (P : List (Nat × List Int)) (fs : List (List Int)) : Prop where
  len : fs.length = n
  p : ∀ q ∈ P, fs.getD q.1 [] = [frN (en q.2 n) (en q.2 q.1), frD (en q.2 n) (en q.2 q.1)]
  z : ∀ j, j < n → j ∉ P.map (·.1) → fs.getD j [] = [0, 1]
def spSolve : Sp := fun vs H Q _ => ∃ (a b : Addr) (M : List (List Int)) (rt : List Int) (n : Nat), vs = [.ref a, .ref b] ∧ VL H a M ∧ Vc H b rt ∧ rt.length = M.length ∧ (∀ v ∈ M, v.length = n) ∧ 1 ≤ n ∧ n ≤ 4 ∧ 1 ≤ M.length ∧ M.length ≤ 4 ∧ (∀ v ∈ M, Lim 6 v) ∧ Lim 9 rt ∧
  (∀ (H' : Hp) (P : List (Nat × List Int)) (left : List (List Int)), Same H H' → Ech (n + 1) 9 (wid M rt) P left → n ∈ P.map (·.1) → Q .non H') ∧
  ∀ (H' : Hp) (t : Addr) (P : List (Nat × List Int)) (left fs : List (List Int)), Same H H' → VL H' t fs → Ech (n + 1) 9 (wid M rt) P left → n ∉ P.map (·.1) → Sol n P fs → Q (.ref t) H'
theorem ok_solve {f : Addr} {fd : FuncData} {k : Nat} (F : Fun K "solve" "solve" s_solve f fd) (Z : Glb mg)
    (Cechelon : Call P w K mg base k "echelon" ["rows"] spEch)
    (Cpivot_of : Call P w K mg base k "pivot_of" ["row"] spPivot)
    (Cfraction : Call P w K mg base k "fraction" ["a", "b"] spFr) : FnOk P w K mg base CX0 (k + 1) f fd ["rows", "right"] spSolve := by
  refine F.ok sc_solve (fun vs H Q E h => ?_) (fun cdv A outer s H vs Q E hr h => ?_)
  · obtain ⟨a, b, M, rt, n, rfl, _⟩ := h
    rfl
  · obtain ⟨a, b, M, rt, n, rfl, hV, hb, hl, hM, n1, n4, m1, m4, bM, bR, q0, q1⟩ := h
    obtain ⟨rs, ea, rl, rg⟩ := id hV
    refine ⟨_, (pss_cons (ps_set (i := 2) sc_solve.nd rfl (.inl rfl) (pe_callB call_len_seq (by rfl) Z.m_len PySem.boot_len (pa_cons (pe_ix (r := rIxL K) ix_list (pv 0) pe_int (fun _ _ => rfl)) pa_nil)))
      (pss_cons (ps_set (i := 3) sc_solve.nd rfl (.inl rfl) (pe_op op_rep (pe_lst (pa_cons (pe_tup (pa_cons pe_int (pa_cons pe_int pa_nil))) pa_nil)) (pv 2)))
      (pss_cons (ps_for PassesOwn.never rfl (pi_list (pe_call Cechelon.G hr (by rfl) Cechelon.m Cechelon.kp Cechelon.b .nil pass0 (pa_cons (pe_lc (own := [("row", 4), ("entry", 6)]) (g := gTup K 2 (gCons (gName 4) (gCons (gName 6) gNil))) (tt := tYes) (by rfl) sc_solve.nd (pi_zipK (by rfl) Z.m_zip (pa_cons (pv 0) (pa_cons (pv 1) pa_nil))) (blkOk_by (own := [("row", 4), ("entry", 6)]) (N := ["rows", "right", "width", "found", "row", "at", "entry"]) (sc := defScope s_solve) (by first | decide +kernel | kernel_rfl)) (fun _ _ _ _ _ => (pg_tup rfl (pgs_cons (pg_name (i := 4) sc_solve.nd rfl (.inl rfl)) (pgs_cons (pg_name (i := 6) sc_solve.nd rfl (.inl rfl)) pgs_nil)))) (fun _ _ _ _ _ => pts_nil) (fun _ _ _ _ _ => (pe_op (r := rCatA K) op_catA (pe_callTy (T := "tuple") (r := rTupOf K) call_tuple_of (by rfl) Z.m_tuple (by decide +kernel) (pa_cons (pv 4) pa_nil)) (pe_tup (pa_cons (pv 6) pa_nil))))) pa_nil))) (pg_name (i := 4) sc_solve.nd rfl (.inl rfl)) (pss_cons (ps_set (i := 5) sc_solve.nd rfl (.inl rfl) (pe_call Cpivot_of.G hr (by rfl) Cpivot_of.m Cpivot_of.kp Cpivot_of.b .nil pass0 (pa_cons (pv 4) pa_nil)))
      (pss_cons (ps_if (pt_cmpR op_eq (pv 5) (pv 2) (nomark _)) (pss_one (ps_ret pe_non)) pss_nil)
      (pss_one (ps_asg (pe_call Cfraction.G hr (by rfl) Cfraction.m Cfraction.kp Cfraction.b .nil pass0 (pa_cons (pe_ix (r := rIxT K) ix_tup (pv 4) (pv 2) (fun _ _ => rfl)) (pa_cons (pe_ix (r := rIxT K) ix_tup (pv 4) (pv 5) (fun _ _ => rfl)) pa_nil))) (pg_sub (pv 3) (pv 5) set_list))))))
      (pss_one (ps_ret (pv 3)))))), ?_⟩
    have er0 : rs[0]? = some (rs[0]'(by omega)) := List.getElem?_eq_getElem (by omega)
    obtain ⟨v0, ev0, hv0⟩ := rg _ _ er0
    have lv0 := hM v0 (List.mem_of_getElem? ev0)
    -- width
    refine ⟨_, rfl, _, _, _, _, rfl, rfl, SqL.of ea, atI_nat (get_ref er0), _, _, rfl, .inr (SqT.of hv0), ?_⟩
    rw [List.length_map, lv0]
    -- found
    refine ⟨(show 2 ≤ sizeLine by decide), fun z nz => ⟨(show 1 ≤ sizeLine by decide), fun y ny => ?_⟩⟩
    have sz := same_upd (o := .tup [.int 0, .int 1]) nz
    have hz : Vc (upd H z (.tup [.int 0, .int 1])) z [0, 1] := upd_same
    have sy := same_upd (o := .lst [.ref z]) ny
    have hz2 := hz.same sy
    have ey : (upd (upd H z (.tup [.int 0, .int 1])) y (.lst [.ref z])) y = some (.lst [.ref z]) := upd_same
    have s1 := sz.trans sy
    generalize upd (upd H z (.tup [.int 0, .int 1])) y (.lst [.ref z]) = H1 at *
    refine ⟨_, rfl, y, _, _, rfl, rfl, ey, by omega, by omega, by rw [Int.toNat_natCast]; exact Nat.le_of_lt (small1000 (show 1 * n ≤ 1000 by omega)), fun fa nfa => ?_⟩
    rw [Int.toNat_natCast]
    have nfaH : H fa = none := s1.free nfa
    have sfa := s1.trans (same_upd (o := .lst (List.replicate n [V.ref z]).flatten) nfa)
    have efl : (List.replicate n [V.ref z]).flatten = (List.replicate n z).map V.ref := by
      rw [flat_rep, List.map_replicate]
    have Vf : VL (upd H1 fa (.lst (List.replicate n [V.ref z]).flatten)) fa (List.replicate n [0, 1]) := ⟨List.replicate n z, by rw [upd_same, efl], by rw [List.length_replicate, List.length_replicate], fun i r hr => by
      rw [List.getElem?_replicate] at hr
      split at hr
      · rename_i hi
        cases hr
        exact ⟨[0, 1], by rw [List.getElem?_replicate, if_pos hi], hz2.same (same_upd nfa)⟩
      · cases hr⟩
    generalize upd H1 fa (.lst (List.replicate n [V.ref z]).flatten) = H2 at *
    -- the wider rows
    have lb : (rt.map V.int).length = M.length := by rw [List.length_map, hl]
    refine ⟨_, rfl, _, rfl, false, true, a, b, rs.map V.ref, rt.map V.int, rfl, SqL.of (sfa _ _ ea), SqT.of (sfa _ _ hb), fun D nD => ?_⟩
    refine lc_it (walk_zipK (k1 := false) (k2 := true) (xs := rs.map V.ref) (ys := rt.map V.int) (n := M.length) (by rw [List.length_map, rl]) lb) (fun i H' => PvL H2 D ((wid M rt).take i) H') (pvl0 nD) (fun i H' _ hP => ⟨SqL.of ((sfa.trans hP.1) _ _ ea), SqT.of ((sfa.trans hP.1) _ _ hb)⟩) (fun i x H' H'' hi hP hY => ?_) (fun H3 hP => ?_)
    · obtain ⟨T, x1, y1, rfl, nT, rfl, hx, hy⟩ := hY
      obtain ⟨r, hr1, rfl⟩ := ref_get hx
      obtain ⟨e, he, rfl⟩ := map_get hy
      obtain ⟨v, ev, hv⟩ := rg _ _ hr1
      have lv := hM v (List.mem_of_getElem? ev)
      have sT := same_upd (o := .tup [.ref r, .int e]) nT
      have s4 := hP.1.trans sT
      refine ⟨T, [.ref r, .int e], rfl, SqT.of upd_same, rfl, _, _, rfl, _, _, rfl, rfl, rfl, ?_⟩
      unfold tYes
      refine iteT ?_
      have hv4 := (sfa.trans s4) _ _ hv
      refine ⟨_, rfl, r, _, rfl, .inr ⟨SqT.of hv4, ?_⟩⟩
      refine ⟨_, rfl, (show 1 ≤ sizeLine by decide), fun u nu => ?_⟩
      have su := same_upd (o := .tup [.int e]) nu
      refine cat_h (su _ _ hv4) (show (upd (upd H' T (.tup [.ref r, .int e])) u (.tup [.int e])) u = some (.tup [.int e]) from upd_same) (by rw [List.length_map]; show v.length + 1 ≤ 1000; omega) fun H5 r5 s5 hr5 => ?_
      have := pvl_step (v := v ++ [e]) nD hP (sT.trans (su.trans s5)) (by unfold Vc; rw [hr5, List.map_append]; rfl) (by rw [List.length_take]; have := wid_len hl; omega)
      rw [← take_get (wid_get ev he)] at this
      exact this
    rw [← wid_len hl, List.take_length] at hP
    obtain ⟨s3, V3⟩ := hP
    have wl := wid_len hl
    have ww : ∀ v ∈ wid M rt, v.length = n + 1 ∧ Lim 9 v := fun u hu => by
      obtain ⟨v, r, hv, hr, rfl⟩ := wid_mem hu
      refine ⟨by rw [List.length_append, hM v hv]; rfl, fun x hx => ?_⟩
      rcases List.mem_append.mp hx with h | h
      · exact up_pow (bM v hv x h) (by decide)
      · rw [List.mem_singleton.mp h]; exact bR r hr
    refine ⟨D, wid M rt, n + 1, 9, 4, rfl, V3, fun v hv => (ww v hv).1, by omega, by omega, by omega, by omega, fun v hv => (ww v hv).2, .inr (by omega), by decide, fun H4 rd P1 left s4 nrd V4 E4 => ?_⟩
    have rdf : rd ≠ fa := by
      obtain ⟨_, e3, _⟩ := Vf.same s3
      exact (ne_of_none e3 nrd).symm
    obtain ⟨ts, ed, tsl, tg⟩ := id V4
    rw [rowsP_len] at tsl
    have r4 : P1.length ≤ 4 := by have := E4.lM; omega
    have e159 : ∀ (p : Nat × List Int) (j : Nat), p ∈ P1 → (en p.2 j).natAbs < 2 ^ 159 := fun p j mp => up_pow ((E4.lim p mp).en j) (Nat.le_trans (lm_up 9 r4) (by decide))
    have s24 := s3.trans s4
    have nf4 : H fa = none := nfaH
    have Vf4 := Vf.same s24
    have sH4 := sfa.trans s24
    refine ⟨rd, rfl, ⟨_, SqL.of ed⟩, ?_⟩
    refine for_list (xs := ts.map V.ref) (fun i σ H' => ∃ (fs : List (List Int)) (y4 y5 : Option V), σ = [some (.ref a), some (.ref b), some (.int n), some (.ref fa), y4, y5, none] ∧ Same H H' ∧ (∀ x o, x ≠ fa → H4 x = some o → H' x = some o) ∧ VL H' fa fs ∧ fs.length = n ∧
        (∀ (j : Nat) (q : Nat × List Int), j < i → P1.reverse[j]? = some q → q.1 < n ∧ fs.getD q.1 [] = [frN (en q.2 n) (en q.2 q.1), frD (en q.2 n) (en q.2 q.1)]) ∧ (∀ j, j < n → (∀ (m : Nat) (q : Nat × List Int), m < i → P1.reverse[m]? = some q → q.1 ≠ j) → fs.getD j [] = [0, 1]))
      ⟨List.replicate n [0, 1], _, _, rfl, sH4, fun x o _ h => h, Vf4, List.length_replicate, fun j q h => absurd h (by omega), fun j hj _ => by rw [List.getD_eq_getElem?_getD, List.getElem?_replicate, if_pos hj]; rfl⟩ (fun i σ H' _ hW => ?_) (fun i x σ H' hx hW => ?_) (fun σ H' hW => ?_)
    · obtain ⟨fs, y4, y5, rfl, s5, k5, V5, _⟩ := hW
      exact SqL.of (k5 rd _ rdf ed)
    · obtain ⟨fs, y4, y5, rfl, s5, k5, V5, lf, hp, hz⟩ := hW
      obtain ⟨r, hr1, rfl⟩ := ref_get hx
      obtain ⟨v, ev, hv⟩ := tg _ _ hr1
      obtain ⟨pv, ep, rfl, mp⟩ := rowsP_at ev
      have rne : r ≠ fa := by
        obtain ⟨_, e5, _⟩ := Vf4
        exact ne_of hv e5 (fun z => nomatch z)
      have hv5 : Vc H' r pv.2 := k5 _ _ rne hv
      have lv := E4.red.len pv mp
      have pw := E4.inv.tri.lt pv mp
      have pp := E4.red.pos pv mp
      refine ⟨_, rfl, r, pv.2, pv.1, rfl, hv5, by omega, by omega, Tri.zero E4.inv.tri pv mp, ?_⟩
      refine ⟨_, rfl, _, rfl, rfl, _, rfl, ite2 (fun e => ?_) (fun e => ?_)⟩
      · have e1 : pv.1 = n := by
          have := V.int.inj (of_decide_eq_true e)
          omega
        exact q0 _ _ _ s5 E4 (e1 ▸ List.mem_map.mpr ⟨pv, mp, rfl⟩)
      · have e1 : pv.1 ≠ n := fun z => e (decide_eq_true (by rw [z]))
        have pn : pv.1 < n := by omega
        refine ⟨_, rfl, _, rfl, _, _, _, _, rfl, rfl, SqT.of hv5, atI_nat (en_get (by omega)), _, rfl, _, rfl, _, _, _, _, rfl, rfl, SqT.of hv5, atI_nat (en_get (by omega)), en pv.2 n, en pv.2 pv.1, rfl, pp, up_pow (e159 pv n mp) (by decide), up_pow (e159 pv pv.1 mp) (by decide), fun u nu => ?_⟩
        obtain ⟨fr, ef, lfr, gfr⟩ := id V5
        have su := same_upd (o := .tup [.int (frN (en pv.2 n) (en pv.2 pv.1)), .int (frD (en pv.2 n) (en pv.2 pv.1))]) nu
        have hu : Vc (upd H' u (.tup [.int (frN (en pv.2 n) (en pv.2 pv.1)), .int (frD (en pv.2 n) (en pv.2 pv.1))])) u [frN (en pv.2 n) (en pv.2 pv.1), frD (en pv.2 n) (en pv.2 pv.1)] := upd_same
        have Vu := (V5.same su).set hu (su _ _ ef) pv.1
        refine ⟨_, rfl, _, rfl, _, _, _, pv.1, rfl, rfl, su _ _ ef, by rw [List.length_map, lfr, lf]; exact ixNn pn, ?_⟩
        refine ⟨_, _, _, rfl, fun x o hx => ?_, fun x o hne hx => ?_, Vu, by rw [List.length_set]; exact lf, fun j q hj hq => ?_, fun j hj hm => ?_⟩
        · rw [upd_ne (ne_of_none hx nfaH)]
          exact su _ _ (s5 _ _ hx)
        · rw [upd_ne hne]
          exact su _ _ (k5 _ _ hne hx)
        · by_cases c : j = i
          · subst c
            rw [ep] at hq
            cases hq
            refine ⟨pn, ?_⟩
            rw [List.getD_eq_getElem?_getD, List.getElem?_set, if_pos rfl, if_pos (by omega)]
            rfl
          · obtain ⟨h1, h2⟩ := hp j q (by omega) hq
            have := asc E4.inv.tri (show j < i by omega) hq ep
            refine ⟨h1, ?_⟩
            rw [List.getD_eq_getElem?_getD, List.getElem?_set, if_neg (by omega), ← List.getD_eq_getElem?_getD]
            exact h2
        · have := hm i pv (by omega) ep
          rw [List.getD_eq_getElem?_getD, List.getElem?_set, if_neg this, ← List.getD_eq_getElem?_getD]
          exact hz j hj fun m q h1 h2 => hm m q (by omega) h2
    · obtain ⟨fs, y4, y5, rfl, s5, k5, V5, lf, hp, hz⟩ := hW
      have tl : (ts.map V.ref).length = P1.length := by rw [List.length_map, tsl]
      rw [tl] at hp hz
      have ix : ∀ q ∈ P1, ∃ j, j < P1.length ∧ P1.reverse[j]? = some q := fun q hq => by
        obtain ⟨j, hj⟩ := List.getElem?_of_mem (List.mem_reverse.mpr hq)
        exact ⟨j, by have := lt_of_get hj; rwa [List.length_reverse] at this, hj⟩
      refine ⟨_, rfl, q1 H' fa P1 left fs s5 V5 E4 (fun hn => ?_) ⟨lf, fun q hq => ?_, fun j hj hm => ?_⟩⟩
      · obtain ⟨q, hq, e⟩ := List.mem_map.mp hn
        obtain ⟨j, hj, hr⟩ := ix q hq
        have := (hp j q hj hr).1
        omega
      · obtain ⟨j, hj, hr⟩ := ix q hq
        exact (hp j q hj hr).2
      · exact hz j hj fun m q _ hr z => hm (List.mem_map.mpr ⟨q, List.mem_reverse.mp (List.mem_of_getElem? hr), z⟩)

/-! ### the law -/
theorem dotz_ab {A B : Nat} : ∀ (ns ms : List Int), (∀ n ∈ ns, n.natAbs ≤ A) → (∀ n ∈ ms, n.natAbs ≤ B) → (dotz ns ms).sum.natAbs ≤ ns.length * (A * B)
  | [], ms, _, _ => Nat.zero_le _
  | n :: ns, [], _, _ => Nat.zero_le _
  | n :: ns, m :: ms, h1, h2 => by
    have ih := dotz_ab ns ms (fun x hx => h1 x (List.mem_cons_of_mem _ hx)) (fun x hx => h2 x (List.mem_cons_of_mem _ hx))
    have a := h1 n List.mem_cons_self
    have b := h2 m List.mem_cons_self
    have e : (dotz (n :: ns) (m :: ms)).sum = n * m + (dotz ns ms).sum := rfl
    rw [e, List.length_cons, Nat.succ_mul]
    have : (n * m).natAbs ≤ A * B := by rw [Int.natAbs_mul]; exact Nat.mul_le_mul a b
    omega
theorem sol_at {n : Nat} {M : List (List Int)} {rt : List Int} {P : List (Nat × List Int)} {left fs : List (List Int)} {f : List Int} (E : Ech (n + 1) 9 (wid M rt) P left) (r4 : P.length ≤ 4) (S : Sol n P fs) (hn : n ∉ P.map (·.1)) (hf : Fnd P n (-(ppv P : Int)) P.length f) {j : Nat} (hj : j < n) :
    ∃ a b : Int, fs.getD j [] = [a, b] ∧ Low (a, b) ∧ a * (ppv P : Int) = en f j * b ∧ a.natAbs < 2 ^ 159 ∧ b.natAbs ≤ pd P j := by
  by_cases e : j ∈ P.map (·.1)
  · obtain ⟨q, hq, rfl⟩ := List.mem_map.mp e
    have pp := E.red.pos q hq
    obtain ⟨i, hi⟩ := List.getElem?_of_mem (List.mem_reverse.mpr hq)
    have il := lt_of_get hi
    rw [List.length_reverse] at il
    refine ⟨_, _, S.p q hq, low_fr pp, ?_, ?_, ?_⟩
    · rw [hf.hp i q il hi]
      have c := fr_cross (a := en q.2 n) pp
      obtain ⟨R, hR⟩ := ppv_dvd q hq
      have hR' : ((ppv P : Nat) : Int) = en q.2 q.1 * (R : Int) := by
        rw [hR, Int.natCast_mul]
        congr 1
        omega
      rw [hR']
      have e1 : -(en q.2 q.1 * (R : Int)) / en q.2 q.1 = -(R : Int) := by
        rw [← Int.mul_neg, Int.mul_ediv_cancel_left _ (by omega)]
      rw [e1, Int.neg_mul_neg, ← Int.mul_assoc, c, Int.mul_comm (frD _ _), Int.mul_assoc, Int.mul_assoc, Int.mul_comm (frD _ _)]
    · refine Nat.lt_of_le_of_lt (frN_abs (by omega)) ?_
      exact up_pow ((E.lim q hq).en n) (Nat.le_trans (lm_up 9 r4) (by decide))
    · rw [pd_in E.inv.tri q hq]
      exact frD_abs (by omega)
  · refine ⟨0, 1, S.z j hj e, ⟨(by show (0 : Int) < 1; decide), rfl⟩, ?_, Nat.pow_pos (by decide), ?_⟩
    · rw [hf.hz j (by omega) fun m q _ hq z => e (List.mem_map.mpr ⟨q, List.mem_reverse.mp (List.mem_of_getElem? hq), z⟩), Int.zero_mul, Int.zero_mul]
    · rw [pd_out e]
      exact Nat.le_refl _
abbrev s_law : Stmt := topS 28
theorem sc_law : FnScope ["script", "pool", "size", "rows", "right", "k", "x", "told", "wider", "total", "j", "row"] ["script"] (defScope s_law) := ⟨rfl, rfl, rfl, by decide +kernel, rfl, by decide +kernel, by decide +kernel⟩
def spLaw (K : PySem.W.Frag) : Sp := fun vs H Q _ => ∃ (a : Addr) (ns : List Int), vs = [.ref a] ∧ SqL K H a (ns.map V.int) ∧ ∀ H', Q (.bl true) H'
theorem ok_law {f : Addr} {fd : FuncData} {k : Nat} (F : Fun K "law" "law" s_law f fd) (Z : Glb mg)
    (C_law_pool : Call P w K mg base k "_law_pool" ["script"] (spPool K))
    (C_law_draw : Call P w K mg base k "_law_draw" ["pool", "many"] spDraw)
    (C_law_matrix : Call P w K mg base k "_law_matrix" ["pool", "many", "size"] spMatrix)
    (C_law_rank : Call P w K mg base k "_law_rank" ["rows"] spLRank)
    (C_law_is_vector : Call P w K mg base k "_law_is_vector" ["size", "value"] (spIsVec "size" "value"))
    (C_law_frac : Call P w K mg base k "_law_frac" ["a", "b"] spFrW)
    (C_law_dot : Call P w K mg base k "_law_dot" ["v", "w"] spDotL)
    (C_law_add : Call P w K mg base k "_law_add" ["x", "y"] (spTwoW fun a b c d => (a * d + c * b, b * d)))
    (C_law_mul : Call P w K mg base k "_law_mul" ["x", "y"] (spTwoW fun a b c d => (a * c, b * d)))
    (Csolve : Call P w K mg base k "solve" ["rows", "right"] spSolve) : FnOk P w K mg base CX0 (k + 1) f fd ["script"] (spLaw K) := by
  refine F.ok sc_law (fun vs H Q E h => ?_) (fun cdv A outer s H vs Q E hr h => ?_)
  · obtain ⟨a, ns, rfl, _⟩ := h
    rfl
  · obtain ⟨sa, ns, rfl, hS, q⟩ := h
    refine ⟨_, (pss_cons (ps_set (i := 1) sc_law.nd rfl (.inr rfl) (pe_call C_law_pool.G hr (by rfl) C_law_pool.m C_law_pool.kp C_law_pool.b .nil pass0 (pa_cons (pv 0) pa_nil)))
      (pss_cons (ps_set (i := 2) sc_law.nd rfl (.inl rfl) (pe_op op_add pe_int (pe_call C_law_draw.G hr (by rfl) C_law_draw.m C_law_draw.kp C_law_draw.b .nil pass0 (pa_cons (pv 1) (pa_cons pe_int pa_nil)))))
      (pss_cons (ps_set (i := 3) sc_law.nd rfl (.inr rfl) (pe_call C_law_matrix.G hr (by rfl) C_law_matrix.m C_law_matrix.kp C_law_matrix.b .nil pass0 (pa_cons (pv 1) (pa_cons (pe_op op_add pe_int (pe_call C_law_draw.G hr (by rfl) C_law_draw.m C_law_draw.kp C_law_draw.b .nil pass0 (pa_cons (pv 1) (pa_cons pe_int pa_nil)))) (pa_cons (pv 2) pa_nil)))))
      (pss_cons (ps_set (i := 4) sc_law.nd rfl (.inr rfl) (pe_callTy call_tuple_of (by rfl) Z.m_tuple (by decide +kernel) (pa_cons (pe_lc (own := [("row", 11)]) (g := gName 11) (tt := tYes) (by rfl) sc_law.nd (pi_list (pv 3)) (blkOk_by (own := [("row", 11)]) (N := ["script", "pool", "size", "rows", "right", "k", "x", "told", "wider", "total", "j", "row"]) (sc := defScope s_law) (by first | decide +kernel | kernel_rfl)) (fun _ _ _ _ _ => (pg_name (i := 11) sc_law.nd rfl (.inl rfl))) (fun _ _ _ _ _ => pts_nil) (fun _ _ _ _ _ => (pe_op op_sub (pe_call C_law_draw.G hr (by rfl) C_law_draw.m C_law_draw.kp C_law_draw.b .nil pass0 (pa_cons (pv 1) (pa_cons pe_int pa_nil))) pe_int))) pa_nil)))
      (pss_cut (ps_if (pt_cmpR op_eq (pe_call C_law_draw.G hr (by rfl) C_law_draw.m C_law_draw.kp C_law_draw.b .nil pass0 (pa_cons (pv 1) (pa_cons pe_int pa_nil))) pe_int (nomark _)) (pss_cons (ps_set (i := 6) sc_law.nd rfl (.inr rfl) (pe_lc (own := [("k", 5)]) (g := gName 5) (tt := tYes) (by rfl) sc_law.nd (pi_range1 rfl Z.m_range (pa_cons (pv 2) pa_nil)) (blkOk_by (own := [("k", 5)]) (N := ["script", "pool", "size", "rows", "right", "k", "x", "told", "wider", "total", "j", "row"]) (sc := defScope s_law) (by first | decide +kernel | kernel_rfl)) (fun _ _ _ _ _ => (pg_name (i := 5) sc_law.nd rfl (.inl rfl))) (fun _ _ _ _ _ => pts_nil) (fun _ _ _ _ _ => (pe_op op_sub (pe_call C_law_draw.G hr (by rfl) C_law_draw.m C_law_draw.kp C_law_draw.b .nil pass0 (pa_cons (pv 1) (pa_cons pe_int pa_nil))) pe_int))))
      (pss_one (ps_set (i := 4) sc_law.nd rfl (.inr rfl) (pe_callTy call_tuple_of (by rfl) Z.m_tuple (by decide +kernel) (pa_cons (pe_lc (own := [("row", 11)]) (g := gName 11) (tt := tYes) (by rfl) sc_law.nd (pi_list (pv 3)) (blkOk_by (own := [("row", 11)]) (N := ["script", "pool", "size", "rows", "right", "k", "x", "told", "wider", "total", "j", "row"]) (sc := defScope s_law) (by first | decide +kernel | kernel_rfl)) (fun _ _ _ _ _ => (pg_name (i := 11) sc_law.nd rfl (.inl rfl))) (fun _ _ _ _ _ => pts_nil) (fun _ _ _ _ _ => (pe_call C_law_dot.G hr (by rfl) C_law_dot.m C_law_dot.kp C_law_dot.b .nil pass0 (pa_cons (pv 11) (pa_cons (pv 6) pa_nil))))) pa_nil))))) pss_nil)
      (pss_cons (ps_set (i := 7) sc_law.nd rfl (.inl rfl) (pe_call Csolve.G hr (by rfl) Csolve.m Csolve.kp Csolve.b .nil pass0 (pa_cons (pv 3) (pa_cons (pv 4) pa_nil))))
      (pss_cons (ps_setLc (i := 8) (own := [("k", 5)]) (g := gName 5) (tt := tYes) (by rfl) sc_law.nd rfl rfl (sw_true rfl rfl rfl (by decide +kernel)) (pi_range1 rfl Z.m_range (pa_cons (pe_callB call_len_seq (by rfl) Z.m_len PySem.boot_len (pa_cons (pv 3) pa_nil)) pa_nil)) (blkOk_by (own := [("k", 5)]) (N := ["script", "pool", "size", "rows", "right", "k", "x", "told", "wider", "total", "j", "row"]) (sc := defScope s_law) (by first | decide +kernel | kernel_rfl)) (fun _ _ _ _ _ => (pg_name (i := 5) sc_law.nd rfl (.inl rfl))) (fun _ _ _ _ _ => pts_nil) (fun _ _ _ _ _ => (pe_op (r := rCatA K) op_catA (pe_ix (r := rIxL K) ix_list (pv 3) (pv 5) (fun _ _ => rfl)) (pe_tup (pa_cons (pe_ix (r := rIxT K) ix_tup (pv 4) (pv 5) (fun _ _ => rfl)) pa_nil)))))
      (pss_cons (ps_if (pt_cmpR op_gt (pe_call C_law_rank.G hr (by rfl) C_law_rank.m C_law_rank.kp C_law_rank.b .nil pass0 (pa_cons (pv 8) pa_nil)) (pe_call C_law_rank.G hr (by rfl) C_law_rank.m C_law_rank.kp C_law_rank.b .nil pass0 (pa_cons (pv 3) pa_nil)) (nomark _)) (pss_one (ps_ret (pe_cmp (pc_isN (pv 7))))) pss_nil)
      (pss_cons (ps_if (PW.pt (pw_or (pt_not (pt_val (pe_callB (id := "isinstance") (r := rIsi K) call_isi (by rfl) Z.m_isinstance (by decide +kernel) (pa_cons (pv 7) (pa_cons (pe_bltn (u := .type "list") (v := .ty "list") (by rfl) Z.m_list (by decide +kernel) rfl) pa_nil))))) (pw_or1 (pt_cmpR op_ne (pe_callB call_len_seq (by rfl) Z.m_len PySem.boot_len (pa_cons (pv 7) pa_nil)) (pv 2) (nomark _))))) (pss_one ps_never) pss_nil)
      (pss_cons (ps_for PassesOwn.never rfl (pi_list (pv 7)) (pg_name (i := 6) sc_law.nd rfl (.inr rfl)) (pss_one (ps_if (PW.pt (pw_or (pt_not (pt_val (pe_call C_law_is_vector.G hr (by rfl) C_law_is_vector.m C_law_is_vector.kp C_law_is_vector.b .nil pass0 (pa_cons pe_int (pa_cons (pv 6) pa_nil))))) (pw_or (pt_cmpR op_lt (pe_ix (r := rIxT K) ix_tup (pv 6) pe_int (fun _ _ => rfl)) pe_int (nomark _)) (pw_or1 (pt_cmpR (r := rNeD K) (op_neD hr.units) (pv 6) (pe_call C_law_frac.G hr (by rfl) C_law_frac.m C_law_frac.kp C_law_frac.b .nil pass0 (pa_cons (pe_ix (r := rIxT K) ix_tup (pv 6) pe_int (fun _ _ => rfl)) (pa_cons (pe_ix (r := rIxT K) ix_tup (pv 6) pe_int (fun _ _ => rfl)) pa_nil))) (nomark _)))))) (pss_one ps_never) pss_nil)))
      (pss_cons (ps_for PassesOwn.never rfl (pi_range1 rfl Z.m_range (pa_cons (pe_callB call_len_seq (by rfl) Z.m_len PySem.boot_len (pa_cons (pv 3) pa_nil)) pa_nil)) (pg_name (i := 5) sc_law.nd rfl (.inl rfl)) (pss_cons (ps_set (i := 9) sc_law.nd rfl (.inl rfl) (pe_tup (pa_cons pe_int (pa_cons pe_int pa_nil))))
      (pss_cons (ps_for PassesOwn.never rfl (pi_range1 rfl Z.m_range (pa_cons (pv 2) pa_nil)) (pg_name (i := 10) sc_law.nd rfl (.inl rfl)) (pss_one (ps_set (i := 9) sc_law.nd rfl (.inl rfl) (pe_call C_law_add.G hr (by rfl) C_law_add.m C_law_add.kp C_law_add.b .nil pass0 (pa_cons (pv 9) (pa_cons (pe_call C_law_mul.G hr (by rfl) C_law_mul.m C_law_mul.kp C_law_mul.b .nil pass0 (pa_cons (pe_tup (pa_cons (pe_ix (r := rIxT K) ix_tup (pe_ix (r := rIxL K) ix_list (pv 3) (pv 5) (fun _ _ => rfl)) (pv 10) (fun _ _ => rfl)) (pa_cons pe_int pa_nil))) (pa_cons (pe_ix (r := rIxL K) ix_list (pv 7) (pv 10) (fun _ _ => rfl)) pa_nil))) pa_nil))))))
      (pss_one (ps_if (pt_cmpR (r := rNeD K) (op_neD hr.units) (pv 9) (pe_tup (pa_cons (pe_ix (r := rIxT K) ix_tup (pv 4) (pv 5) (fun _ _ => rfl)) (pa_cons pe_int pa_nil))) (nomark _)) (pss_one ps_never) pss_nil)))))
      (pss_one (ps_ret pe_bl))))))))))))), ?_⟩
    refine ⟨_, rfl, sa, ns, rfl, hS, fun H1 p s1 np hP => ?_⟩
    -- size
    refine ⟨_, rfl, p, _, rfl, by decide, by decide, hP, fun v0 H2 l0 u0 P2 B2 => ⟨_, _, rfl, rfl, ?_⟩⟩
    obtain ⟨dn, rfl⟩ := Int.eq_ofNat_of_zero_le l0
    have ed : (1 + (dn : Int)) = ((dn + 1 : Nat) : Int) := by omega
    show gName 2 (V.int (1 + (dn : Int))) _ _ _
    rw [ed]
    have n4 : dn + 1 ≤ 4 := by omega
    have n1 : 1 ≤ dn + 1 := by omega
    generalize dn + 1 = n at *
    -- rows
    refine ⟨_, rfl, _, rfl, p, _, rfl, by decide, by decide, P2, fun v1 H3 l1 u1 P3 B3 => ⟨_, _, rfl, rfl, ?_⟩⟩
    obtain ⟨mn, rfl⟩ := Int.eq_ofNat_of_zero_le l1
    have em : (1 + (mn : Int)) = ((mn + 1 : Nat) : Int) := by omega
    have m4 : mn + 1 ≤ 4 := by omega
    have m1 : 1 ≤ mn + 1 := by omega
    generalize mn + 1 = m at *
    refine ⟨_, rfl, p, m, n, (by show [V.ref p, V.int (1 + (mn : Int)), V.int (n : Int)] = _; rw [em]), by omega, by omega, P3, fun H4 l M P4 K4 lp nl V4 lM vM bM => ?_⟩
    have b39 : ∀ v ∈ M, ∀ x ∈ v, x.natAbs ≤ 39 := fun v hv x hx => by
      have h1 := bM v hv x hx
      have : 2 ^ m ≤ 2 ^ 4 := Nat.pow_le_pow_right (by decide) m4
      omega
    have b6 : ∀ v ∈ M, Lim 6 v := fun v hv x hx => by have := b39 v hv x hx; omega
    obtain ⟨rs, el, lr, gr⟩ := id V4
    -- right
    refine ⟨_, rfl, l, rfl, ⟨_, SqL.of el⟩, fun D nD => ?_⟩
    refine lc_list (xs := rs.map V.ref) (fun i H' => Dr p H4 D 9 i H') (dr0 P4 nD) (fun i H' _ hW => SqL.of (hW.2.1 _ _ lp el)) (fun i x H' hx hW => ?_) (fun H5 hW => ?_)
    · obtain ⟨r, hr1, rfl⟩ := ref_get hx
      refine ⟨rfl, ?_⟩
      unfold tYes
      refine iteT ?_
      have P5 := hW.1.choose_spec.2.1.pl
      refine ⟨_, rfl, p, _, rfl, by decide, by decide, P5, fun z H6 l6 u6 P6 B6 => ⟨_, _, rfl, rfl, ?_⟩⟩
      obtain ⟨acc, h1, h2, h3⟩ := dr_step (n := z - 4) nD P4 hW B6 P6 (by omega)
      exact ⟨acc, h1, small1000 (by have := lt_of_get hr1; omega), h3⟩
    have K5 := hW.kp
    obtain ⟨⟨q5, _, hq5, _⟩, _, rt, eD, lrt, bR⟩ := hW
    rw [List.length_map, lr] at lrt
    refine ⟨D, _, rfl, .inl ⟨SqL.of eD, fun rb nrb => ?_⟩⟩
    have s6 := same_upd (o := .tup (rt.map V.int)) nrb
    have hrb : Vc (upd H5 rb (.tup (rt.map V.int))) rb rt := upd_same
    have K6 := K5.trans (Same.kp s6)
    have P6 := hq5.pl.same s6
    have V6 := V4.kp P4 lp K6.k
    generalize upd H5 rb (.tup (rt.map V.int)) = H6 at *
    -- .. or of products
    refine ⟨fun σ H' => ∃ (rb : Addr) (rt : List Int) (y5 y6 : Option V), σ = [some (.ref sa), some (.ref p), some (.int n), some (.ref l), some (.ref rb), y5, y6, none, none, none, none, none] ∧ VL H' l M ∧ Vc H' rb rt ∧ rt.length = M.length ∧ Lim 9 rt, ?_, ?_⟩
    · refine ⟨_, rfl, p, _, rfl, by decide, by decide, P6, fun v7 H7 l7 u7 P7 B7 => ⟨rfl, _, rfl, ite2 (fun _ => ?_) (fun _ => ?_)⟩⟩
      · have V7 := V6.kp P6 lp B7.keep
        obtain ⟨rs7, e7, lr7, g7⟩ := id V7
        refine ⟨_, rfl, n, rfl, by omega, by omega, fun D7 nD7 => ?_⟩
        refine lc_range (lo := 0) (n := n) (fun i H' => Dr p H7 D7 2 i H') (dr0 P7 nD7) (fun i H' hi hW => ?_) (fun H8 hW => ?_)
        · refine ⟨rfl, ?_⟩
          unfold tYes
          refine iteT ?_
          have P5 := hW.1.choose_spec.2.1.pl
          refine ⟨_, rfl, p, _, rfl, by decide, by decide, P5, fun z H6 l6 u6 P6 B6 => ⟨_, _, rfl, rfl, ?_⟩⟩
          obtain ⟨acc, h1, h2, h3⟩ := dr_step (n := z - 3) nD7 P7 hW B6 P6 (by omega)
          exact ⟨acc, h1, small1000 (by omega), h3⟩
        have K8 := hW.kp
        obtain ⟨⟨q5, _, hq5, _⟩, _, xs, eX, lxs, bX⟩ := hW
        have V8 := V7.kp P7 lp K8.k
        obtain ⟨rs8, e8, lr8, g8⟩ := id V8
        refine ⟨_, rfl, l, rfl, ⟨_, SqL.of e8⟩, fun D8 nD8 => ?_⟩
        have hx3 : ∀ x ∈ xs, x.natAbs ≤ 3 := fun x hx => by have := bX x hx; omega
        refine lc_list (xs := rs8.map V.ref) (fun i H' => Same H8 H' ∧ H' D8 = some (.lst (((M.map fun v => (dotz v xs).sum).take i).map V.int))) ⟨same_upd nD8, upd_same⟩ (fun i H' _ hW => SqL.of (hW.1 _ _ e8)) (fun i x H' hx hW => ?_) (fun H9 hW => ?_)
        · obtain ⟨sW, eW⟩ := hW
          obtain ⟨r, hr1, rfl⟩ := ref_get hx
          obtain ⟨v, ev, hv⟩ := g8 _ _ hr1
          have mv := List.mem_of_getElem? ev
          have lv := vM v mv
          refine ⟨rfl, ?_⟩
          unfold tYes
          refine iteT ?_
          refine ⟨_, rfl, _, rfl, r, D7, v, xs, rfl, sW _ _ hv, sW _ _ eX, by omega, by omega, fun x hx => up_pow (b6 v mv x hx) (by decide), fun x hx => up_pow (bX x hx) (by decide), fun H10 s10 => ⟨_, s10 _ _ eW, ?_, ?_, ?_⟩⟩
          · rw [List.length_map, List.length_take, List.length_map]
            exact Nat.lt_of_le_of_lt (Nat.min_le_right _ _) (small1000 (by omega))
          · intro x o hx
            rw [upd_ne (ne_of_none hx nD8)]
            exact s10 _ _ (sW _ _ hx)
          · have hg : (M.map fun v => (dotz v xs).sum)[i]? = some (dotz v xs).sum := by rw [List.getElem?_map, ev]; rfl
            rw [upd_same, take_get hg, List.map_append]
            rfl
        obtain ⟨s9, e9⟩ := hW
        rw [show (rs8.map V.ref).length = (M.map fun v => (dotz v xs).sum).length by rw [List.length_map, List.length_map, lr8], List.take_length] at e9
        refine ⟨D8, _, rfl, .inl ⟨SqL.of e9, fun u nu => ?_⟩⟩
        have su := s9.trans (same_upd (o := .tup ((M.map fun v => (dotz v xs).sum).map V.int)) nu)
        refine ⟨u, M.map fun v => (dotz v xs).sum, _, _, rfl, V8.same su, upd_same, by rw [List.length_map], fun x hx => ?_⟩
        obtain ⟨v, hv, rfl⟩ := List.mem_map.mp hx
        have h1 := dotz_ab v xs (b39 v hv) hx3
        rw [vM v hv] at h1
        have h2 : n * (39 * 3) ≤ 4 * (39 * 3) := Nat.mul_le_mul_right _ n4
        omega
      · exact ⟨rb, rt, _, _, rfl, V6.kp P6 lp B7.keep, hrb.keep P6 B7.keep, lrt, bR⟩
    intro σ H7 hW
    obtain ⟨rb, rt, y5, y6, rfl, V7, hrb, lrt, bR⟩ := hW
    obtain ⟨rs7, e7, lr7, g7⟩ := id V7
    have b9 : ∀ v ∈ wid M rt, v.length = n + 1 ∧ Lim 9 v := fun u hu => by
      obtain ⟨v, r, hv, hr, rfl⟩ := wid_mem hu
      refine ⟨by rw [List.length_append, vM v hv]; rfl, fun x hx => ?_⟩
      rcases List.mem_append.mp hx with h | h
      · exact up_pow (b6 v hv x h) (by decide)
      · rw [List.mem_singleton.mp h]; exact bR r hr
    have wl := wid_len lrt
    refine ⟨_, rfl, _, rfl, l, rb, M, rt, n, rfl, V7, hrb, lrt, vM, n1, n4, by omega, by omega, b6, bR, fun H8 P1 left s8 E1 hn => ?_, fun H8 tl P1 left fs s8 Vt E1 hn S => ?_⟩
    · have wl2 := wl
      have sA := s8
      have e8 := s8 _ _ e7
      have hrb8 := hrb.same s8
      refine ⟨_, rfl, _, _, rfl, .inl (SqL.of e8), (rs7.map V.ref).length, rfl, by rw [List.length_map]; omega, by rw [List.length_map]; omega, fun D nD => ?_⟩
      rw [List.length_map, lr7]
      refine lc_range (lo := 0) (n := M.length) (fun i H' => PvL H8 D ((wid M rt).take i) H') (pvl0 nD) (fun i H' hi hP => ?_) (fun H9 hP => ?_)
      · have e0 : (0 : Int) + (i : Int) = ((i : Nat) : Int) := Int.zero_add _
        rw [e0]
        have er : rs7[i]? = some (rs7[i]'(by omega)) := List.getElem?_eq_getElem _
        obtain ⟨v, ev, hv⟩ := g7 _ _ er
        have ee : rt[i]? = some (rt[i]'(by omega)) := List.getElem?_eq_getElem _
        have lv := vM v (List.mem_of_getElem? ev)
        generalize rt[i]'(by omega) = e at *
        refine ⟨rfl, ?_⟩
        unfold tYes
        refine iteT ?_
        have s9 := s8.trans hP.1
        refine ⟨_, rfl, _, rfl, _, _, _, _, rfl, rfl, SqL.of (s9 _ _ e7), atI_nat (get_ref er), _, rfl, _, rfl, _, _, _, _, rfl, rfl, SqT.of (hP.1 _ _ hrb8), atI_nat (get_map ee), (show 1 ≤ sizeLine by decide), fun u nu => ?_⟩
        have su := same_upd (o := .tup [.int e]) nu
        refine cat_h (su _ _ (s9 _ _ hv)) (show (upd H' u (.tup [.int e])) u = some (.tup [.int e]) from upd_same) (by rw [List.length_map]; show v.length + 1 ≤ 1000; omega) fun H5 r5 s5 hr5 => ?_
        have := pvl_step (v := v ++ [e]) nD hP (su.trans s5) (by unfold Vc; rw [hr5, List.map_append]; rfl) (by rw [List.length_take]; omega)
        rw [← take_get (wid_get ev ee)] at this
        exact this
      rw [← wl, List.take_length] at hP
      obtain ⟨s9, V9⟩ := hP
      refine ⟨_, rfl, D, wid M rt, n + 1, 9, rfl, V9, fun v hv => (b9 v hv).1, by omega, by omega, by omega, fun v hv => (b9 v hv).2, Nat.le_trans (lm_up 9 (show n + 1 ≤ 5 by omega)) (by decide), fun H10 P2 left2 s10 I2 _ _ => ?_⟩
      have sB := (s8.trans s9).trans s10
      refine ⟨_, rfl, l, M, n, 6, rfl, V7.same sB, vM, by omega, by omega, by omega, b6, Nat.le_trans (lm_up 6 (show n ≤ 5 by omega)) (by decide), fun H11 P3 left3 s11 I3 _ _ => ?_⟩
      have eP : P2.length = P1.length := by
        have := congrArg List.length (same_piv I2 E1.inv fun _ => Iff.rfl)
        rwa [List.length_map, List.length_map] at this
      have rk := rank_wid lrt vM E1.inv I3
      rw [eP]
      have h1 := rk.1 hn
      refine ⟨_, _, rfl, rfl, _, rfl, ite2 (fun _ => ?_) (fun e => absurd (decide_eq_true (show ((P3.length : Nat) : Int) < ((P1.length : Nat) : Int) by omega)) e)⟩
      exact ⟨_, rfl, q _⟩
    · have wl2 := wl
      have sA := s8
      have e8 := s8 _ _ e7
      have hrb8 := hrb.same s8
      refine ⟨_, rfl, _, _, rfl, .inl (SqL.of e8), (rs7.map V.ref).length, rfl, by rw [List.length_map]; omega, by rw [List.length_map]; omega, fun D nD => ?_⟩
      rw [List.length_map, lr7]
      refine lc_range (lo := 0) (n := M.length) (fun i H' => PvL H8 D ((wid M rt).take i) H') (pvl0 nD) (fun i H' hi hP => ?_) (fun H9 hP => ?_)
      · have e0 : (0 : Int) + (i : Int) = ((i : Nat) : Int) := Int.zero_add _
        rw [e0]
        have er : rs7[i]? = some (rs7[i]'(by omega)) := List.getElem?_eq_getElem _
        obtain ⟨v, ev, hv⟩ := g7 _ _ er
        have ee : rt[i]? = some (rt[i]'(by omega)) := List.getElem?_eq_getElem _
        have lv := vM v (List.mem_of_getElem? ev)
        generalize rt[i]'(by omega) = e at *
        refine ⟨rfl, ?_⟩
        unfold tYes
        refine iteT ?_
        have s9 := s8.trans hP.1
        refine ⟨_, rfl, _, rfl, _, _, _, _, rfl, rfl, SqL.of (s9 _ _ e7), atI_nat (get_ref er), _, rfl, _, rfl, _, _, _, _, rfl, rfl, SqT.of (hP.1 _ _ hrb8), atI_nat (get_map ee), (show 1 ≤ sizeLine by decide), fun u nu => ?_⟩
        have su := same_upd (o := .tup [.int e]) nu
        refine cat_h (su _ _ (s9 _ _ hv)) (show (upd H' u (.tup [.int e])) u = some (.tup [.int e]) from upd_same) (by rw [List.length_map]; show v.length + 1 ≤ 1000; omega) fun H5 r5 s5 hr5 => ?_
        have := pvl_step (v := v ++ [e]) nD hP (su.trans s5) (by unfold Vc; rw [hr5, List.map_append]; rfl) (by rw [List.length_take]; omega)
        rw [← take_get (wid_get ev ee)] at this
        exact this
      rw [← wl, List.take_length] at hP
      obtain ⟨s9, V9⟩ := hP
      refine ⟨_, rfl, D, wid M rt, n + 1, 9, rfl, V9, fun v hv => (b9 v hv).1, by omega, by omega, by omega, fun v hv => (b9 v hv).2, Nat.le_trans (lm_up 9 (show n + 1 ≤ 5 by omega)) (by decide), fun H10 P2 left2 s10 I2 _ _ => ?_⟩
      have sB := (s8.trans s9).trans s10
      refine ⟨_, rfl, l, M, n, 6, rfl, V7.same sB, vM, by omega, by omega, by omega, b6, Nat.le_trans (lm_up 6 (show n ≤ 5 by omega)) (by decide), fun H11 P3 left3 s11 I3 _ _ => ?_⟩
      have eP : P2.length = P1.length := by
        have := congrArg List.length (same_piv I2 E1.inv fun _ => Iff.rfl)
        rwa [List.length_map, List.length_map] at this
      have rk := rank_wid lrt vM E1.inv I3
      rw [eP]
      have h1 := rk.2 hn
      refine ⟨_, _, rfl, rfl, _, rfl, ite2 (fun e => absurd (of_decide_eq_true e) (show ¬ ((P3.length : Nat) : Int) < ((P1.length : Nat) : Int) by omega)) (fun _ => ?_)⟩
      have sC := s9.trans (s10.trans s11)
      have Vt11 := Vt.same sC
      obtain ⟨ts, et, tsl, tg⟩ := id Vt11
      have r4 : P1.length ≤ 4 := by have := E1.lM; omega
      -- the kinds
      refine ⟨_, rfl, _, _, _, _, _, rfl, ClsV.ty _, .base (.lst et), kit_ty (a := "list") (b := "list") (r := true) (by decide +kernel), true, rfl, iteF ?_⟩
      refine ⟨_, rfl, _, _, rfl, .inl (SqL.of et), _, rfl, rfl, _, rfl, ite2 (fun e => absurd (by rw [List.length_map, tsl, S.len] at e; exact e) (by rw [dec_int]; simp)) (fun _ => ?_)⟩
      obtain ⟨f, lf, hF⟩ := fnd_ex (k := n) (-(ppv P1 : Int)) E1.inv.tri (Nat.le_refl _) (by omega) hn
      have at' : ∀ j, j < n → ∃ a b : Int, fs.getD j [] = [a, b] ∧ Low (a, b) ∧ a * (ppv P1 : Int) = en f j * b ∧ a.natAbs < 2 ^ 159 ∧ b.natAbs ≤ pd P1 j := fun j hj => sol_at E1 r4 S hn hF hj
      have D0 : 0 < ppv P1 := ppv_pos E1.red.pos
      let g : Nat → Nat := fun j => if j = n then 3 else 0
      have lpg := (E1.lp g 6 (fun u hu j => by
        obtain ⟨v, r, hv, hr, rfl⟩ := wid_mem hu
        have lv := vM v hv
        rw [en_app]
        by_cases c : j < v.length
        · rw [if_pos c]
          exact up_pow ((b6 v hv).en j) (by omega)
        · rw [if_neg c]
          by_cases d : j = v.length
          · rw [if_pos d]
            have : g j = 3 := if_pos (by omega)
            rw [this]
            exact bR r hr
          · rw [if_neg d]
            exact Nat.pow_pos (by decide)) (fun q hq => if_neg fun z => hn (List.mem_map.mpr ⟨q, hq, z⟩))).1
      have g0 : ∀ q ∈ P1, g q.1 = 0 := fun q hq => if_neg fun z => hn (List.mem_map.mpr ⟨q, hq, z⟩)
      have D339 : ppv P1 ≤ 2 ^ 339 := Nat.le_trans (ppv_lim lpg g0) (Nat.pow_le_pow_right (by decide) (sbn_6 r4))
      have k395 : (2 : Nat) ^ 339 < 2 ^ 395 := Nat.pow_lt_pow_right (by decide) (by decide)
      have pd1 : ∀ j, 1 ≤ pd P1 j := fun j => by
        by_cases e : j ∈ P1.map (·.1)
        · obtain ⟨q, hq, rfl⟩ := List.mem_map.mp e
          rw [pd_in E1.inv.tri q hq]
          have := E1.red.pos q hq
          omega
        · rw [pd_out e]
          exact Nat.le_refl 1
      have pdn : ∀ j, j ≤ n → pto (pd P1) j ≤ 2 ^ 339 := fun j hj => by
        refine Nat.le_trans (pto_up pd1 hj) ?_
        rcases pto_pd (n := n) E1.inv.tri with h | ⟨q, hq, e⟩
        · exact Nat.le_trans h D339
        · have := E1.red.pos q hq
          omega
      have pdj : ∀ j, j < n → pd P1 j ≤ 2 ^ 339 := fun j hj => by
        have h1 := pdn (j + 1) hj
        have h2 : pto (pd P1) (j + 1) = pto (pd P1) j * pd P1 j := rfl
        rw [h2] at h1
        have h3 : ∀ m, 1 ≤ pto (pd P1) m := fun m => by
          induction m with
          | zero => exact Nat.le_refl 1
          | succ m ih => exact Nat.mul_pos ih (pd1 m)
        have := Nat.mul_le_mul_right (pd P1 j) (h3 j)
        omega
      -- each of the fractions
      refine ⟨_, rfl, tl, rfl, ⟨_, SqL.of et⟩, ?_⟩
      refine for_list (xs := ts.map V.ref) (fun i σ H' => Same H11 H' ∧ ∃ (y6 : Option V), σ = [some (.ref sa), some (.ref p), some (.int n), some (.ref l), some (.ref rb), y5, y6, some (.ref tl), some (.ref D), none, none, none]) ⟨Same.refl _, _, rfl⟩ (fun i σ H' _ hW => SqL.of (hW.1 _ _ et)) (fun i x σ H12 hx hW => ?_) (fun σ H12 hW => ?_)
      · obtain ⟨s12, y6, rfl⟩ := hW
        obtain ⟨r, hr1, rfl⟩ := ref_get hx
        obtain ⟨v, ev, hv11⟩ := tg _ _ hr1
        have hi : i < n := by have := lt_of_get ev; rw [S.len] at this; exact this
        obtain ⟨a, b, eab, low, _, ha, hb⟩ := at' i hi
        rw [List.getD_eq_getElem?_getD, ev] at eab
        have eab : v = [a, b] := eab
        subst eab
        have hv := hv11.same s12
        have b395 : b.natAbs < 2 ^ 395 := by have := pdj i hi; omega
        have D1 : Dt sa H12 395 1 (.ref r) := .tup hv (by show 2 ≤ 395; decide) fun x hx => by
          rcases List.mem_cons.mp hx with h | h
          · rw [h]; exact .int 0 a (up_pow ha (by decide))
          · rw [List.mem_singleton.mp h]; exact .int 0 b b395
        refine ⟨_, rfl, 2, .ref r, sa, 395, 1, rfl, D1, by decide, fun H13 bb s13 hbb => ?_⟩
        have hbt : bb = true := hbb.mpr ⟨r, [a, b], rfl, hv, rfl⟩
        subst hbt
        refine ⟨_, rfl, iteF ?_⟩
        have hv13 := hv.same s13
        refine ⟨_, rfl, _, _, _, _, rfl, rfl, SqT.of hv13, atI_nat (j := 1) rfl, _, _, rfl, rfl, _, rfl, ite2 (fun e => absurd (of_decide_eq_true e) (by have : 0 < b := low.1; show ¬ b < 1; omega)) (fun _ => ?_)⟩
        refine ⟨_, rfl, _, rfl, _, _, _, _, rfl, rfl, SqT.of hv13, atI_nat (j := 0) rfl, _, rfl, _, _, _, _, rfl, rfl, SqT.of hv13, atI_nat (j := 1) rfl, a, b, rfl, low.1, b395, fun u nu => ?_⟩
        have su := same_upd (o := .tup [.int (frN a b), .int (frD a b)]) nu
        have hu : Vc (upd H13 u (.tup [.int (frN a b), .int (frD a b)])) u [frN a b, frD a b] := upd_same
        refine ⟨_, _, .tup (SqT.of (hv13.same su)) (dp_ints [a, b]), .tup (SqT.of hu) (dp_ints [frN a b, frD a b]), shaped_ints _ (by show 2 ≤ 1000; decide), shaped_ints _ (by show 2 ≤ 1000; decide), ?_⟩
        have eq := low_eq (low_fr (a := a) low.1) low (by show frN a b * b = frD a b * a; exact fr_cross low.1)
        have e1 : frN a b = a := congrArg Prod.fst eq
        have e2 : frD a b = b := congrArg Prod.snd eq
        have dc : decide ([a, b] = [frN a b, frD a b]) = true := decide_eq_true (by rw [e1, e2])
        rw [PyData.eqv, eqv_ints, dc]
        exact ⟨_, rfl, iteF ⟨(s12.trans s13).trans su, _, rfl⟩⟩
      · obtain ⟨s12, y6, rfl⟩ := hW
        have sD := (sB.trans s11).trans s12
        refine ⟨_, rfl, _, _, rfl, .inl (SqL.of (sD _ _ e7)), (rs7.map V.ref).length, rfl, by rw [List.length_map]; omega, by rw [List.length_map]; omega, ?_⟩
        rw [List.length_map, lr7]
        refine for_range (lo := 0) (n := M.length) (fun i σ H' => Same H12 H' ∧ ∃ (y5 y9 y10 : Option V), σ = [some (.ref sa), some (.ref p), some (.int n), some (.ref l), some (.ref rb), y5, y6, some (.ref tl), some (.ref D), y9, y10, none]) ⟨Same.refl _, _, _, _, rfl⟩ (fun i σ H' hi hW => ?_) (fun σ H' hW => ?_)
        · obtain ⟨s13, y5, y9, y10, rfl⟩ := hW
          have e0 : (0 : Int) + (i : Int) = ((i : Nat) : Int) := Int.zero_add _
          rw [e0]
          have er : rs7[i]? = some (rs7[i]'(by omega)) := List.getElem?_eq_getElem _
          obtain ⟨v, ev, hv⟩ := g7 _ _ er
          have mv := List.mem_of_getElem? ev
          have lv := vM v mv
          have ee : rt[i]? = some (rt[i]'(by omega)) := List.getElem?_eq_getElem _
          generalize rt[i]'(by omega) = rhs at *
          -- the row's sum
          have Nx : Nl (n + 1) (wid M rt) (en f) := (E1.inv.null (en f)).mpr ⟨hF.null E1.red E1.inv.tri (Nat.le_refl _) (by omega) hn (fun q hq => by
            obtain ⟨R, hR⟩ := ppv_dvd q hq
            have pp := E1.red.pos q hq
            refine Int.dvd_neg.mpr ⟨(R : Int), ?_⟩
            rw [hR, Int.natCast_mul]
            congr 1
            omega), fun u hu => by
            unfold dv
            exact sm_zero fun j hj => by rw [E1.inv.zero u hu j hj, Int.zero_mul]⟩
          have rowz := Nx _ (List.mem_of_getElem? (wid_get ev ee))
          rw [dv_wid lv, hF.hk] at rowz
          have rowS : dv n v (en f) = rhs * (ppv P1 : Int) := by rw [Int.mul_neg] at rowz; omega
          -- total = (0, 1)
          refine ⟨(show 2 ≤ sizeLine by decide), fun t0 nt0 => ?_⟩
          have st0 := s13.trans (same_upd (o := .tup [.int 0, .int 1]) nt0)
          have ht0 : Vc (upd H' t0 (.tup [.int 0, .int 1])) t0 [0, 1] := upd_same
          generalize upd H' t0 (.tup [.int 0, .int 1]) = H14 at *
          refine ⟨_, rfl, n, rfl, by omega, by omega, ?_⟩
          let bb : Nat → Nat := fun j => ((fs.getD j []).getD 1 1).natAbs
          have bbp : ∀ j, j ≤ n → pto bb j ≤ 2 ^ 339 := fun j hj => Nat.le_trans (pto_le fun m hm => by
            obtain ⟨a, b, eab, _, _, _, hb⟩ := at' m (by omega)
            show ((fs.getD m []).getD 1 1).natAbs ≤ _
            rw [eab]
            exact hb) (pdn j hj)
          refine for_range (lo := 0) (n := n) (fun j σ H' => Same H12 H' ∧ ∃ (ta : Addr) (N Dn : Int) (y10 : Option V), σ = [some (.ref sa), some (.ref p), some (.int n), some (.ref l), some (.ref rb), some (.int i), y6, some (.ref tl), some (.ref D), some (.ref ta), y10, none] ∧ Vc H' ta [N, Dn] ∧ Tot (ppv P1 : Int) (sm j fun m => en v m * en f m) (pto bb j) j N Dn)
            ⟨st0, t0, 0, 1, _, rfl, ht0, ⟨⟨(by show (0 : Int) < 1; decide), rfl⟩, (by show (0 : Int) * _ = 0 * 1; rw [Int.zero_mul, Int.zero_mul]), Nat.le_refl 1, Nat.pow_pos (by decide)⟩⟩ (fun j σ H15 hj hW => ?_) (fun σ H15 hW => ?_)
          · obtain ⟨s15, ta, N, Dn, y10, rfl, hta, hT⟩ := hW
            have e1 : (0 : Int) + (j : Int) = ((j : Nat) : Int) := Int.zero_add _
            rw [e1]
            obtain ⟨a, b, eab, low, hval, ha, hb⟩ := at' j hj
            have et15 := s15 _ _ (s12 _ _ et)
            have ej : ts[j]? = some (ts[j]'(by rw [tsl, S.len]; exact hj)) := List.getElem?_eq_getElem _
            obtain ⟨u, eu, hu⟩ := tg _ _ ej
            have eab' := eab
            rw [List.getD_eq_getElem?_getD, eu] at eab
            have eab : u = [a, b] := eab
            subst eab
            have hu15 := (hu.same s12).same s15
            have hv15 := ((hv.same sD).same s15)
            have bbj : bb j = b.natAbs := by
              show ((fs.getD j []).getD 1 1).natAbs = b.natAbs
              rw [eab']
              rfl
            have b0 : 0 < b := low.1
            have bl : b.natAbs ≤ 2 ^ 339 := Nat.le_trans hb (pdj j hj)
            have vb : (en v j).natAbs < 2 ^ 9 := up_pow ((b6 v mv).en j) (by decide)
            have hB : pto bb j * b.natAbs ≤ 2 ^ 339 := by
              have := bbp (j + 1) hj
              have e2 : pto bb (j + 1) = pto bb j * bb j := rfl
              rw [e2, bbj] at this
              exact this
            have T2 := tot_step (v := en v j) (x := en f j) (by omega) hT hB b0 hval vb ha
            have d0 := frD_pos (a := en v j * a) (b := 1 * b) (by omega)
            have dl := frD_abs (a := en v j * a) (b := 1 * b) (by omega)
            have cl := frN_abs (a := en v j * a) (b := 1 * b) (by omega)
            have dl : (frD (en v j * a) (1 * b)).natAbs ≤ b.natAbs := by rw [Int.one_mul] at dl ⊢; exact dl
            refine ⟨_, rfl, _, rfl, _, rfl, _, _, _, _, rfl, rfl, SqL.of ((sD.trans s15) _ _ e7), atI_nat (get_ref er), _, rfl, _, _, _, _, rfl, rfl, SqT.of hv15, atI_nat (en_get (by omega)), (show 2 ≤ sizeLine by decide), fun t1 nt1 => ?_⟩
            have st1 := same_upd (o := .tup [.int (en v j), .int 1]) nt1
            have ht1 : Vc (upd H15 t1 (.tup [.int (en v j), .int 1])) t1 [en v j, 1] := upd_same
            generalize upd H15 t1 (.tup [.int (en v j), .int 1]) = H16 at *
            refine ⟨_, rfl, _, rfl, _, _, _, _, rfl, rfl, SqL.of (st1 _ _ et15), atI_nat (get_ref ej), ?_⟩
            refine ⟨t1, _, en v j, 1, a, b, rfl, ht1, hu15.same st1, by decide, b0, up_pow vb (by decide), up_pow ha (by decide), by decide, Nat.lt_of_le_of_lt bl k395, by rw [Int.one_mul]; exact Nat.lt_of_le_of_lt bl k395, fun t2 nt2 => ?_⟩
            have st2 := same_upd (o := .tup [.int (frN (en v j * a) (1 * b)), .int (frD (en v j * a) (1 * b))]) nt2
            have ht2 : Vc (upd H16 t2 (.tup [.int (frN (en v j * a) (1 * b)), .int (frD (en v j * a) (1 * b))])) t2 [frN (en v j * a) (1 * b), frD (en v j * a) (1 * b)] := upd_same
            have st12 := st1.trans st2
            refine ⟨ta, t2, N, Dn, _, _, rfl, hta.same st12, ht2, hT.low.1, d0, ?_, ?_, ?_, ?_, ?_, fun t3 nt3 => ?_⟩
            · exact up_pow hT.num (by omega)
            · exact up_pow (Nat.lt_of_le_of_lt cl (mul_pow vb ha)) (by decide)
            · exact Nat.lt_of_le_of_lt (Nat.le_trans hT.den (bbp j (by omega))) k395
            · exact Nat.lt_of_le_of_lt (Nat.le_trans dl bl) k395
            · rw [Int.natAbs_mul]
              exact Nat.lt_of_le_of_lt (Nat.le_trans (Nat.mul_le_mul hT.den dl) hB) k395
            · refine ⟨s15.trans (st12.trans (same_upd nt3)), t3, _, _, _, rfl, upd_same, ?_⟩
              have e2 : pto bb (j + 1) = pto bb j * bb j := rfl
              rw [e2, bbj]
              exact T2
          · obtain ⟨s15, ta, N, Dn, y10, rfl, hta, hT⟩ := hW
            obtain ⟨eN, eD⟩ := tot_end (r := rhs) (by omega) hT rowS
            subst eN eD
            refine ⟨_, rfl, _, rfl, _, rfl, _, _, _, _, rfl, rfl, SqT.of ((hrb.same sD).same s15), atI_nat (get_map ee), (show 2 ≤ sizeLine by decide), fun u nu => ?_⟩
            have su := same_upd (o := .tup [.int N, .int 1]) nu
            have hu : Vc (upd H15 u (.tup [.int N, .int 1])) u [N, 1] := upd_same
            refine ⟨_, _, .tup (SqT.of (hta.same su)) (dp_ints [N, 1]), .tup (SqT.of hu) (dp_ints [N, 1]), shaped_ints _ (by show 2 ≤ 1000; decide), shaped_ints _ (by show 2 ≤ 1000; decide), ?_⟩
            rw [PyData.eqv, eqv_ints, decide_eq_true rfl]
            exact ⟨_, rfl, iteF ⟨s15.trans su, _, _, _, rfl⟩⟩
        · exact q _

end
/-! ### what the top has written -/
theorem all_mk {l : PySem.W.OpenLaw} {w : World} {K : PySem.W.Frag} {h : Heap} {mg : Str → Option Value} {fa f__law_gcd f__law_spread f__law_draw f__law_pool f__law_matrix f_common_divisor f_primitive f_first_with_entry f_with_positive_entry f_cleared f_echelon f__law_rank f__law_is_int f__law_is_vector f_pivot_of f_fraction f_solve f__law_frac f__law_dot f__law_add f__law_mul f_law  : Addr} (X : K.In h) (G : h.Ns mainGlobals mg) (hfa : mg "law" = some (.ref fa))
    {od__law_gcd an__law_gcd od__law_spread an__law_spread od__law_draw an__law_draw od__law_pool an__law_pool od__law_matrix an__law_matrix od_common_divisor an_common_divisor od_primitive an_primitive od_first_with_entry an_first_with_entry od_with_positive_entry an_with_positive_entry od_cleared an_cleared od_echelon an_echelon od__law_rank an__law_rank od__law_is_int an__law_is_int od__law_is_vector an__law_is_vector od_pivot_of an_pivot_of od_fraction an_fraction od_solve an_solve od__law_frac an__law_frac od__law_dot an__law_dot od__law_add an__law_add od__law_mul an__law_mul od_law an_law : Option Addr} {sl__law_gcd sl__law_spread sl__law_draw sl__law_pool sl__law_matrix sl_common_divisor sl_primitive sl_first_with_entry sl_with_positive_entry sl_cleared sl_echelon sl__law_rank sl__law_is_int sl__law_is_vector sl_pivot_of sl_fraction sl_solve sl__law_frac sl__law_dot sl__law_add sl__law_mul sl_law : Array (Option Value)} {oc__law_gcd kV__law_gcd dc__law_gcd pm__law_gcd cd__law_gcd ct__law_gcd oc__law_spread kV__law_spread dc__law_spread pm__law_spread cd__law_spread ct__law_spread oc__law_draw kV__law_draw dc__law_draw pm__law_draw cd__law_draw ct__law_draw oc__law_pool kV__law_pool dc__law_pool pm__law_pool cd__law_pool ct__law_pool oc__law_matrix kV__law_matrix dc__law_matrix pm__law_matrix cd__law_matrix ct__law_matrix oc_common_divisor kV_common_divisor dc_common_divisor pm_common_divisor cd_common_divisor ct_common_divisor oc_primitive kV_primitive dc_primitive pm_primitive cd_primitive ct_primitive oc_first_with_entry kV_first_with_entry dc_first_with_entry pm_first_with_entry cd_first_with_entry ct_first_with_entry oc_with_positive_entry kV_with_positive_entry dc_with_positive_entry pm_with_positive_entry cd_with_positive_entry ct_with_positive_entry oc_cleared kV_cleared dc_cleared pm_cleared cd_cleared ct_cleared oc_echelon kV_echelon dc_echelon pm_echelon cd_echelon ct_echelon oc__law_rank kV__law_rank dc__law_rank pm__law_rank cd__law_rank ct__law_rank oc__law_is_int kV__law_is_int dc__law_is_int pm__law_is_int cd__law_is_int ct__law_is_int oc__law_is_vector kV__law_is_vector dc__law_is_vector pm__law_is_vector cd__law_is_vector ct__law_is_vector oc_pivot_of kV_pivot_of dc_pivot_of pm_pivot_of cd_pivot_of ct_pivot_of oc_fraction kV_fraction dc_fraction pm_fraction cd_fraction ct_fraction oc_solve kV_solve dc_solve pm_solve cd_solve ct_solve oc__law_frac kV__law_frac dc__law_frac pm__law_frac cd__law_frac ct__law_frac oc__law_dot kV__law_dot dc__law_dot pm__law_dot cd__law_dot ct__law_dot oc__law_add kV__law_add dc__law_add pm__law_add cd__law_add ct__law_add oc__law_mul kV__law_mul dc__law_mul pm__law_mul cd__law_mul ct__law_mul oc_law kV_law dc_law pm_law cd_law ct_law : Value}
    (a__law_gcd : PySem.W.nsIn K mainGlobals "_law_gcd" = some (some (.ref f__law_gcd))) (l__law_gcd : K.lookup f__law_gcd = some ⟨oc__law_gcd, od__law_gcd, .func (PySem.W.fnOf "_law_gcd" "_law_gcd" (defArgs s__law_gcd) (defBody s__law_gcd) (defScope s__law_gcd) .none kV__law_gcd dc__law_gcd pm__law_gcd an__law_gcd cd__law_gcd ct__law_gcd), sl__law_gcd⟩) (c__law_gcd : PySem.W.codeIn K cd__law_gcd "_law_gcd" = true) (k__law_gcd : PySem.W.keepIn K (.ref f__law_gcd) = true)
    (a__law_spread : PySem.W.nsIn K mainGlobals "_law_spread" = some (some (.ref f__law_spread))) (l__law_spread : K.lookup f__law_spread = some ⟨oc__law_spread, od__law_spread, .func (PySem.W.fnOf "_law_spread" "_law_spread" (defArgs s__law_spread) (defBody s__law_spread) (defScope s__law_spread) .none kV__law_spread dc__law_spread pm__law_spread an__law_spread cd__law_spread ct__law_spread), sl__law_spread⟩) (c__law_spread : PySem.W.codeIn K cd__law_spread "_law_spread" = true) (k__law_spread : PySem.W.keepIn K (.ref f__law_spread) = true)
    (a__law_draw : PySem.W.nsIn K mainGlobals "_law_draw" = some (some (.ref f__law_draw))) (l__law_draw : K.lookup f__law_draw = some ⟨oc__law_draw, od__law_draw, .func (PySem.W.fnOf "_law_draw" "_law_draw" (defArgs s__law_draw) (defBody s__law_draw) (defScope s__law_draw) .none kV__law_draw dc__law_draw pm__law_draw an__law_draw cd__law_draw ct__law_draw), sl__law_draw⟩) (c__law_draw : PySem.W.codeIn K cd__law_draw "_law_draw" = true) (k__law_draw : PySem.W.keepIn K (.ref f__law_draw) = true)
    (a__law_pool : PySem.W.nsIn K mainGlobals "_law_pool" = some (some (.ref f__law_pool))) (l__law_pool : K.lookup f__law_pool = some ⟨oc__law_pool, od__law_pool, .func (PySem.W.fnOf "_law_pool" "_law_pool" (defArgs s__law_pool) (defBody s__law_pool) (defScope s__law_pool) .none kV__law_pool dc__law_pool pm__law_pool an__law_pool cd__law_pool ct__law_pool), sl__law_pool⟩) (c__law_pool : PySem.W.codeIn K cd__law_pool "_law_pool" = true) (k__law_pool : PySem.W.keepIn K (.ref f__law_pool) = true)
    (a__law_matrix : PySem.W.nsIn K mainGlobals "_law_matrix" = some (some (.ref f__law_matrix))) (l__law_matrix : K.lookup f__law_matrix = some ⟨oc__law_matrix, od__law_matrix, .func (PySem.W.fnOf "_law_matrix" "_law_matrix" (defArgs s__law_matrix) (defBody s__law_matrix) (defScope s__law_matrix) .none kV__law_matrix dc__law_matrix pm__law_matrix an__law_matrix cd__law_matrix ct__law_matrix), sl__law_matrix⟩) (c__law_matrix : PySem.W.codeIn K cd__law_matrix "_law_matrix" = true) (k__law_matrix : PySem.W.keepIn K (.ref f__law_matrix) = true)
    (a_common_divisor : PySem.W.nsIn K mainGlobals "common_divisor" = some (some (.ref f_common_divisor))) (l_common_divisor : K.lookup f_common_divisor = some ⟨oc_common_divisor, od_common_divisor, .func (PySem.W.fnOf "common_divisor" "common_divisor" (defArgs s_common_divisor) (defBody s_common_divisor) (defScope s_common_divisor) .none kV_common_divisor dc_common_divisor pm_common_divisor an_common_divisor cd_common_divisor ct_common_divisor), sl_common_divisor⟩) (c_common_divisor : PySem.W.codeIn K cd_common_divisor "common_divisor" = true) (k_common_divisor : PySem.W.keepIn K (.ref f_common_divisor) = true)
    (a_primitive : PySem.W.nsIn K mainGlobals "primitive" = some (some (.ref f_primitive))) (l_primitive : K.lookup f_primitive = some ⟨oc_primitive, od_primitive, .func (PySem.W.fnOf "primitive" "primitive" (defArgs s_primitive) (defBody s_primitive) (defScope s_primitive) .none kV_primitive dc_primitive pm_primitive an_primitive cd_primitive ct_primitive), sl_primitive⟩) (c_primitive : PySem.W.codeIn K cd_primitive "primitive" = true) (k_primitive : PySem.W.keepIn K (.ref f_primitive) = true)
    (a_first_with_entry : PySem.W.nsIn K mainGlobals "first_with_entry" = some (some (.ref f_first_with_entry))) (l_first_with_entry : K.lookup f_first_with_entry = some ⟨oc_first_with_entry, od_first_with_entry, .func (PySem.W.fnOf "first_with_entry" "first_with_entry" (defArgs s_first_with_entry) (defBody s_first_with_entry) (defScope s_first_with_entry) .none kV_first_with_entry dc_first_with_entry pm_first_with_entry an_first_with_entry cd_first_with_entry ct_first_with_entry), sl_first_with_entry⟩) (c_first_with_entry : PySem.W.codeIn K cd_first_with_entry "first_with_entry" = true) (k_first_with_entry : PySem.W.keepIn K (.ref f_first_with_entry) = true)
    (a_with_positive_entry : PySem.W.nsIn K mainGlobals "with_positive_entry" = some (some (.ref f_with_positive_entry))) (l_with_positive_entry : K.lookup f_with_positive_entry = some ⟨oc_with_positive_entry, od_with_positive_entry, .func (PySem.W.fnOf "with_positive_entry" "with_positive_entry" (defArgs s_with_positive_entry) (defBody s_with_positive_entry) (defScope s_with_positive_entry) .none kV_with_positive_entry dc_with_positive_entry pm_with_positive_entry an_with_positive_entry cd_with_positive_entry ct_with_positive_entry), sl_with_positive_entry⟩) (c_with_positive_entry : PySem.W.codeIn K cd_with_positive_entry "with_positive_entry" = true) (k_with_positive_entry : PySem.W.keepIn K (.ref f_with_positive_entry) = true)
    (a_cleared : PySem.W.nsIn K mainGlobals "cleared" = some (some (.ref f_cleared))) (l_cleared : K.lookup f_cleared = some ⟨oc_cleared, od_cleared, .func (PySem.W.fnOf "cleared" "cleared" (defArgs s_cleared) (defBody s_cleared) (defScope s_cleared) .none kV_cleared dc_cleared pm_cleared an_cleared cd_cleared ct_cleared), sl_cleared⟩) (c_cleared : PySem.W.codeIn K cd_cleared "cleared" = true) (k_cleared : PySem.W.keepIn K (.ref f_cleared) = true)
    (a_echelon : PySem.W.nsIn K mainGlobals "echelon" = some (some (.ref f_echelon))) (l_echelon : K.lookup f_echelon = some ⟨oc_echelon, od_echelon, .func (PySem.W.fnOf "echelon" "echelon" (defArgs s_echelon) (defBody s_echelon) (defScope s_echelon) .none kV_echelon dc_echelon pm_echelon an_echelon cd_echelon ct_echelon), sl_echelon⟩) (c_echelon : PySem.W.codeIn K cd_echelon "echelon" = true) (k_echelon : PySem.W.keepIn K (.ref f_echelon) = true)
    (a__law_rank : PySem.W.nsIn K mainGlobals "_law_rank" = some (some (.ref f__law_rank))) (l__law_rank : K.lookup f__law_rank = some ⟨oc__law_rank, od__law_rank, .func (PySem.W.fnOf "_law_rank" "_law_rank" (defArgs s__law_rank) (defBody s__law_rank) (defScope s__law_rank) .none kV__law_rank dc__law_rank pm__law_rank an__law_rank cd__law_rank ct__law_rank), sl__law_rank⟩) (c__law_rank : PySem.W.codeIn K cd__law_rank "_law_rank" = true) (k__law_rank : PySem.W.keepIn K (.ref f__law_rank) = true)
    (a__law_is_int : PySem.W.nsIn K mainGlobals "_law_is_int" = some (some (.ref f__law_is_int))) (l__law_is_int : K.lookup f__law_is_int = some ⟨oc__law_is_int, od__law_is_int, .func (PySem.W.fnOf "_law_is_int" "_law_is_int" (defArgs s__law_is_int) (defBody s__law_is_int) (defScope s__law_is_int) .none kV__law_is_int dc__law_is_int pm__law_is_int an__law_is_int cd__law_is_int ct__law_is_int), sl__law_is_int⟩) (c__law_is_int : PySem.W.codeIn K cd__law_is_int "_law_is_int" = true) (k__law_is_int : PySem.W.keepIn K (.ref f__law_is_int) = true)
    (a__law_is_vector : PySem.W.nsIn K mainGlobals "_law_is_vector" = some (some (.ref f__law_is_vector))) (l__law_is_vector : K.lookup f__law_is_vector = some ⟨oc__law_is_vector, od__law_is_vector, .func (PySem.W.fnOf "_law_is_vector" "_law_is_vector" (defArgs s__law_is_vector) (defBody s__law_is_vector) (defScope s__law_is_vector) .none kV__law_is_vector dc__law_is_vector pm__law_is_vector an__law_is_vector cd__law_is_vector ct__law_is_vector), sl__law_is_vector⟩) (c__law_is_vector : PySem.W.codeIn K cd__law_is_vector "_law_is_vector" = true) (k__law_is_vector : PySem.W.keepIn K (.ref f__law_is_vector) = true)
    (a_pivot_of : PySem.W.nsIn K mainGlobals "pivot_of" = some (some (.ref f_pivot_of))) (l_pivot_of : K.lookup f_pivot_of = some ⟨oc_pivot_of, od_pivot_of, .func (PySem.W.fnOf "pivot_of" "pivot_of" (defArgs s_pivot_of) (defBody s_pivot_of) (defScope s_pivot_of) .none kV_pivot_of dc_pivot_of pm_pivot_of an_pivot_of cd_pivot_of ct_pivot_of), sl_pivot_of⟩) (c_pivot_of : PySem.W.codeIn K cd_pivot_of "pivot_of" = true) (k_pivot_of : PySem.W.keepIn K (.ref f_pivot_of) = true)
    (a_fraction : PySem.W.nsIn K mainGlobals "fraction" = some (some (.ref f_fraction))) (l_fraction : K.lookup f_fraction = some ⟨oc_fraction, od_fraction, .func (PySem.W.fnOf "fraction" "fraction" (defArgs s_fraction) (defBody s_fraction) (defScope s_fraction) .none kV_fraction dc_fraction pm_fraction an_fraction cd_fraction ct_fraction), sl_fraction⟩) (c_fraction : PySem.W.codeIn K cd_fraction "fraction" = true) (k_fraction : PySem.W.keepIn K (.ref f_fraction) = true)
    (a_solve : PySem.W.nsIn K mainGlobals "solve" = some (some (.ref f_solve))) (l_solve : K.lookup f_solve = some ⟨oc_solve, od_solve, .func (PySem.W.fnOf "solve" "solve" (defArgs s_solve) (defBody s_solve) (defScope s_solve) .none kV_solve dc_solve pm_solve an_solve cd_solve ct_solve), sl_solve⟩) (c_solve : PySem.W.codeIn K cd_solve "solve" = true) (k_solve : PySem.W.keepIn K (.ref f_solve) = true)
    (a__law_frac : PySem.W.nsIn K mainGlobals "_law_frac" = some (some (.ref f__law_frac))) (l__law_frac : K.lookup f__law_frac = some ⟨oc__law_frac, od__law_frac, .func (PySem.W.fnOf "_law_frac" "_law_frac" (defArgs s__law_frac) (defBody s__law_frac) (defScope s__law_frac) .none kV__law_frac dc__law_frac pm__law_frac an__law_frac cd__law_frac ct__law_frac), sl__law_frac⟩) (c__law_frac : PySem.W.codeIn K cd__law_frac "_law_frac" = true) (k__law_frac : PySem.W.keepIn K (.ref f__law_frac) = true)
    (a__law_dot : PySem.W.nsIn K mainGlobals "_law_dot" = some (some (.ref f__law_dot))) (l__law_dot : K.lookup f__law_dot = some ⟨oc__law_dot, od__law_dot, .func (PySem.W.fnOf "_law_dot" "_law_dot" (defArgs s__law_dot) (defBody s__law_dot) (defScope s__law_dot) .none kV__law_dot dc__law_dot pm__law_dot an__law_dot cd__law_dot ct__law_dot), sl__law_dot⟩) (c__law_dot : PySem.W.codeIn K cd__law_dot "_law_dot" = true) (k__law_dot : PySem.W.keepIn K (.ref f__law_dot) = true)
    (a__law_add : PySem.W.nsIn K mainGlobals "_law_add" = some (some (.ref f__law_add))) (l__law_add : K.lookup f__law_add = some ⟨oc__law_add, od__law_add, .func (PySem.W.fnOf "_law_add" "_law_add" (defArgs s__law_add) (defBody s__law_add) (defScope s__law_add) .none kV__law_add dc__law_add pm__law_add an__law_add cd__law_add ct__law_add), sl__law_add⟩) (c__law_add : PySem.W.codeIn K cd__law_add "_law_add" = true) (k__law_add : PySem.W.keepIn K (.ref f__law_add) = true)
    (a__law_mul : PySem.W.nsIn K mainGlobals "_law_mul" = some (some (.ref f__law_mul))) (l__law_mul : K.lookup f__law_mul = some ⟨oc__law_mul, od__law_mul, .func (PySem.W.fnOf "_law_mul" "_law_mul" (defArgs s__law_mul) (defBody s__law_mul) (defScope s__law_mul) .none kV__law_mul dc__law_mul pm__law_mul an__law_mul cd__law_mul ct__law_mul), sl__law_mul⟩) (c__law_mul : PySem.W.codeIn K cd__law_mul "_law_mul" = true) (k__law_mul : PySem.W.keepIn K (.ref f__law_mul) = true)
    (a_law : PySem.W.nsIn K mainGlobals "law" = some (some (.ref f_law))) (l_law : K.lookup f_law = some ⟨oc_law, od_law, .func (PySem.W.fnOf "law" "law" (defArgs s_law) (defBody s_law) (defScope s_law) .none kV_law dc_law pm_law an_law cd_law ct_law), sl_law⟩) (c_law : PySem.W.codeIn K cd_law "law" = true) (k_law : PySem.W.keepIn K (.ref f_law) = true)
    (z_len : PySem.W.nsIn K mainGlobals "len" = some none) (z_range : PySem.W.nsIn K mainGlobals "range" = some none) (z_int : PySem.W.nsIn K mainGlobals "int" = some none) (z_list : PySem.W.nsIn K mainGlobals "list" = some none) (z_tuple : PySem.W.nsIn K mainGlobals "tuple" = some none) (z_bool : PySem.W.nsIn K mainGlobals "bool" = some none) (z_isinstance : PySem.W.nsIn K mainGlobals "isinstance" = some none) (z_abs : PySem.W.nsIn K mainGlobals "abs" = some none) (z_sum : PySem.W.nsIn K mainGlobals "sum" = some none) (z_zip : PySem.W.nsIn K mainGlobals "zip" = some none) (z_str : PySem.W.nsIn K mainGlobals "str" = some none) (z_enumerate : PySem.W.nsIn K mainGlobals "enumerate" = some none)
    (z_gcd : PySem.W.nsIn K mainGlobals "gcd" = some (some (.builtin "math.gcd")))
    : ∃ fd : FuncData, (∀ (s : Shared) (v : Value), BindsTo s fd ⟨[v], []⟩ [("script", v)]) ∧ ∀ base : Heap, K.In base → base.Ns mainGlobals mg → FnOk l.prog w K mg base CX0 6 fa fd ["script"] (spLaw K) := by
  have e := hfa.symm.trans (PySem.W.mg_of X G a_law)
  cases e
  have F__law_gcd := fun_mk (st := s__law_gcd) l__law_gcd c__law_gcd k__law_gcd
  have b__law_gcd := F__law_gcd.binds (ps := ["a", "b"]) fun _ _ _ _ _ _ us hl => match us, hl with | [_, _], _ => rfl
  have F__law_spread := fun_mk (st := s__law_spread) l__law_spread c__law_spread k__law_spread
  have b__law_spread := F__law_spread.binds (ps := ["cell"]) fun _ _ _ _ _ _ us hl => match us, hl with | [_], _ => rfl
  have F__law_draw := fun_mk (st := s__law_draw) l__law_draw c__law_draw k__law_draw
  have b__law_draw := F__law_draw.binds (ps := ["pool", "many"]) fun _ _ _ _ _ _ us hl => match us, hl with | [_, _], _ => rfl
  have F__law_pool := fun_mk (st := s__law_pool) l__law_pool c__law_pool k__law_pool
  have b__law_pool := F__law_pool.binds (ps := ["script"]) fun _ _ _ _ _ _ us hl => match us, hl with | [_], _ => rfl
  have F__law_matrix := fun_mk (st := s__law_matrix) l__law_matrix c__law_matrix k__law_matrix
  have b__law_matrix := F__law_matrix.binds (ps := ["pool", "many", "size"]) fun _ _ _ _ _ _ us hl => match us, hl with | [_, _, _], _ => rfl
  have F_common_divisor := fun_mk (st := s_common_divisor) l_common_divisor c_common_divisor k_common_divisor
  have b_common_divisor := F_common_divisor.binds (ps := ["v"]) fun _ _ _ _ _ _ us hl => match us, hl with | [_], _ => rfl
  have F_primitive := fun_mk (st := s_primitive) l_primitive c_primitive k_primitive
  have b_primitive := F_primitive.binds (ps := ["v"]) fun _ _ _ _ _ _ us hl => match us, hl with | [_], _ => rfl
  have F_first_with_entry := fun_mk (st := s_first_with_entry) l_first_with_entry c_first_with_entry k_first_with_entry
  have b_first_with_entry := F_first_with_entry.binds (ps := ["rows", "column", "start"]) fun _ _ _ _ _ _ us hl => match us, hl with | [_, _, _], _ => rfl
  have F_with_positive_entry := fun_mk (st := s_with_positive_entry) l_with_positive_entry c_with_positive_entry k_with_positive_entry
  have b_with_positive_entry := F_with_positive_entry.binds (ps := ["row", "column"]) fun _ _ _ _ _ _ us hl => match us, hl with | [_, _], _ => rfl
  have F_cleared := fun_mk (st := s_cleared) l_cleared c_cleared k_cleared
  have b_cleared := F_cleared.binds (ps := ["row", "lead", "column"]) fun _ _ _ _ _ _ us hl => match us, hl with | [_, _, _], _ => rfl
  have F_echelon := fun_mk (st := s_echelon) l_echelon c_echelon k_echelon
  have b_echelon := F_echelon.binds (ps := ["rows"]) fun _ _ _ _ _ _ us hl => match us, hl with | [_], _ => rfl
  have F__law_rank := fun_mk (st := s__law_rank) l__law_rank c__law_rank k__law_rank
  have b__law_rank := F__law_rank.binds (ps := ["rows"]) fun _ _ _ _ _ _ us hl => match us, hl with | [_], _ => rfl
  have F__law_is_int := fun_mk (st := s__law_is_int) l__law_is_int c__law_is_int k__law_is_int
  have b__law_is_int := F__law_is_int.binds (ps := ["a"]) fun _ _ _ _ _ _ us hl => match us, hl with | [_], _ => rfl
  have F__law_is_vector := fun_mk (st := s__law_is_vector) l__law_is_vector c__law_is_vector k__law_is_vector
  have b__law_is_vector := F__law_is_vector.binds (ps := ["size", "value"]) fun _ _ _ _ _ _ us hl => match us, hl with | [_, _], _ => rfl
  have F_pivot_of := fun_mk (st := s_pivot_of) l_pivot_of c_pivot_of k_pivot_of
  have b_pivot_of := F_pivot_of.binds (ps := ["row"]) fun _ _ _ _ _ _ us hl => match us, hl with | [_], _ => rfl
  have F_fraction := fun_mk (st := s_fraction) l_fraction c_fraction k_fraction
  have b_fraction := F_fraction.binds (ps := ["a", "b"]) fun _ _ _ _ _ _ us hl => match us, hl with | [_, _], _ => rfl
  have F_solve := fun_mk (st := s_solve) l_solve c_solve k_solve
  have b_solve := F_solve.binds (ps := ["rows", "right"]) fun _ _ _ _ _ _ us hl => match us, hl with | [_, _], _ => rfl
  have F__law_frac := fun_mk (st := s__law_frac) l__law_frac c__law_frac k__law_frac
  have b__law_frac := F__law_frac.binds (ps := ["a", "b"]) fun _ _ _ _ _ _ us hl => match us, hl with | [_, _], _ => rfl
  have F__law_dot := fun_mk (st := s__law_dot) l__law_dot c__law_dot k__law_dot
  have b__law_dot := F__law_dot.binds (ps := ["v", "w"]) fun _ _ _ _ _ _ us hl => match us, hl with | [_, _], _ => rfl
  have F__law_add := fun_mk (st := s__law_add) l__law_add c__law_add k__law_add
  have b__law_add := F__law_add.binds (ps := ["x", "y"]) fun _ _ _ _ _ _ us hl => match us, hl with | [_, _], _ => rfl
  have F__law_mul := fun_mk (st := s__law_mul) l__law_mul c__law_mul k__law_mul
  have b__law_mul := F__law_mul.binds (ps := ["x", "y"]) fun _ _ _ _ _ _ us hl => match us, hl with | [_, _], _ => rfl
  have F_law := fun_mk (st := s_law) l_law c_law k_law
  have Z : Glb mg := ⟨PySem.W.mg_none_of X G z_len, PySem.W.mg_none_of X G z_range, PySem.W.mg_none_of X G z_int, PySem.W.mg_none_of X G z_list, PySem.W.mg_none_of X G z_tuple, PySem.W.mg_none_of X G z_bool, PySem.W.mg_none_of X G z_isinstance, PySem.W.mg_none_of X G z_abs, PySem.W.mg_none_of X G z_sum, PySem.W.mg_none_of X G z_zip, PySem.W.mg_none_of X G z_str, PySem.W.mg_none_of X G z_enumerate, PySem.W.mg_of X G z_gcd⟩
  refine ⟨PySem.W.fnOf "law" "law" (defArgs s_law) (defBody s_law) (defScope s_law) .none kV_law dc_law pm_law an_law cd_law ct_law, fun s v => .of_eq rfl, fun base _ _ => ?_⟩
  have S__law_pool_5 : FnOk l.prog w K mg base CX0 5 f__law_pool _ ["script"] (spPool K) := ok_pool (k := 4) F__law_pool Z 
  have C__law_pool_5 : Call l.prog w K mg base 5 "_law_pool" ["script"] (spPool K) := ⟨f__law_pool, _, S__law_pool_5, PySem.W.mg_of X G a__law_pool, F__law_pool.kp, b__law_pool⟩
  have S__law_spread_4 : FnOk l.prog w K mg base CX0 4 f__law_spread _ ["cell"] spSpread := ok_spread (k := 3) F__law_spread Z 
  have C__law_spread_4 : Call l.prog w K mg base 4 "_law_spread" ["cell"] spSpread := ⟨f__law_spread, _, S__law_spread_4, PySem.W.mg_of X G a__law_spread, F__law_spread.kp, b__law_spread⟩
  have S__law_draw_5 : FnOk l.prog w K mg base CX0 5 f__law_draw _ ["pool", "many"] spDraw := ok_draw (k := 4) F__law_draw Z  C__law_spread_4
  have C__law_draw_5 : Call l.prog w K mg base 5 "_law_draw" ["pool", "many"] spDraw := ⟨f__law_draw, _, S__law_draw_5, PySem.W.mg_of X G a__law_draw, F__law_draw.kp, b__law_draw⟩
  have S__law_spread_3 : FnOk l.prog w K mg base CX0 3 f__law_spread _ ["cell"] spSpread := ok_spread (k := 2) F__law_spread Z 
  have C__law_spread_3 : Call l.prog w K mg base 3 "_law_spread" ["cell"] spSpread := ⟨f__law_spread, _, S__law_spread_3, PySem.W.mg_of X G a__law_spread, F__law_spread.kp, b__law_spread⟩
  have S__law_draw_4 : FnOk l.prog w K mg base CX0 4 f__law_draw _ ["pool", "many"] spDraw := ok_draw (k := 3) F__law_draw Z  C__law_spread_3
  have C__law_draw_4 : Call l.prog w K mg base 4 "_law_draw" ["pool", "many"] spDraw := ⟨f__law_draw, _, S__law_draw_4, PySem.W.mg_of X G a__law_draw, F__law_draw.kp, b__law_draw⟩
  have S__law_matrix_5 : FnOk l.prog w K mg base CX0 5 f__law_matrix _ ["pool", "many", "size"] spMatrix := ok_matrix (k := 4) F__law_matrix Z  C__law_draw_4
  have C__law_matrix_5 : Call l.prog w K mg base 5 "_law_matrix" ["pool", "many", "size"] spMatrix := ⟨f__law_matrix, _, S__law_matrix_5, PySem.W.mg_of X G a__law_matrix, F__law_matrix.kp, b__law_matrix⟩
  have S__law_rank_5 : FnOk l.prog w K mg base CX0 5 f__law_rank _ ["rows"] spLRank := ok_lrank (k := 4) F__law_rank Z 
  have C__law_rank_5 : Call l.prog w K mg base 5 "_law_rank" ["rows"] spLRank := ⟨f__law_rank, _, S__law_rank_5, PySem.W.mg_of X G a__law_rank, F__law_rank.kp, b__law_rank⟩
  have S__law_is_int_4 : FnOk l.prog w K mg base CX0 4 f__law_is_int _ ["a"] (spIsI K "a") := ok_lint (k := 3) F__law_is_int Z 
  have C__law_is_int_4 : Call l.prog w K mg base 4 "_law_is_int" ["a"] (spIsI K "a") := ⟨f__law_is_int, _, S__law_is_int_4, PySem.W.mg_of X G a__law_is_int, F__law_is_int.kp, b__law_is_int⟩
  have S__law_is_vector_5 : FnOk l.prog w K mg base CX0 5 f__law_is_vector _ ["size", "value"] (spIsVec "size" "value") := ok_lvec (k := 4) F__law_is_vector Z  C__law_is_int_4
  have C__law_is_vector_5 : Call l.prog w K mg base 5 "_law_is_vector" ["size", "value"] (spIsVec "size" "value") := ⟨f__law_is_vector, _, S__law_is_vector_5, PySem.W.mg_of X G a__law_is_vector, F__law_is_vector.kp, b__law_is_vector⟩
  have S__law_gcd_4 : FnOk l.prog w K mg base CX0 4 f__law_gcd _ ["a", "b"] spGcd := ok_gcd (k := 3) F__law_gcd Z 
  have C__law_gcd_4 : Call l.prog w K mg base 4 "_law_gcd" ["a", "b"] spGcd := ⟨f__law_gcd, _, S__law_gcd_4, PySem.W.mg_of X G a__law_gcd, F__law_gcd.kp, b__law_gcd⟩
  have S__law_frac_5 : FnOk l.prog w K mg base CX0 5 f__law_frac _ ["a", "b"] spFrW := ok_lfracW (k := 4) F__law_frac Z  C__law_gcd_4
  have C__law_frac_5 : Call l.prog w K mg base 5 "_law_frac" ["a", "b"] spFrW := ⟨f__law_frac, _, S__law_frac_5, PySem.W.mg_of X G a__law_frac, F__law_frac.kp, b__law_frac⟩
  have S__law_dot_5 : FnOk l.prog w K mg base CX0 5 f__law_dot _ ["v", "w"] spDotL := ok_ldot (k := 4) F__law_dot Z 
  have C__law_dot_5 : Call l.prog w K mg base 5 "_law_dot" ["v", "w"] spDotL := ⟨f__law_dot, _, S__law_dot_5, PySem.W.mg_of X G a__law_dot, F__law_dot.kp, b__law_dot⟩
  have S__law_gcd_3 : FnOk l.prog w K mg base CX0 3 f__law_gcd _ ["a", "b"] spGcd := ok_gcd (k := 2) F__law_gcd Z 
  have C__law_gcd_3 : Call l.prog w K mg base 3 "_law_gcd" ["a", "b"] spGcd := ⟨f__law_gcd, _, S__law_gcd_3, PySem.W.mg_of X G a__law_gcd, F__law_gcd.kp, b__law_gcd⟩
  have S__law_frac_4 : FnOk l.prog w K mg base CX0 4 f__law_frac _ ["a", "b"] spFrW := ok_lfracW (k := 3) F__law_frac Z  C__law_gcd_3
  have C__law_frac_4 : Call l.prog w K mg base 4 "_law_frac" ["a", "b"] spFrW := ⟨f__law_frac, _, S__law_frac_4, PySem.W.mg_of X G a__law_frac, F__law_frac.kp, b__law_frac⟩
  have S__law_add_5 : FnOk l.prog w K mg base CX0 5 f__law_add _ ["x", "y"] (spTwoW fun a b c d => (a * d + c * b, b * d)) := ok_laddW (k := 4) F__law_add Z  C__law_frac_4
  have C__law_add_5 : Call l.prog w K mg base 5 "_law_add" ["x", "y"] (spTwoW fun a b c d => (a * d + c * b, b * d)) := ⟨f__law_add, _, S__law_add_5, PySem.W.mg_of X G a__law_add, F__law_add.kp, b__law_add⟩
  have S__law_mul_5 : FnOk l.prog w K mg base CX0 5 f__law_mul _ ["x", "y"] (spTwoW fun a b c d => (a * c, b * d)) := ok_lmulW (k := 4) F__law_mul Z  C__law_frac_4
  have C__law_mul_5 : Call l.prog w K mg base 5 "_law_mul" ["x", "y"] (spTwoW fun a b c d => (a * c, b * d)) := ⟨f__law_mul, _, S__law_mul_5, PySem.W.mg_of X G a__law_mul, F__law_mul.kp, b__law_mul⟩
  have S_common_divisor_2 : FnOk l.prog w K mg base CX0 2 f_common_divisor _ ["v"] spCdK := ok_cdK (k := 1) F_common_divisor Z 
  have C_common_divisor_2 : Call l.prog w K mg base 2 "common_divisor" ["v"] spCdK := ⟨f_common_divisor, _, S_common_divisor_2, PySem.W.mg_of X G a_common_divisor, F_common_divisor.kp, b_common_divisor⟩
  have S_primitive_3 : FnOk l.prog w K mg base CX0 3 f_primitive _ ["v"] spPrimL := ok_primK (k := 2) F_primitive Z  C_common_divisor_2
  have C_primitive_3 : Call l.prog w K mg base 3 "primitive" ["v"] spPrimL := ⟨f_primitive, _, S_primitive_3, PySem.W.mg_of X G a_primitive, F_primitive.kp, b_primitive⟩
  have S_first_with_entry_3 : FnOk l.prog w K mg base CX0 3 f_first_with_entry _ ["rows", "column", "start"] spFirst := ok_first (k := 2) F_first_with_entry Z 
  have C_first_with_entry_3 : Call l.prog w K mg base 3 "first_with_entry" ["rows", "column", "start"] spFirst := ⟨f_first_with_entry, _, S_first_with_entry_3, PySem.W.mg_of X G a_first_with_entry, F_first_with_entry.kp, b_first_with_entry⟩
  have S_with_positive_entry_3 : FnOk l.prog w K mg base CX0 3 f_with_positive_entry _ ["row", "column"] spWpos := ok_wpos (k := 2) F_with_positive_entry Z 
  have C_with_positive_entry_3 : Call l.prog w K mg base 3 "with_positive_entry" ["row", "column"] spWpos := ⟨f_with_positive_entry, _, S_with_positive_entry_3, PySem.W.mg_of X G a_with_positive_entry, F_with_positive_entry.kp, b_with_positive_entry⟩
  have S_common_divisor_1 : FnOk l.prog w K mg base CX0 1 f_common_divisor _ ["v"] spCdK := ok_cdK (k := 0) F_common_divisor Z 
  have C_common_divisor_1 : Call l.prog w K mg base 1 "common_divisor" ["v"] spCdK := ⟨f_common_divisor, _, S_common_divisor_1, PySem.W.mg_of X G a_common_divisor, F_common_divisor.kp, b_common_divisor⟩
  have S_primitive_2 : FnOk l.prog w K mg base CX0 2 f_primitive _ ["v"] spPrimL := ok_primK (k := 1) F_primitive Z  C_common_divisor_1
  have C_primitive_2 : Call l.prog w K mg base 2 "primitive" ["v"] spPrimL := ⟨f_primitive, _, S_primitive_2, PySem.W.mg_of X G a_primitive, F_primitive.kp, b_primitive⟩
  have S_cleared_3 : FnOk l.prog w K mg base CX0 3 f_cleared _ ["row", "lead", "column"] spClr := ok_clr (k := 2) F_cleared Z  C_primitive_2
  have C_cleared_3 : Call l.prog w K mg base 3 "cleared" ["row", "lead", "column"] spClr := ⟨f_cleared, _, S_cleared_3, PySem.W.mg_of X G a_cleared, F_cleared.kp, b_cleared⟩
  have S_echelon_4 : FnOk l.prog w K mg base CX0 4 f_echelon _ ["rows"] spEch := ok_ech (k := 3) F_echelon Z  C_primitive_3 C_first_with_entry_3 C_with_positive_entry_3 C_cleared_3
  have C_echelon_4 : Call l.prog w K mg base 4 "echelon" ["rows"] spEch := ⟨f_echelon, _, S_echelon_4, PySem.W.mg_of X G a_echelon, F_echelon.kp, b_echelon⟩
  have S_pivot_of_4 : FnOk l.prog w K mg base CX0 4 f_pivot_of _ ["row"] spPivot := ok_pivot (k := 3) F_pivot_of Z 
  have C_pivot_of_4 : Call l.prog w K mg base 4 "pivot_of" ["row"] spPivot := ⟨f_pivot_of, _, S_pivot_of_4, PySem.W.mg_of X G a_pivot_of, F_pivot_of.kp, b_pivot_of⟩
  have S_fraction_4 : FnOk l.prog w K mg base CX0 4 f_fraction _ ["a", "b"] spFr := ok_frac (k := 3) F_fraction Z 
  have C_fraction_4 : Call l.prog w K mg base 4 "fraction" ["a", "b"] spFr := ⟨f_fraction, _, S_fraction_4, PySem.W.mg_of X G a_fraction, F_fraction.kp, b_fraction⟩
  have S_solve_5 : FnOk l.prog w K mg base CX0 5 f_solve _ ["rows", "right"] spSolve := ok_solve (k := 4) F_solve Z  C_echelon_4 C_pivot_of_4 C_fraction_4
  have C_solve_5 : Call l.prog w K mg base 5 "solve" ["rows", "right"] spSolve := ⟨f_solve, _, S_solve_5, PySem.W.mg_of X G a_solve, F_solve.kp, b_solve⟩
  exact ok_law (P := l.prog) (w := w) (base := base) (k := 5) F_law Z  C__law_pool_5 C__law_draw_5 C__law_matrix_5 C__law_rank_5 C__law_is_vector_5 C__law_frac_5 C__law_dot_5 C__law_add_5 C__law_mul_5 C_solve_5
end HwP
open PySem PySem.W PyProof.Rows
set_option maxHeartbeats 0 in
theorem PySem.Challenge.cw_hullwright_k07_linear_equations_holds : PySem.Challenge.rw_hullwright_k07_linear_equations.Holds := by
  w_on; o_law; k_head; (case hw => w_witness2)
  k_fill
  refine L2.walk_of (l := PySem.Challenge.rw_hullwright_k07_linear_equations) (n := 63) (k := 6) (x := "script") (CX := fun _ => L2.CX0) (sp := fun w => HwP.spLaw _) rfl (by decide) rfl ⟨rfl, by decide, by decide⟩ (fun w h Y => PySem.W.kIn_of Y) ?F (fun _ _ a ns hl _ hS => ⟨a, ns, rfl, hS, fun _ => rfl⟩) (fun _ _ _ _ _ h => h)
  case F =>
    intro w mg fa h KX G hmg
    refine' HwP.all_mk KX G hmg (a__law_gcd := ?a__law_gcd) (l__law_gcd := ?l__law_gcd) (c__law_gcd := ?c__law_gcd) (k__law_gcd := ?k__law_gcd) (a__law_spread := ?a__law_spread) (l__law_spread := ?l__law_spread) (c__law_spread := ?c__law_spread) (k__law_spread := ?k__law_spread) (a__law_draw := ?a__law_draw) (l__law_draw := ?l__law_draw) (c__law_draw := ?c__law_draw) (k__law_draw := ?k__law_draw) (a__law_pool := ?a__law_pool) (l__law_pool := ?l__law_pool) (c__law_pool := ?c__law_pool) (k__law_pool := ?k__law_pool) (a__law_matrix := ?a__law_matrix) (l__law_matrix := ?l__law_matrix) (c__law_matrix := ?c__law_matrix) (k__law_matrix := ?k__law_matrix) (a_common_divisor := ?a_common_divisor) (l_common_divisor := ?l_common_divisor) (c_common_divisor := ?c_common_divisor) (k_common_divisor := ?k_common_divisor) (a_primitive := ?a_primitive) (l_primitive := ?l_primitive) (c_primitive := ?c_primitive) (k_primitive := ?k_primitive) (a_first_with_entry := ?a_first_with_entry) (l_first_with_entry := ?l_first_with_entry) (c_first_with_entry := ?c_first_with_entry) (k_first_with_entry := ?k_first_with_entry) (a_with_positive_entry := ?a_with_positive_entry) (l_with_positive_entry := ?l_with_positive_entry) (c_with_positive_entry := ?c_with_positive_entry) (k_with_positive_entry := ?k_with_positive_entry) (a_cleared := ?a_cleared) (l_cleared := ?l_cleared) (c_cleared := ?c_cleared) (k_cleared := ?k_cleared) (a_echelon := ?a_echelon) (l_echelon := ?l_echelon) (c_echelon := ?c_echelon) (k_echelon := ?k_echelon) (a__law_rank := ?a__law_rank) (l__law_rank := ?l__law_rank) (c__law_rank := ?c__law_rank) (k__law_rank := ?k__law_rank) (a__law_is_int := ?a__law_is_int) (l__law_is_int := ?l__law_is_int) (c__law_is_int := ?c__law_is_int) (k__law_is_int := ?k__law_is_int) (a__law_is_vector := ?a__law_is_vector) (l__law_is_vector := ?l__law_is_vector) (c__law_is_vector := ?c__law_is_vector) (k__law_is_vector := ?k__law_is_vector) (a_pivot_of := ?a_pivot_of) (l_pivot_of := ?l_pivot_of) (c_pivot_of := ?c_pivot_of) (k_pivot_of := ?k_pivot_of) (a_fraction := ?a_fraction) (l_fraction := ?l_fraction) (c_fraction := ?c_fraction) (k_fraction := ?k_fraction) (a_solve := ?a_solve) (l_solve := ?l_solve) (c_solve := ?c_solve) (k_solve := ?k_solve) (a__law_frac := ?a__law_frac) (l__law_frac := ?l__law_frac) (c__law_frac := ?c__law_frac) (k__law_frac := ?k__law_frac) (a__law_dot := ?a__law_dot) (l__law_dot := ?l__law_dot) (c__law_dot := ?c__law_dot) (k__law_dot := ?k__law_dot) (a__law_add := ?a__law_add) (l__law_add := ?l__law_add) (c__law_add := ?c__law_add) (k__law_add := ?k__law_add) (a__law_mul := ?a__law_mul) (l__law_mul := ?l__law_mul) (c__law_mul := ?c__law_mul) (k__law_mul := ?k__law_mul) (a_law := ?a_law) (l_law := ?l_law) (c_law := ?c_law) (k_law := ?k_law) (z_len := ?z_len) (z_range := ?z_range) (z_int := ?z_int) (z_list := ?z_list) (z_tuple := ?z_tuple) (z_bool := ?z_bool) (z_isinstance := ?z_isinstance) (z_abs := ?z_abs) (z_sum := ?z_sum) (z_zip := ?z_zip) (z_str := ?z_str) (z_enumerate := ?z_enumerate) (z_gcd := ?z_gcd)
    (case a__law_gcd => k_is)
    (case l__law_gcd => k_is)
    (case c__law_gcd => k_is)
    (case k__law_gcd => k_is)
    (case a__law_spread => k_is)
    (case l__law_spread => k_is)
    (case c__law_spread => k_is)
    (case k__law_spread => k_is)
    (case a__law_draw => k_is)
    (case l__law_draw => k_is)
    (case c__law_draw => k_is)
    (case k__law_draw => k_is)
    (case a__law_pool => k_is)
    (case l__law_pool => k_is)
    (case c__law_pool => k_is)
    (case k__law_pool => k_is)
    (case a__law_matrix => k_is)
    (case l__law_matrix => k_is)
    (case c__law_matrix => k_is)
    (case k__law_matrix => k_is)
    (case a_common_divisor => k_is)
    (case l_common_divisor => k_is)
    (case c_common_divisor => k_is)
    (case k_common_divisor => k_is)
    (case a_primitive => k_is)
    (case l_primitive => k_is)
    (case c_primitive => k_is)
    (case k_primitive => k_is)
    (case a_first_with_entry => k_is)
    (case l_first_with_entry => k_is)
    (case c_first_with_entry => k_is)
    (case k_first_with_entry => k_is)
    (case a_with_positive_entry => k_is)
    (case l_with_positive_entry => k_is)
    (case c_with_positive_entry => k_is)
    (case k_with_positive_entry => k_is)
    (case a_cleared => k_is)
    (case l_cleared => k_is)
    (case c_cleared => k_is)
    (case k_cleared => k_is)
    (case a_echelon => k_is)
    (case l_echelon => k_is)
    (case c_echelon => k_is)
    (case k_echelon => k_is)
    (case a__law_rank => k_is)
    (case l__law_rank => k_is)
    (case c__law_rank => k_is)
    (case k__law_rank => k_is)
    (case a__law_is_int => k_is)
    (case l__law_is_int => k_is)
    (case c__law_is_int => k_is)
    (case k__law_is_int => k_is)
    (case a__law_is_vector => k_is)
    (case l__law_is_vector => k_is)
    (case c__law_is_vector => k_is)
    (case k__law_is_vector => k_is)
    (case a_pivot_of => k_is)
    (case l_pivot_of => k_is)
    (case c_pivot_of => k_is)
    (case k_pivot_of => k_is)
    (case a_fraction => k_is)
    (case l_fraction => k_is)
    (case c_fraction => k_is)
    (case k_fraction => k_is)
    (case a_solve => k_is)
    (case l_solve => k_is)
    (case c_solve => k_is)
    (case k_solve => k_is)
    (case a__law_frac => k_is)
    (case l__law_frac => k_is)
    (case c__law_frac => k_is)
    (case k__law_frac => k_is)
    (case a__law_dot => k_is)
    (case l__law_dot => k_is)
    (case c__law_dot => k_is)
    (case k__law_dot => k_is)
    (case a__law_add => k_is)
    (case l__law_add => k_is)
    (case c__law_add => k_is)
    (case k__law_add => k_is)
    (case a__law_mul => k_is)
    (case l__law_mul => k_is)
    (case c__law_mul => k_is)
    (case k__law_mul => k_is)
    (case a_law => k_is)
    (case l_law => k_is)
    (case c_law => k_is)
    (case k_law => k_is)
    (case z_len => k_is)
    (case z_range => k_is)
    (case z_int => k_is)
    (case z_list => k_is)
    (case z_tuple => k_is)
    (case z_bool => k_is)
    (case z_isinstance => k_is)
    (case z_abs => k_is)
    (case z_sum => k_is)
    (case z_zip => k_is)
    (case z_str => k_is)
    (case z_enumerate => k_is)
    (case z_gcd => k_is)

