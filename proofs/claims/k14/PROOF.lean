import PyProof.Rows.All
import Wide.All
import OpenK.AllK
import Wide.FinOn
import HandS.ForMost
import HandS.Wide
import HandS.Gcd
import HandS.IsInst
import HandS.Codes
import HandS.Zip
import HandS.Walk
import PyProof.WalksMore
import PyProof.ConsumeWalk
import PyProof.JoinWalk
import KE.GoesMore
import KE.GoesEnum
import KE.GoesZip
import HandS.TupMul
import HandS.Conv
import HandS.WideBits
import HandS.TupAny
import HandS.Exc
import HandS.TryOnly
import HandS.ExcOwn
import HandS.WordsExc
import HandS.ExcIs
import HandS.Text
import HandS.Rev
import HandS.RevTup
import HandS.AnyAll
import HandS.Deep
import HandS.TupSets
import HandS.DictTup
import HandS.TupLen
import KE.SortData
import KE.GoesComp
import KE.GoesEnum
import KE.DataFind
import HandS.EndTab
import KE.KDictDisplayH
import KE.DataMinMax
import KE.SortData
import KE.KDictSum
import KE.KDictCopyH
import PySem.Challenge.RW_hullwright_k14_what_follows
set_option Elab.async false
set_option linter.all false
set_option maxRecDepth 100000
set_option maxHeartbeats 4000000

namespace Hw
/-- Euclid's loop, by its turn -/
def Fit (i A B : Nat) : Prop := (i = 0 ∧ A * B < 2 ^ 598) ∨ (1 ≤ i ∧ B < A ∧ A * B * 2 ^ (i - 1) < 2 ^ 598)
theorem fit0 {A B : Nat} (ha : A < 2 ^ 299) (hb : B < 2 ^ 299) : Fit 0 A B := by
  refine .inl ⟨rfl, ?_⟩
  have h : A * B < 2 ^ 299 * 2 ^ 299 := Nat.mul_lt_mul'' ha hb
  rwa [← Nat.pow_add] at h
theorem fit_step {i A B : Nat} (h : Fit i A B) (hb : B ≠ 0) : Fit (i + 1) B (A % B) := by
  have hr : A % B < B := Nat.mod_lt _ (Nat.pos_of_ne_zero hb)
  refine .inr ⟨by omega, hr, ?_⟩
  rcases h with ⟨rfl, h⟩ | ⟨hi, hlt, h⟩
  · have h1 : B * (A % B) ≤ B * A := Nat.mul_le_mul_left _ (Nat.mod_le _ _)
    rw [Nat.mul_comm B A] at h1
    show B * (A % B) * 2 ^ 0 < 2 ^ 598
    rw [Nat.pow_zero, Nat.mul_one]
    omega
  · obtain ⟨j, rfl⟩ : ∃ j, i = j + 1 := ⟨i - 1, by omega⟩
    show B * (A % B) * 2 ^ (j + 1) < 2 ^ 598
    have h2 : 2 * (A % B) ≤ A := by
      have e : B * (A / B) + A % B = A := Nat.div_add_mod A B
      have q : 1 ≤ A / B := Nat.div_pos (Nat.le_of_lt hlt) (Nat.pos_of_ne_zero hb)
      have m : B * 1 ≤ B * (A / B) := Nat.mul_le_mul_left _ q
      omega
    have h3 : B * (2 * (A % B)) ≤ B * A := Nat.mul_le_mul_left _ h2
    have h4 : B * (A % B) * 2 ^ (j + 1) = B * (2 * (A % B)) * 2 ^ j := by
      rw [Nat.pow_succ]
      simp only [Nat.mul_assoc, Nat.mul_left_comm, Nat.mul_comm]
    rw [h4]
    refine Nat.lt_of_le_of_lt (Nat.mul_le_mul_right _ h3) ?_
    rw [Nat.mul_comm B A]
    exact h
theorem fit_end {A B : Nat} (h : Fit 600 A B) : B = 0 := by
  rcases h with ⟨h, _⟩ | ⟨_, hlt, h⟩
  · omega
  · by_cases hb : B = 0
    · exact hb
    · exfalso
      have h1 : 1 ≤ A * B := Nat.mul_pos (by omega) (by omega)
      have h2 : 1 * 2 ^ (600 - 1) ≤ A * B * 2 ^ (600 - 1) := Nat.mul_le_mul_right _ h1
      have h3 : (2 : Nat) ^ 598 < 2 ^ (600 - 1) := Nat.pow_lt_pow_right (by decide) (by decide)
      omega
theorem gcd_turn (A B : Nat) : Nat.gcd B (A % B) = Nat.gcd A B := by
  rw [Nat.gcd_comm B, ← Nat.gcd_rec, Nat.gcd_comm]
/-- the greatest common divisor, an int -/
def g2 (a b : Int) : Int := ((Nat.gcd a.natAbs b.natAbs : Nat) : Int)
theorem g2_pos {a b : Int} (hb : b ≠ 0) : 0 < g2 a b := by
  unfold g2
  have : 0 < Nat.gcd a.natAbs b.natAbs := Nat.gcd_pos_of_pos_right _ (by omega)
  omega
theorem g2_nn0 (a b : Int) : 0 ≤ g2 a b := by
  unfold g2
  omega
theorem g2_le {a b : Int} (hb : b ≠ 0) : (g2 a b).natAbs ≤ b.natAbs := by
  unfold g2
  have : Nat.gcd a.natAbs b.natAbs ≤ b.natAbs := Nat.gcd_le_right _ (by omega)
  omega
/-- a fraction's two entries, b > 0 -/
def frN (a b : Int) : Int := a / g2 a b
def frD (a b : Int) : Int := b / g2 a b
theorem g2_dvd_l (a b : Int) : g2 a b ∣ a := by
  unfold g2
  exact Int.ofNat_dvd_left.mpr (Nat.gcd_dvd_left _ _)
theorem g2_dvd_r (a b : Int) : g2 a b ∣ b := by
  unfold g2
  exact Int.ofNat_dvd_left.mpr (Nat.gcd_dvd_right _ _)
theorem frD_pos {a b : Int} (hb : 0 < b) : 0 < frD a b := by
  have g := g2_pos (a := a) (b := b) (by omega)
  exact Int.ediv_pos_of_pos_of_dvd hb (Int.le_of_lt g) (g2_dvd_r a b)
theorem ediv_abs {a g : Int} (hg : 0 < g) : (a / g).natAbs ≤ a.natAbs := by
  have h1 := Int.mul_ediv_self_le (x := a) (k := g) (by omega)
  have h2 := Int.lt_mul_ediv_self_add (x := a) (k := g) hg
  generalize hq : a / g = q at *
  by_cases c : 0 ≤ q
  · have : 1 * q ≤ g * q := Int.mul_le_mul_of_nonneg_right (by omega) c
    omega
  · have h3 : g * q ≤ g * (-1) + (q + 1) := by
      have : g * (q + 1) ≤ 1 * (q + 1) := Int.mul_le_mul_of_nonpos_right (by omega) (by omega)
      rw [Int.mul_add, Int.mul_one, Int.one_mul] at this
      omega
    omega
theorem frN_abs {a b : Int} (hb : b ≠ 0) : (frN a b).natAbs ≤ a.natAbs := ediv_abs (g2_pos hb)
theorem frD_abs {a b : Int} (hb : b ≠ 0) : (frD a b).natAbs ≤ b.natAbs := ediv_abs (g2_pos hb)
theorem mul_pow {x y : Int} {a b : Nat} (ha : x.natAbs < 2 ^ a) (hb : y.natAbs < 2 ^ b) : (x * y).natAbs < 2 ^ (a + b) := by
  rw [Int.natAbs_mul, Nat.pow_add]
  exact Nat.mul_lt_mul'' ha hb
theorem add_pow {x y : Int} {a : Nat} (ha : x.natAbs < 2 ^ a) (hb : y.natAbs < 2 ^ a) : (x + y).natAbs < 2 ^ (a + 1) := by
  rw [Nat.pow_succ]
  omega
theorem sub_pow {x y : Int} {a : Nat} (ha : x.natAbs < 2 ^ a) (hb : y.natAbs < 2 ^ a) : (x - y).natAbs < 2 ^ (a + 1) := by
  rw [Nat.pow_succ]
  omega
theorem up_pow {x : Nat} {a b : Nat} (h : x < 2 ^ a) (l : a ≤ b) : x < 2 ^ b := Nat.lt_of_lt_of_le h (Nat.pow_le_pow_right (by decide) l)
/-- the sign of an int -/
def sg (a : Int) : Int := if 0 < a then 1 else if a < 0 then -1 else 0
theorem sg_frN {a b : Int} (hb : b ≠ 0) : sg (frN a b) = sg a := by
  have g := g2_pos (a := a) hb
  obtain ⟨c, hc⟩ := g2_dvd_l a b
  have e : frN a b = c := by
    unfold frN
    generalize g2 a b = k at *
    subst hc
    exact Int.mul_ediv_cancel_left _ (by omega)
  rw [e]
  generalize g2 a b = k at *
  subst hc
  unfold sg
  have p1 : 0 < k * c ↔ 0 < c := ⟨fun h => Int.pos_of_mul_pos_right h (by omega), fun h => Int.mul_pos g h⟩
  have p2 : k * c < 0 ↔ c < 0 := by
    constructor
    · intro h
      by_cases q : c < 0
      · exact q
      · have := Int.mul_nonneg (Int.le_of_lt g) (show 0 ≤ c by omega)
        omega
    · intro h
      exact Int.mul_neg_of_pos_of_neg g h
  simp only [p1, p2]
end Hw

/-! ### pivots of a matrix, by the vectors on which all its rows vanish -/
namespace Rk
def sm : Nat → (Nat → Int) → Int
  | 0, _ => 0
  | n + 1, f => sm n f + f n
theorem sm_congr {f g : Nat → Int} : ∀ {n : Nat}, (∀ j, j < n → f j = g j) → sm n f = sm n g
  | 0, _ => rfl
  | n + 1, h => by unfold sm; rw [sm_congr fun j hj => h j (by omega), h n (by omega)]
theorem sm_mul {f : Nat → Int} {c : Int} : ∀ {n : Nat}, sm n (fun j => c * f j) = c * sm n f
  | 0 => by unfold sm; omega
  | n + 1 => by unfold sm; rw [sm_mul, Int.mul_add]
theorem sm_sub {f g : Nat → Int} : ∀ {n : Nat}, sm n (fun j => f j - g j) = sm n f - sm n g
  | 0 => by unfold sm; omega
  | n + 1 => by unfold sm; rw [sm_sub]; dsimp only; omega
theorem sm_add {f g : Nat → Int} : ∀ {n : Nat}, sm n (fun j => f j + g j) = sm n f + sm n g
  | 0 => by unfold sm; omega
  | n + 1 => by unfold sm; rw [sm_add]; dsimp only; omega
theorem sm_zero {f : Nat → Int} : ∀ {n : Nat}, (∀ j, j < n → f j = 0) → sm n f = 0
  | 0, _ => rfl
  | n + 1, h => by unfold sm; rw [sm_zero fun j hj => h j (by omega), h n (by omega)]; rfl
theorem sm_one {f : Nat → Int} {k : Nat} : ∀ {n : Nat}, k < n → (∀ j, j < n → j ≠ k → f j = 0) → sm n f = f k
  | 0, h, _ => by omega
  | n + 1, h, z => by
    unfold sm
    by_cases e : k = n
    · subst e
      rw [sm_zero fun j hj => z j (by omega) (by omega)]
      omega
    · rw [sm_one (k := k) (by omega) fun j hj => z j (by omega), z n (by omega) (by omega)]
      omega
abbrev en (v : List Int) (j : Nat) : Int := v.getD j 0
def dv (w : Nat) (v : List Int) (x : Nat → Int) : Int := sm w fun j => en v j * x j
def Nl (w : Nat) (L : List (List Int)) (x : Nat → Int) : Prop := ∀ v ∈ L, dv w v x = 0
/-- v' is v with the entry at c taken out by l, up to a factor -/
def El (w c : Nat) (l v v' : List Int) : Prop := ∃ a : Int, a ≠ 0 ∧ ∀ j, j < w → a * en v' j = en l c * en v j - en v c * en l j
theorem dv_lin {w : Nat} {u v t : List Int} {a b c : Int} (h : ∀ j, j < w → a * en u j = b * en v j - c * en t j) (x : Nat → Int) : a * dv w u x = b * dv w v x - c * dv w t x := by
  unfold dv
  rw [← sm_mul, ← sm_mul, ← sm_mul, ← sm_sub]
  refine sm_congr fun j hj => ?_
  rw [← Int.mul_assoc, h j hj, Int.sub_mul, Int.mul_assoc, Int.mul_assoc]
theorem El.null {w c : Nat} {l v v' : List Int} {x : Nat → Int} (h : El w c l v v') (hl : en l c ≠ 0) (h0 : dv w l x = 0) : dv w v' x = 0 ↔ dv w v x = 0 := by
  obtain ⟨a, ha, e⟩ := h
  have e1 := dv_lin e x
  rw [h0, Int.mul_zero, Int.sub_zero] at e1
  constructor
  · intro z
    rw [z, Int.mul_zero] at e1
    rcases Int.mul_eq_zero.mp e1.symm with h | h
    · exact absurd h hl
    · exact h
  · intro z
    rw [z, Int.mul_zero] at e1
    rcases Int.mul_eq_zero.mp e1 with h | h
    · exact absurd h ha
    · exact h
theorem El.at {w c : Nat} {l v v' : List Int} (h : El w c l v v') (hc : c < w) : en v' c = 0 := by
  obtain ⟨a, ha, e⟩ := h
  have := e c hc
  rw [Int.mul_comm (en v c), Int.sub_self] at this
  rcases Int.mul_eq_zero.mp this with h | h
  · exact absurd h ha
  · exact h
theorem El.zero {w c j : Nat} {l v v' : List Int} (h : El w c l v v') (hj : j < w) (h1 : en v j = 0) (h2 : en l j = 0) : en v' j = 0 := by
  obtain ⟨a, ha, e⟩ := h
  have := e j hj
  rw [h1, h2, Int.mul_zero, Int.mul_zero] at this
  rcases Int.mul_eq_zero.mp this with h | h
  · exact absurd h ha
  · exact h
theorem El.ne {w c j : Nat} {l v v' : List Int} (h : El w c l v v') (hl : en l c ≠ 0) (hj : j < w) (h1 : en v j ≠ 0) (h2 : en l j = 0) : en v' j ≠ 0 := by
  obtain ⟨a, ha, e⟩ := h
  have := e j hj
  rw [h2, Int.mul_zero, Int.sub_zero] at this
  intro z
  rw [z, Int.mul_zero] at this
  exact Int.mul_ne_zero hl h1 this.symm
/-- the column k is a pivot -/
def Pv (w : Nat) (N : (Nat → Int) → Prop) (k : Nat) : Prop := ∀ x, N x → (∀ j, k < j → j < w → x j = 0) → x k = 0
/-- rows in steps, the newest first -/
def Tri (w : Nat) : Nat → List (Nat × List Int) → Prop
  | _, [] => True
  | k, p :: r => p.1 < k ∧ en p.2 p.1 ≠ 0 ∧ (∀ j, j < p.1 → en p.2 j = 0) ∧ Tri w p.1 r
theorem Tri.up {w : Nat} {k m : Nat} {P : List (Nat × List Int)} (h : Tri w k P) (l : k ≤ m) : Tri w m P := by
  cases P with
  | nil => trivial
  | cons p r => exact ⟨by have := h.1; omega, h.2⟩
theorem Tri.lt {w : Nat} : ∀ {k : Nat} {P : List (Nat × List Int)}, Tri w k P → ∀ p ∈ P, p.1 < k
  | _, [], _, _, h => nomatch h
  | _, q :: r, h, p, hp => by
    rcases List.mem_cons.mp hp with e | e
    · rw [e]; exact h.1
    · have := Tri.lt h.2.2.2 p e
      have := h.1
      omega
theorem bs {w k : Nat} (hk : k < w) : ∀ (P : List (Nat × List Int)) (c : Nat), Tri w c P → c ≤ k → ∀ x : Nat → Int, x k ≠ 0 → (∀ j, k < j → x j = 0) →
    ∃ y : Nat → Int, y k ≠ 0 ∧ (∀ j, k < j → y j = 0) ∧ (∀ p ∈ P, dv w p.2 y = 0) ∧ ∃ a : Int, ∀ j, c ≤ j → y j = a * x j
  | [], c, _, _, x, h1, h2 => ⟨x, h1, h2, (fun _ h => nomatch h), 1, fun j _ => by omega⟩
  | (c', l) :: r, c, ht, hc, x, h1, h2 => by
    obtain ⟨t1, t2, t3, t4⟩ := ht
    simp only at t1 t2 t3 t4
    let s : Int := dv w l x - en l c' * x c'
    let x1 : Nat → Int := fun j => if j = c' then -s else en l c' * x j
    have e1 : ∀ j, j ≠ c' → x1 j = en l c' * x j := fun j hj => if_neg hj
    have ec : x1 c' = -s := if_pos rfl
    have z1 : dv w l x1 = 0 := by
      have : dv w l x1 - en l c' * dv w l x = en l c' * (x1 c' - en l c' * x c') := by
        unfold dv
        rw [← sm_mul, ← sm_sub]
        rw [sm_one (k := c') (by omega) fun j hj hn => by rw [e1 j hn, ← Int.mul_assoc, ← Int.mul_assoc, Int.mul_comm (en l j)]; omega]
        rw [Int.mul_sub]
      rw [ec] at this
      have e2 : -s - en l c' * x c' = - dv w l x := by show -(dv w l x - en l c' * x c') - _ = _; omega
      rw [e2, Int.mul_neg] at this
      omega
    obtain ⟨y, y1, y2, y3, a, y4⟩ := bs hk r c' t4 (by omega) x1 (by rw [e1 k (by omega)]; exact Int.mul_ne_zero t2 h1) (fun j hj => by rw [e1 j (by omega), h2 j hj, Int.mul_zero])
    refine ⟨y, y1, y2, fun p hp => ?_, a * en l c', fun j hj => ?_⟩
    · rcases List.mem_cons.mp hp with e | e
      · subst e
        have : dv w l y = a * dv w l x1 := by
          unfold dv
          rw [← sm_mul]
          refine sm_congr fun j hj => ?_
          by_cases h : j < c'
          · rw [t3 j h]; simp
          · rw [y4 j (by omega), ← Int.mul_assoc, ← Int.mul_assoc, Int.mul_comm a]
        show dv w l y = 0
        rw [this, z1, Int.mul_zero]
      · exact y3 p e
    · rw [y4 j (by omega), e1 j (by omega), Int.mul_assoc]
/-- how far an elimination is, at the column k -/
structure Inv (w : Nat) (N : (Nat → Int) → Prop) (k : Nat) (P : List (Nat × List Int)) (left : List (List Int)) : Prop where
  tri : Tri w k P
  zero : ∀ v ∈ left, ∀ j, j < k → en v j = 0
  null : ∀ x, N x ↔ (∀ p ∈ P, dv w p.2 x = 0) ∧ Nl w left x
  piv : ∀ j, j < k → (j ∈ P.map (·.1) ↔ Pv w N j)
theorem Inv.start (w : Nat) (L : List (List Int)) : Inv w (Nl w L) 0 [] L :=
  ⟨trivial, fun _ _ _ h => absurd h (by omega), fun x => ⟨fun h => ⟨(fun _ h => nomatch h), h⟩, fun h => h.2⟩, fun _ h => absurd h (by omega)⟩
theorem Inv.none {w k : Nat} {N : (Nat → Int) → Prop} {P : List (Nat × List Int)} {left : List (List Int)} (h : Inv w N k P left) (hk : k < w) (hz : ∀ v ∈ left, en v k = 0) : Inv w N (k + 1) P left := by
  refine ⟨h.tri.up (by omega), fun v hv j hj => ?_, h.null, fun j hj => ?_⟩
  · by_cases e : j = k
    · rw [e]; exact hz v hv
    · exact h.zero v hv j (by omega)
  · by_cases e : j = k
    · subst e
      constructor
      · intro hm
        obtain ⟨p, hp, e⟩ := List.mem_map.mp hm
        have := h.tri.lt p hp
        omega
      · intro hp
        exfalso
        obtain ⟨y, y1, y2, y3, _⟩ := bs hk P j h.tri (Nat.le_refl _) (fun i => if i = j then 1 else 0) (by simp) (fun i hi => if_neg (by omega))
        refine y1 (hp y ((h.null y).mpr ⟨y3, fun v hv => ?_⟩) fun i hi _ => y2 i hi)
        unfold dv
        refine sm_zero fun i hi => ?_
        by_cases h1 : i < j
        · rw [h.zero v hv i h1]; simp
        · by_cases h2 : i = j
          · rw [h2, hz v hv]; simp
          · rw [y2 i (by omega)]; simp
    · exact h.piv j (by omega)
theorem Inv.some {w k : Nat} {N : (Nat → Int) → Prop} {P P1 : List (Nat × List Int)} {left left1 : List (List Int)} {l : List Int} (h : Inv w N k P left) (hk : k < w) (hl : en l k ≠ 0)
    (hlz : ∀ j, j < k → en l j = 0) (t1 : Tri w k P1) (m1 : P1.map (·.1) = P.map (·.1))
    (n1 : ∀ x, dv w l x = 0 → ((∀ p ∈ P, dv w p.2 x = 0) ↔ ∀ p ∈ P1, dv w p.2 x = 0))
    (f0 : ∃ v ∈ left, ∀ x, dv w v x = 0 ↔ dv w l x = 0)
    (f1 : ∀ v' ∈ left1, ∃ v ∈ left, El w k l v v') (f2 : ∀ v ∈ left, (∀ x, dv w v x = 0 ↔ dv w l x = 0) ∨ ∃ v' ∈ left1, El w k l v v') : Inv w N (k + 1) ((k, l) :: P1) left1 := by
  have nl : ∀ x, Nl w left x ↔ dv w l x = 0 ∧ Nl w left1 x := fun x => by
    constructor
    · intro hx
      obtain ⟨v0, hv0, e0⟩ := f0
      have z := (e0 x).mp (hx v0 hv0)
      exact ⟨z, fun v' hv' => by
        obtain ⟨v, hv, e⟩ := f1 v' hv'
        exact (e.null hl z).mpr (hx v hv)⟩
    · rintro ⟨z, hx⟩ v hv
      rcases f2 v hv with e | ⟨v', hv', e⟩
      · exact (e x).mpr z
      · exact (e.null hl z).mp (hx v' hv')
  have nn : ∀ x, N x ↔ (∀ p ∈ (k, l) :: P1, dv w p.2 x = 0) ∧ Nl w left1 x := fun x => by
    rw [h.null x, nl x]
    constructor
    · rintro ⟨a, z, b⟩
      exact ⟨fun p hp => by
        rcases List.mem_cons.mp hp with e | e
        · rw [e]; exact z
        · exact (n1 x z).mp a p e, b⟩
    · rintro ⟨a, b⟩
      have z := a (k, l) List.mem_cons_self
      exact ⟨(n1 x z).mpr fun p hp => a p (List.mem_cons_of_mem _ hp), z, b⟩
  refine ⟨⟨by omega, hl, hlz, t1⟩, fun v' hv' j hj => ?_, nn, fun j hj => ?_⟩
  · obtain ⟨v, hv, e⟩ := f1 v' hv'
    by_cases ej : j = k
    · rw [ej]; exact e.at hk
    · exact e.zero (by omega) (h.zero v hv j (by omega)) (hlz j (by omega))
  · rw [List.map_cons, m1, List.mem_cons]
    by_cases e : j = k
    · subst e
      refine ⟨fun _ x hx hz => ?_, fun _ => .inl rfl⟩
      have z := ((nn x).mp hx).1 (j, l) List.mem_cons_self
      have : dv w l x = en l j * x j := by
        unfold dv
        refine sm_one hk fun i hi hn => ?_
        by_cases h1 : i < j
        · rw [hlz i h1]; simp
        · rw [hz i (by omega) hi]; simp
      rw [show dv w l x = 0 from z] at this
      rcases Int.mul_eq_zero.mp this.symm with h | h
      · exact absurd h hl
      · exact h
    · rw [← h.piv j (by omega)]
      exact ⟨fun h => h.resolve_left e, .inr⟩
/-- descending lists with the same members are the same -/
def Desc : Nat → List Nat → Prop
  | _, [] => True
  | k, c :: r => c < k ∧ Desc c r
theorem Desc.lt : ∀ {k : Nat} {P : List Nat}, Desc k P → ∀ p ∈ P, p < k
  | _, [], _, _, h => nomatch h
  | _, q :: r, h, p, hp => by
    rcases List.mem_cons.mp hp with e | e
    · rw [e]; exact h.1
    · have := Desc.lt h.2 p e
      have := h.1
      omega
theorem Tri.desc {w : Nat} : ∀ {k : Nat} {P : List (Nat × List Int)}, Tri w k P → Desc k (P.map (·.1))
  | _, [], _ => trivial
  | _, _ :: _, h => ⟨h.1, Tri.desc h.2.2.2⟩
theorem desc_ext : ∀ {k m : Nat} {P Q : List Nat}, Desc k P → Desc m Q → (∀ j, j ∈ P ↔ j ∈ Q) → P = Q
  | _, _, [], [], _, _, _ => rfl
  | _, _, [], q :: r, _, _, h => absurd ((h q).mpr List.mem_cons_self) (fun z => nomatch z)
  | _, _, p :: r, [], _, _, h => absurd ((h p).mp List.mem_cons_self) (fun z => nomatch z)
  | k, m, p :: r, q :: t, hp, hq, h => by
    have e : p = q := by
      rcases List.mem_cons.mp ((h p).mp List.mem_cons_self) with e | e
      · exact e
      · rcases List.mem_cons.mp ((h q).mpr List.mem_cons_self) with e' | e'
        · exact e'.symm
        · have := hq.2.lt p e
          have := hp.2.lt q e'
          omega
    subst e
    rw [desc_ext hp.2 hq.2 fun j => ?_]
    constructor
    · intro hj
      have := hp.2.lt j hj
      exact ((List.mem_cons.mp ((h j).mp (List.mem_cons_of_mem _ hj))).resolve_left (by omega))
    · intro hj
      have := hq.2.lt j hj
      exact ((List.mem_cons.mp ((h j).mpr (List.mem_cons_of_mem _ hj))).resolve_left (by omega))
/-- two eliminations that are through have the same pivots -/
theorem same_piv {w : Nat} {N N' : (Nat → Int) → Prop} {P Q : List (Nat × List Int)} {L M : List (List Int)} (h : Inv w N w P L) (h' : Inv w N' w Q M) (hN : ∀ x, N x ↔ N' x) : P.map (·.1) = Q.map (·.1) := by
  refine desc_ext h.tri.desc h'.tri.desc fun j => ?_
  have hp : Pv w N j ↔ Pv w N' j := by
    unfold Pv
    constructor
    · intro h x hx; exact h x ((hN x).mpr hx)
    · intro h x hx; exact h x ((hN x).mp hx)
  constructor
  · intro hj
    have lj := h.tri.desc.lt j hj
    exact (h'.piv j lj).mpr (hp.mp ((h.piv j lj).mp hj))
  · intro hj
    have lj := h'.tri.desc.lt j hj
    exact (h.piv j lj).mpr (hp.mpr ((h'.piv j lj).mp hj))
end Rk

/-! ### rows that add up to zeros -/
namespace Rk
/-- the place in a list of which the i-th was taken out -/
def skp (i j : Nat) : Nat := if j < i then j else j + 1
theorem sm_skp {f : Nat → Int} {i : Nat} : ∀ {n : Nat}, i ≤ n → sm (n + 1) f = sm n (fun j => f (skp i j)) + f i
  | 0, h => by
    have : i = 0 := by omega
    subst this
    rfl
  | n + 1, h => by
    by_cases e : i = n + 1
    · subst e
      show sm (n + 1) f + f (n + 1) = _
      congr 1
      refine sm_congr fun j hj => ?_
      unfold skp
      rw [if_pos (by omega)]
    · show sm (n + 1) f + f (n + 1) = sm n (fun j => f (skp i j)) + f (skp i n) + f i
      rw [sm_skp (f := f) (i := i) (n := n) (by omega)]
      have : skp i n = n + 1 := by unfold skp; rw [if_neg (by omega)]
      rw [this]
      omega
/-- entry c of the sum of the rows times x -/
def cb (x : Nat → Int) (L : List (List Int)) (c : Nat) : Int := sm L.length fun j => x j * en (L.getD j []) c
def Dep (w : Nat) (L : List (List Int)) : Prop := ∃ x : Nat → Int, (∃ j, j < L.length ∧ x j ≠ 0) ∧ ∀ c, c < w → cb x L c = 0
theorem erase_getD {L : List (List Int)} {i j : Nat} : (L.eraseIdx i).getD j [] = L.getD (skp i j) [] := by
  rw [List.getD_eq_getElem?_getD, List.getD_eq_getElem?_getD, List.getElem?_eraseIdx]
  unfold skp
  split <;> rfl
theorem cb_erase {x : Nat → Int} {L : List (List Int)} {i : Nat} {v : List Int} (h : L[i]? = some v) (c : Nat) : cb x L c = cb (fun j => x (skp i j)) (L.eraseIdx i) c + x i * en v c := by
  have hi : i < L.length := (List.getElem?_eq_some_iff.mp h).1
  obtain ⟨n, hn⟩ : ∃ n, L.length = n + 1 := ⟨L.length - 1, by omega⟩
  unfold cb
  rw [List.length_eraseIdx_of_lt hi, hn, sm_skp (i := i) (by omega)]
  congr 1
  · exact sm_congr fun j _ => by rw [erase_getD]
  · rw [List.getD_eq_getElem?_getD, h]
    rfl
theorem cb_elim {x : Nat → Int} {L L' : List (List Int)} {w k c : Nat} {v : List Int} (hl : L'.length = L.length) (h : ∀ j, j < L.length → ∀ c, c < w → en (L'.getD j []) c = en (L.getD j []) c * en v k - en v c * en (L.getD j []) k) (hc : c < w) :
    cb x L' c = en v k * cb x L c - en v c * cb x L k := by
  unfold cb
  rw [hl, ← sm_mul, ← sm_mul, ← sm_sub]
  refine sm_congr fun j hj => ?_
  rw [h j hj c hc, Int.mul_sub]
  congr 1
  · rw [← Int.mul_assoc, Int.mul_comm]
  · rw [← Int.mul_assoc, ← Int.mul_assoc, Int.mul_comm (x j)]
theorem dep_step {L L' : List (List Int)} {w k i : Nat} {v : List Int} (e : L[i]? = some v) (hk : k < w) (hv : en v k ≠ 0) (hl : L'.length = (L.eraseIdx i).length)
    (h : ∀ j, j < (L.eraseIdx i).length → ∀ c, c < w → en (L'.getD j []) c = en ((L.eraseIdx i).getD j []) c * en v k - en v c * en ((L.eraseIdx i).getD j []) k) : Dep w L ↔ Dep w L' := by
  have hi : i < L.length := (List.getElem?_eq_some_iff.mp e).1
  have hle := List.length_eraseIdx_of_lt hi
  constructor
  · rintro ⟨x, ⟨j, hj, xj⟩, hx⟩
    have hz : ∀ c, c < w → cb (fun j => x (skp i j)) (L.eraseIdx i) c = - (x i * en v c) := fun c hc => by
      have := cb_erase (x := x) e c
      rw [hx c hc] at this
      omega
    refine ⟨fun j => x (skp i j), ?_, fun c hc => ?_⟩
    · by_cases ji : j = i
      · -- another one is not 0
        by_cases all : ∀ m, m < (L.eraseIdx i).length → x (skp i m) = 0
        · exfalso
          have h1 := hz k hk
          have h2 : cb (fun j => x (skp i j)) (L.eraseIdx i) k = 0 := by
            unfold cb
            exact sm_zero fun m hm => by show x (skp i m) * _ = 0; rw [all m hm, Int.zero_mul]
          rw [h2] at h1
          rw [ji] at xj
          exact Int.mul_ne_zero xj hv (by omega)
        · obtain ⟨m, hm⟩ := Classical.not_forall.mp all
          obtain ⟨hm1, hm2⟩ := Classical.not_imp.mp hm
          exact ⟨m, by omega, hm2⟩
      · by_cases c : j < i
        · refine ⟨j, by omega, ?_⟩
          show x (skp i j) ≠ 0
          unfold skp
          rw [if_pos c]
          exact xj
        · refine ⟨j - 1, by omega, ?_⟩
          show x (skp i (j - 1)) ≠ 0
          unfold skp
          rw [if_neg (by omega), show j - 1 + 1 = j by omega]
          exact xj
    · rw [cb_elim hl h hc, hz c hc, hz k hk]
      rw [Int.mul_neg, Int.mul_neg, Int.mul_left_comm, Int.mul_left_comm (en v c), Int.mul_comm (en v k) (en v c)]
      omega
  · rintro ⟨x, ⟨j, hj, xj⟩, hx⟩
    let S : Int := cb x (L.eraseIdx i) k
    let y : Nat → Int := fun j => if j = i then -S else en v k * x (if j < i then j else j - 1)
    have ys : ∀ m, y (skp i m) = en v k * x m := fun m => by
      show (if skp i m = i then -S else en v k * x (if skp i m < i then skp i m else skp i m - 1)) = _
      unfold skp
      by_cases c : m < i
      · rw [if_pos c, if_neg (by omega), if_pos c]
      · rw [if_neg c, if_neg (by omega), if_neg (by omega), Nat.add_sub_cancel]
    have yi : y i = -S := if_pos rfl
    refine ⟨y, ⟨skp i j, ?_, ?_⟩, fun c hc => ?_⟩
    · unfold skp
      split <;> omega
    · rw [ys]
      exact Int.mul_ne_zero hv xj
    · rw [cb_erase e c, yi]
      have h1 : cb (fun j => y (skp i j)) (L.eraseIdx i) c = en v k * cb x (L.eraseIdx i) c := by
        unfold cb
        rw [← sm_mul]
        exact sm_congr fun m _ => by show y (skp i m) * _ = _; rw [ys, Int.mul_assoc]
      have h2 := cb_elim (x := x) hl h hc
      rw [hx c hc] at h2
      rw [h1]
      have h3 : cb x (L.eraseIdx i) k = S := rfl
      rw [h3, Int.mul_comm (en v c)] at h2
      rw [Int.neg_mul]
      omega
theorem dep_end {w : Nat} {L : List (List Int)} (h : ∀ v ∈ L, ∀ j, j < w → en v j = 0) : Dep w L ↔ L ≠ [] := by
  constructor
  · rintro ⟨x, ⟨j, hj, _⟩, _⟩ z
    rw [z] at hj
    exact absurd hj (Nat.not_lt_zero _)
  · intro hne
    have hp : 0 < L.length := List.length_pos_iff.mpr hne
    refine ⟨fun _ => 1, ⟨0, hp, (by decide)⟩, fun c hc => ?_⟩
    unfold cb
    refine sm_zero fun j hj => ?_
    have : L.getD j [] ∈ L := by
      rw [List.getD_eq_getElem?_getD, List.getElem?_eq_getElem hj]
      exact List.getElem_mem hj
    rw [h _ this c hc]
    rfl
/-- the columns of a matrix -/
def tr (w : Nat) (L : List (List Int)) : List (List Int) := (List.range w).map fun c => L.map fun v => en v c
theorem tr_dv {L : List (List Int)} (x : Nat → Int) (c : Nat) : dv L.length (L.map fun v => en v c) x = cb x L c := by
  unfold dv cb
  refine sm_congr fun j hj => ?_
  have : en (L.map fun v => en v c) j = en (L.getD j []) c := by
    show (L.map fun v => en v c).getD j 0 = _
    rw [List.getD_eq_getElem?_getD, List.getD_eq_getElem?_getD, List.getElem?_map, List.getElem?_eq_getElem hj]
    rfl
  rw [this, Int.mul_comm]
theorem tr_null {w : Nat} {L : List (List Int)} (x : Nat → Int) : Nl L.length (tr w L) x ↔ ∀ c, c < w → cb x L c = 0 := by
  unfold Nl tr
  constructor
  · intro h c hc
    rw [← tr_dv]
    exact h _ (List.mem_map.mpr ⟨c, List.mem_range.mpr hc, rfl⟩)
  · intro h v hv
    obtain ⟨c, hc, rfl⟩ := List.mem_map.mp hv
    rw [tr_dv]
    exact h c (List.mem_range.mp hc)
/-- all columns of the transposed matrix are pivots: the rows do not depend -/
theorem all_piv {w : Nat} {L : List (List Int)} {N : (Nat → Int) → Prop} (hN : ∀ x, N x ↔ Nl L.length (tr w L) x) (h : ∀ k, k < L.length → Pv L.length N k) : ¬ Dep w L := by
  rintro ⟨x, ⟨j, hj, xj⟩, hx⟩
  have nx := (hN x).mpr ((tr_null x).mpr hx)
  have : ∀ m k, k < L.length → L.length - k ≤ m → x k = 0 := by
    intro m
    induction m with
    | zero => intro k h1 h2; omega
    | succ m ih =>
      intro k h1 h2
      exact h k h1 x nx fun i h3 h4 => ih i h4 (by omega)
  exact xj (this _ j hj (Nat.le_refl _))
end Rk

/-! ### operations that the layer lacks -/
namespace HwG
open PySem PySem.Spec PyProof.Rows L2 RZ
theorem tuple_mul1 (l : Addr) (items : Array Value) (n : Nat) (dd : Option Addr) (sl : Array (Option Value)) (x : Int) (u : Tok) (c0 : (decide (x < -(2 ^ 63)) || decide (x ≥ 2 ^ 63)) = false) (c1 : (items.isEmpty || x == 1) = true) :
    Meets (Builtin.«tuple.__mul__» ⟨[.ref l, .int x u], []⟩) (fun _ R s => s.heap.get? l = some { cls := .type "tuple", dict := dd, data := .seq items n, slots := sl } ∧
      R (.ok (.ret (Value.ref l))) s) :=
  .of_wp fun prog w A R s h => by
    obtain ⟨hp, g, d, tk, os⟩ := s
    obtain ⟨hl, h⟩ := h
    have f1 := AutoSeq1.idx_int
    wp_walk using wpAny_loadPart' hl
    repeat (first
      | (refine wpAny_ite_false (decide_eq_false (by rw [c0]; exact Bool.false_ne_true)) ?_; wp_walk using wpAny_loadPart' hl)
      | (refine wpAny_ite_true (decide_eq_true c1) ?_; wp_walk using wpAny_loadPart' hl))
    exact ⟨_, rfl, h⟩
def rRepT1 (K : PySem.W.Frag) : R2 := fun x y H Q => ∃ l xs, x = .ref l ∧ y = .int 1 ∧ SqT K H l xs ∧ Q (.ref l) H
section
variable {X : Cx}
theorem op_repT1 : OpR X (binaryOp .Mult) (rRepT1 X.K) := by
  intro pins s σ H x y v u Q I rx ry h
  obtain ⟨l, xs, rfl, rfl, hT, q⟩ := h
  cases rx
  obtain ⟨t, rfl⟩ := ry
  obtain ⟨its, r, ⟨⟨cls, dd, data, sl⟩, ho, hc, n, hd⟩, hs⟩ := I.tuple hT
  simp only at hc hd
  subst hc hd
  have c0 : (decide ((1 : Int) < -(2 ^ 63)) || decide ((1 : Int) ≥ 2 ^ 63)) = false := by decide
  have c1 : (its.toArray.isEmpty || (1 : Int) == 1) = true := by
    rw [show ((1 : Int) == 1) = true by decide, Bool.or_true]
  exact wpAny_binaryOp_repeat_ref (T := "tuple") (U := "int") (by decide) ⟨_, ho, rfl⟩ (fun s' => typeIs_int s' 1 t) noFill_tuple_mul F.fills_int_mul F.slot_int_rmul repeat_tuple F.slot_int_index.lookup
    (call_meets F.slot_int_rmul (typeIs_int s 1 t) F.entry_int_rmul (F.args_int_rmul_2 _ _) (int_rmul_tuple 1 t l its.toArray n dd sl)
      ⟨ho, rfl, ⟨_, ho, rfl⟩, call_meets F.slot_tuple_mul ⟨_, ho, rfl⟩ F.entry_tuple_mul (F.args_tuple_mul_2 _ _) (tuple_mul1 l its.toArray n dd sl 1 t c0 c1) ⟨ho, .ref l, H, I, rfl, q⟩⟩)
def rRepA (K : PySem.W.Frag) : R2 := fun x y H Q => rRepT K x y H Q ∨ rRepT1 K x y H Q
/-- a tuple times 1 .. 1000 -/
theorem op_repA : OpR X (binaryOp .Mult) (rRepA X.K) := by
  intro pins s σ H x y v u Q I rx ry q
  rcases q with q | q
  · exact op_repT pins s σ H x y v u Q I rx ry q
  · exact op_repT1 pins s σ H x y v u Q I rx ry q
/-- // by a divisor of any sign -/
def CDivA (_ j : Int) : Prop := j ≠ 0 ∧ j.natAbs.log2 < 9000
theorem op_fdivA : OpR X (binaryOp .FloorDiv) (rI CDivA fun i j => .int (i.fdiv j)) := opI fun i j _ _ _ _ _ hc q => floordiv_int hc.1 q (.inl (PyProof.noPylong_of_log2 hc.2))
end
/-- zip of two tuples, walked -/
theorem walk_zipT {K : PySem.W.Frag} {a b : Addr} {xs ys : List V} {n : Nat} (h1 : xs.length = n) (h2 : ys.length = n) : Walk (ItzT K a b) n (fun H => SqT K H a xs ∧ SqT K H b ys) (YPair (fun i => xs[i]?) (fun i => ys[i]?)) :=
  ⟨fun i H hi hG => ⟨xs, ys, xs[i], ys[i], hG.1, hG.2, List.getElem?_eq_getElem (by omega), List.getElem?_eq_getElem (by omega)⟩, fun H hG => ⟨xs, ys, hG.1, hG.2, .inl (by omega)⟩,
    fun i H x H' hi hG y => by
      obtain ⟨T, u, v, e1, e2, e3, e4, e5⟩ := y
      exact ⟨T, u, v, e1, e2, e3, e4 _ hG.1, e5 _ hG.2⟩⟩
end HwG

/-! ### zip of a list or tuple with a list or tuple -/
namespace HwZ
open PySem PySem.Spec PyProof.Rows L2 RZ
/-- at a stands a sequence: a tuple (true) or a list -/
def Sk (K : PySem.W.Frag) (k : Bool) (H : Hp) (a : Addr) (xs : List V) : Prop := match k with
  | true => SqT K H a xs
  | false => SqL K H a xs
def AtK (k : Bool) (h : Heap) (it a : Addr) (i : Nat) : Prop := match k with
  | true => h.IsTupleIter it a i
  | false => h.IsListIter it a i
def SeqK (k : Bool) (h : Heap) (a : Addr) (its : Array Value) : Prop := match k with
  | true => h.IsTuple a its
  | false => h.IsList a its
def begK (k : Bool) (a : Addr) : Obj := match k with
  | true => { cls := .type "tuple_iterator", data := .fields #[.ref a, .int 0 0] }
  | false => { cls := .type "list_iterator", data := .fields #[.ref a, .int 0 0] }
theorem drawsK (k : Bool) {prog : Program} {w : World} {A : Around} (hh : A.handled = none) (it a : Addr) (ne : a ≠ it) (its : Array Value) :
    Draws prog w A it [it, a] its.size (fun i v => its[i]? = some v) (fun i h => AtK k h it a i ∧ SeqK k h a its) := by
  cases k with
  | true => exact Draws.tuple hh it a ne its
  | false => exact Draws.list hh it a ne its
theorem beginsK (k : Bool) (a : Addr) (its : Array Value) : Begins (.ref a) (begK k a) fun h => SeqK k h a its := by
  cases k with
  | true => exact begins_tuple a its
  | false => exact begins_list a its
theorem atK_beg {k : Bool} {h : Heap} {it a : Addr} (e : h.get? it = some (begK k a)) : AtK k h it a 0 := by
  cases k with
  | true => exact ⟨_, e, rfl, rfl⟩
  | false => exact ⟨_, e, rfl, rfl⟩
theorem atK_at {k : Bool} {h h' : Heap} {it a : Addr} {i : Nat} (x : AtK k h it a i) (f : ∀ o, h.get? it = some o → h'.get? it = some o) : AtK k h' it a i := by
  cases k with
  | true => exact Heap.IsTupleIter.at x f
  | false => exact Heap.IsListIter.at x f
theorem atK_obj {k : Bool} {h : Heap} {it a : Addr} {i : Nat} (x : AtK k h it a i) : ∃ o, h.get? it = some o ∧ ∀ v, o.data ≠ .cell v := by
  cases k with
  | true =>
    obtain ⟨o, e, _, d⟩ := x
    exact ⟨o, e, fun v q => by rw [d] at q; cases q⟩
  | false =>
    obtain ⟨o, e, _, d⟩ := x
    exact ⟨o, e, fun v q => by rw [d] at q; cases q⟩
section
variable {X : Cx} {pins : List (Addr × Obj)} {σ : L2.St} {H : Hp} {s : Shared}
theorem sk_read {k : Bool} {a : Addr} {xs : List V} (I : Inv X pins σ H s) (h : Sk X.K k H a xs) : ∃ its : List Value, Vals xs its ∧ SeqK k s.heap a its.toArray := by
  cases k with
  | true =>
    obtain ⟨its, r, p, _⟩ := I.tuple h
    exact ⟨its, r, p⟩
  | false =>
    obtain ⟨its, r, p, _⟩ := I.list h
    exact ⟨its, r, p.isList⟩
theorem sk_inj {k : Bool} {a : Addr} {xs ys : List V} (I : Inv X pins σ H s) (h : Sk X.K k H a xs) (h' : Sk X.K k H a ys) : xs = ys := by
  cases k with
  | true => exact I.tuple_inj h h'
  | false => exact I.list_inj h h'
theorem seqK_lt {k : Bool} {h : Heap} {a : Addr} {its : Array Value} (x : SeqK k h a its) : a < h.objs.size := by
  cases k with
  | true =>
    obtain ⟨o, e, _⟩ := x
    exact Heap.lt_size e
  | false =>
    obtain ⟨o, e, _⟩ := x
    exact Heap.lt_size e
end
/-- what the loop sees: new pairs -/
def ItzK (K : PySem.W.Frag) (k1 k2 : Bool) (a b : Addr) : It :=
  ⟨fun i H => ∃ (xs ys : List V) (x y : V), Sk K k1 H a xs ∧ Sk K k2 H b ys ∧ xs[i]? = some x ∧ ys[i]? = some y,
    fun i H v H' => ∃ T x y, v = .ref T ∧ H T = none ∧ H' = upd H T (.tup [x, y]) ∧ (∀ xs, Sk K k1 H a xs → xs[i]? = some x) ∧ ∀ ys, Sk K k2 H b ys → ys[i]? = some y,
    fun i H => ∃ xs ys : List V, Sk K k1 H a xs ∧ Sk K k2 H b ys ∧ xs.length = i ∧ ys.length = i⟩
/-- the cells of the zip at z -/
structure Cells (z TI TO i1 i2 a b : Addr) : Prop where
  sep : ZipSep2 z TI TO i1 i2 [i1, a] [i2, b]
  ai : a ≠ i1
  bi : b ≠ i2
theorem cells_of (N a b : Nat) (ha : a < N) (hb : b < N) : Cells (N + 4) (N + 2) (N + 3) N (N + 1) a b :=
  ⟨zip_sep2 (fun c h => by rw [List.mem_singleton.mp h]; exact ha) (fun c h => by rw [List.mem_singleton.mp h]; exact hb), show a ≠ N by omega, show b ≠ N + 1 by omega⟩
def Now (k1 k2 : Bool) (z TI TO i1 i2 a b : Addr) (i : Nat) (h : Heap) : Prop := IsZip h z TI TO .none ∧ IsTupOf2 h TI (.ref i1) (.ref i2) ∧ (∃ u v, IsTupOf2 h TO u v) ∧ AtK k1 h i1 a i ∧ AtK k2 h i2 b i
theorem five {z TI TO i1 i2 c : Addr} (h : c ∈ [z, TI, TO, i1, i2]) : c = z ∨ c = TI ∨ c = TO ∨ c = i1 ∨ c = i2 := by simpa using h
theorem turn_zipK {P : Program} {w : World} {K : PySem.W.Frag} {elts : List Expr} {kk : Nat} {tpos : Pos} {k1 k2 : Bool} {a b z TI TO i1 i2 : Addr} (D : Cells z TI TO i1 i2 a b) :
    Turn P w K (.Tuple elts kk tpos) (ItzK K k1 k2 a b) [z, TI, TO, i1, i2] z (Now k1 k2 z TI TO i1 i2 a b) where
  mem := by simp
  obj := fun i h st c hc => by
    obtain ⟨hz, hT, ⟨u, v, hO⟩, h1, h2⟩ := st
    rcases five hc with e | e | e | e | e <;> subst e
    · exact ⟨_, hz, fun v q => nomatch q⟩
    · exact ⟨_, hT, fun v q => nomatch q⟩
    · exact ⟨_, hO, fun v q => nomatch q⟩
    · exact atK_obj h1
    · exact atK_obj h2
  keep := fun i h h' st f => by
    obtain ⟨hz, hT, ⟨u, v, hO⟩, h1, h2⟩ := st
    have g : ∀ c ∈ [z, TI, TO, i1, i2], ∀ o, h.get? c = some o → h'.get? c = some o := f
    exact ⟨g z (by simp) _ hz, g TI (by simp) _ hT, ⟨u, v, g TO (by simp) _ hO⟩, atK_at h1 (g i1 (by simp)), atK_at h2 (g i2 (by simp))⟩
  item := by
    intro X hP hw hK hc i pins s σ H E I hf st go
    subst hP hw hK
    obtain ⟨hz, hT, ⟨u0, v0, hO⟩, h1, h2⟩ := st
    obtain ⟨xs, ys, x, y, qx, qy, ex, ey⟩ := go
    obtain ⟨its, r1, p1⟩ := sk_read I qx
    obtain ⟨jts, r2, p2⟩ := sk_read I qy
    have n1 : i < its.toArray.size := by rw [List.size_toArray, ← r1.length]; exact (List.getElem?_eq_some_iff.mp ex).1
    have n2 : i < jts.toArray.size := by rw [List.size_toArray, ← r2.length]; exact (List.getElem?_eq_some_iff.mp ey).1
    have hd : X.A.in1.handled = none := I.ok.hd hc
    have zlt : z < s.heap.objs.size := Heap.lt_size hz
    refine wpAny_pyNext_zipD2_item D.sep (drawsK k1 hd i1 a D.ai its.toArray) (drawsK k2 hd i2 b D.bi jts.toArray) hz hT hO ⟨h1, p1⟩ ⟨h2, p2⟩ n1 n2 fun u v h' tk eu ev z' O' t1 t2 nT sz kp => ?_
    obtain ⟨u', gu, ru⟩ := r1.get ex
    obtain ⟨v', gv, rv⟩ := r2.get ey
    have euu : u = u' := Option.some.inj (eu.symm.trans (by simpa using gu))
    have evv : v = v' := Option.some.inj (ev.symm.trans (by simpa using gv))
    subst euu evv
    refine ⟨_, rfl, wpAny_letOwnedTupleGo_zip (s := { s with heap := h', toks := tk }) z' fun h2' z2 sb => ?_⟩
    have other : ∀ c, c ≠ z → h2'.get? c = h'.get? c := fun c hc => sb.2 c hc
    have fresh : h2'.get? s.heap.objs.size = some { cls := .type "tuple", data := .seq #[u, v] } := (other _ (Nat.ne_of_gt zlt)).trans nT
    have ob : ObjOk X.prog X.w (upd H s.heap.objs.size (.tup [x, y])) h2' s.heap.objs.size (.tup [x, y]) :=
      ⟨Nat.le_of_lt (small1000 (show 2 ≤ 1000 by decide)), [u, v], .cons ru (.cons rv .nil), ⟨_, fresh, rfl, _, rfl⟩⟩
    have J : Inv X pins σ (upd H s.heap.objs.size (.tup [x, y])) { s with heap := h2', toks := tk } :=
      I.turnedNew (ch := [z, TI, TO, i1, i2]) (fun c o nc q => by
        have m : c ≠ z ∧ c ≠ TO ∧ c ≠ i1 ∧ c ≠ i2 := ⟨fun e => nc (by rw [e]; simp), fun e => nc (by rw [e]; simp), fun e => nc (by rw [e]; simp), fun e => nc (by rw [e]; simp)⟩
        exact (other c m.1).trans (kp c o m.1 m.2.1 m.2.2.1 m.2.2.2 q)) hf (Nat.le_refl _) ob
    have hTI1 : TI ≠ i1 := D.sep.TIi1
    refine ⟨.ref s.heap.objs.size, _, J, rfl, ⟨_, x, y, rfl, I.hok.fresh (Nat.le_refl _), rfl, fun l hl => by rw [sk_inj I hl qx]; exact ex, fun l hl => by rw [sk_inj I hl qy]; exact ey⟩, ⟨z2, ?_, ⟨u, v, ?_⟩, ?_, ?_⟩, fun c hcm => ?_⟩
    · exact (other _ D.sep.TIz).trans (kp _ _ D.sep.TIz D.sep.TITO D.sep.TIi1 D.sep.TIi2 hT)
    · exact (other _ D.sep.TOz).trans O'
    · exact atK_at t1.1 fun o q => (other _ D.sep.zi1.symm).trans q
    · exact atK_at t2.1 fun o q => (other _ D.sep.zi2.symm).trans q
    · have lt : c < s.heap.objs.size := by
        rcases five hcm with e | e | e | e | e <;> subst e
        · exact zlt
        · exact Heap.lt_size hT
        · exact Heap.lt_size hO
        · obtain ⟨o, e, _⟩ := atK_obj h1
          exact Heap.lt_size e
        · obtain ⟨o, e, _⟩ := atK_obj h2
          exact Heap.lt_size e
      rw [upd_ne (Nat.ne_of_lt lt)]
      exact (hf c hcm).1
  done := by
    intro X hP hw hK hc i pins s σ H E I hf st stop
    subst hP hw hK
    obtain ⟨hz, hT, ⟨u0, v0, hO⟩, h1, h2⟩ := st
    obtain ⟨xs, ys, qx, qy, ex, ey⟩ := stop
    obtain ⟨its, r1, p1⟩ := sk_read I qx
    obtain ⟨jts, r2, p2⟩ := sk_read I qy
    have n1 : i = its.toArray.size := by rw [List.size_toArray, ← r1.length]; exact ex.symm
    have n2 : i = jts.toArray.size := by rw [List.size_toArray, ← r2.length]; exact ey.symm
    have hd : X.A.in1.handled = none := I.ok.hd hc
    refine wpAny_pyNext_zipD2_end D.sep (drawsK k1 hd i1 a D.ai its.toArray) (drawsK k2 hd i2 b D.bi jts.toArray) hz hT hO ⟨h1, p1⟩ ⟨h2, p2⟩ (Nat.le_of_eq n1) (Nat.le_of_eq n2) (.inl n1) fun h' tk kp => ⟨rfl, ?_⟩
    exact I.turnedL (ch := [z, TI, TO, i1, i2]) (fun c o nc q => kp c o (fun e => nc (by rw [e]; simp)) (fun e => nc (by rw [e]; simp)) (fun e => nc (by rw [e]; simp)) (fun e => nc (by rw [e]; simp)) q) hf
  self := fun A i s Q E st h => wpAny_pyIter_zip st.1 h
def iZipK (K : PySem.W.Frag) (ta : TA) : TI := fun σ H R => ta σ H fun vs H1 => ∃ k1 k2 a b xs ys, vs = [.ref a, .ref b] ∧ Sk K k1 H1 a xs ∧ Sk K k2 H1 b ys ∧ R (ItzK K k1 k2 a b) H1
set_option maxHeartbeats 600000 in
theorem pi_zipK {X : Cx} {e e2 : Expr} {ta : TA} {p pos tpos : Pos} {elts : List Expr} {kk : Nat} (hg : Gl X "zip") (hm : X.mg "zip" = none) (ha : PA X [e, e2] ta)
    (hs : starEach [e, e2] X.env = (false, eval e X.env) :: starEach [e2] X.env := by rfl) (hpl : (backTo pos (starEach [e2] X.env)).any (·.1) = false := by rfl) :
    PI X (.Tuple elts kk tpos) (.Call (.Name "zip" p) [e, e2] [] pos) (iZipK X.K ta) := by
  constructor
  intro pins s σ H R I h
  refine Call_ (ld_blt I hg hm PyProof.Rows.boot_zip (PyProof.Rows.callWith_type1 (thn (ha.run pos pins s σ H _ I h) fun us s1 ⟨vs, H1, I1, r1, q1⟩ => ?_) hs hpl))
  obtain ⟨k1, k2, a, b, xs, ys, ev, qx, qy, q⟩ := q1
  subst ev
  obtain ⟨u1, u2, rfl, ra, rb⟩ := vals2 r1
  obtain rfl : u1 = Value.ref a := ra
  obtain rfl : u2 = Value.ref b := rb
  obtain ⟨its, _, p1⟩ := sk_read I1 qx
  obtain ⟨jts, _, p2⟩ := sk_read I1 qy
  refine zip_begins2 (beginsK k1 a its.toArray) (beginsK k2 b jts.toArray) p1 p2 fun h' hz hT hO g1 g2 _ kp => wpAny_pyIter_zip hz ?_
  have J : Inv X pins σ H1 { s1 with heap := h' } := I1.kept (t' := s1.toks) kp
  have D := cells_of s1.heap.objs.size a b (seqK_lt p1) (seqK_lt p2)
  have W : Now k1 k2 (s1.heap.objs.size + 4) (s1.heap.objs.size + 2) (s1.heap.objs.size + 3) s1.heap.objs.size (s1.heap.objs.size + 1) a b 0 h' := ⟨hz, hT, ⟨_, _, hO⟩, atK_beg g1, atK_beg g2⟩
  have F : ∀ c ∈ [s1.heap.objs.size + 4, s1.heap.objs.size + 2, s1.heap.objs.size + 3, s1.heap.objs.size, s1.heap.objs.size + 1], FpOk X pins H1 c := fun c hc => by
    have le : s1.heap.objs.size ≤ c := by
      rcases five hc with e | e | e | e | e
      · rw [e]; exact Nat.le_add_right _ _
      · rw [e]; exact Nat.le_add_right _ _
      · rw [e]; exact Nat.le_add_right _ _
      · rw [e]; exact Nat.le_refl _
      · rw [e]; exact Nat.le_add_right _ _
    exact I1.fpOk le (I1.hok.fresh le)
  exact ⟨_, _, _, _, H1, rfl, J, turn_zipK D, W, F, q⟩
theorem walk_zipK {K : PySem.W.Frag} {k1 k2 : Bool} {a b : Addr} {xs ys : List V} {n : Nat} (h1 : xs.length = n) (h2 : ys.length = n) : Walk (ItzK K k1 k2 a b) n (fun H => Sk K k1 H a xs ∧ Sk K k2 H b ys) (YPair (fun i => xs[i]?) (fun i => ys[i]?)) :=
  ⟨fun i H hi g => ⟨xs, ys, xs[i], ys[i], g.1, g.2, List.getElem?_eq_getElem (by omega), List.getElem?_eq_getElem (by omega)⟩, fun H g => ⟨xs, ys, g.1, g.2, h1, h2⟩,
    fun i H x H' _ g y => by
      obtain ⟨T, u, v, e1, e2, e3, e4, e5⟩ := y
      exact ⟨T, u, v, e1, e2, e3, e4 _ g.1, e5 _ g.2⟩⟩
end HwZ

/-! ### any of a tuple of ints; the least common multiple -/
namespace HwA
open PySem PySem.Spec PyProof.Rows L2
section
variable {X : Cx}
theorem any_bools (ns : List Int) : ∀ (bs : List Bool), bs = ns.map (fun n => n != 0) → (List.range ns.length).any (fun i => (ns.map fun n => n != 0).getD i false) = ns.any fun n => n != 0 := fun bs _ => by
  have h := any_range (ns.map fun n => n != 0)
  rw [List.length_map] at h
  rw [h, List.any_map]
  rfl
def rAnyT (K : PySem.W.Frag) : List V → Hp → VK → Prop := fun vs H Q => ∃ (a : Addr) (ns : List Int), vs = [V.ref a] ∧ SqT K H a (ns.map V.int) ∧ Q (.bl (ns.any fun n => n != 0)) H
theorem cr_anyT (hc : X.calm = true) : CallR X (.builtin "any") (rAnyT X.K) := by
  intro pins s σ H vs us Q I r h
  obtain ⟨a, ns, rfl, hs, q⟩ := h
  obtain ⟨its, rv, ht, _⟩ := I.tuple hs
  rw [Vals.ref1 r]
  have it : s.heap.IsTuple a its.toArray := ht
  have lt : a < s.heap.objs.size := by
    obtain ⟨_, e, _⟩ := it
    exact Heap.lt_size e
  refine call_any_walk (wpAny_pyIter_tuple it ⟨s.heap.objs.size, _, _, _, _, _, (fun i => (ns.map fun n => n != 0).getD i false), rfl, Walks.tuple (A := X.A.in1) (I.ok.hd hc) _ a (Nat.ne_of_lt lt) its.toArray, ⟨⟨_, Heap.get?_push_size _ rfl, rfl, rfl⟩, ?_⟩, ?_, fun h' tk hk => ?_⟩)
  · exact it.at fun o e => Heap.get?_push_of_some _ e
  · intro i v s' Q' E' hv hq
    have hv' : its[i]? = some v := by simpa using hv
    have lxs := rv.length
    have hi : i < ns.length := by
      have := (List.getElem?_eq_some_iff.mp hv').1
      rw [List.length_map] at lxs
      omega
    have g : (ns.map V.int)[i]? = some (.int ns[i]) := by
      rw [List.getElem?_map, List.getElem?_eq_getElem hi]
      rfl
    obtain ⟨u, hu, ru⟩ := rv.get g
    obtain ⟨t, eu⟩ := ru
    have ev : v = Value.int ns[i] t := (Option.some.inj (hv'.symm.trans hu)).trans eu
    subst ev
    have e2 : (ns.map fun n => n != 0).getD i false = (ns[i] != 0) := by
      rw [List.getD_eq_getElem?_getD, List.getElem?_map, List.getElem?_eq_getElem hi]
      rfl
    have hq2 : Q' ((ns.map fun n => n != 0).getD i false) s' := hq
    rw [e2] at hq2
    exact truthy_int hq2
  · refine ⟨.bl _, H, I.kept fun b o eo => hk b o (fun m => ?_) (Heap.get?_push_of_some _ eo), ?_, q⟩
    · rcases List.mem_cons.mp m with e1 | m
      · exact absurd (e1 ▸ Heap.lt_size eo) (Nat.lt_irrefl _)
      · cases m
    · show Value.bool _ = Value.bool _
      have l1 := rv.length
      rw [List.length_map] at l1
      rw [List.size_toArray, ← l1, any_bools ns _ rfl]
/-- the least common multiple -/
def rLcm : List V → Hp → VK → Prop := fun vs H Q => ∃ a b : Int, vs = [.int a, .int b] ∧ a.natAbs < 2 ^ 4000 ∧ b.natAbs < 2 ^ 4000 ∧ Q (.int ((Nat.lcm a.natAbs b.natAbs : Nat) : Int)) H
theorem lcm_lim {a b : Nat} (ha : a < 2 ^ 4000) (hb : b < 2 ^ 4000) : Nat.lcm a b < 2 ^ 8000 := by
  have h1 : Nat.lcm a b ≤ a * b := by
    unfold Nat.lcm
    exact Nat.div_le_self _ _
  have h2 : a * b < 2 ^ 4000 * 2 ^ 4000 := Nat.mul_lt_mul'' ha hb
  rw [← Nat.pow_add] at h2
  exact Nat.lt_of_le_of_lt h1 h2
theorem cr_lcm : CallR X (.builtin "math.lcm") rLcm := by
  intro pins s σ H vs us Q I r h
  obtain ⟨a, b, rfl, ha, hb, q⟩ := h
  obtain ⟨t, u, rfl⟩ := Vals.int2 r
  have lg : ∀ n : Nat, n < 2 ^ 4000 → n.log2 < 4000 := fun n hn => PySem.Flt.log2_lt_of (by decide) hn
  have one : (1 : Nat) < 2 ^ 4000 := Nat.one_lt_two_pow (by decide)
  have m1 : (max 1 a.natAbs).log2 < 4000 := lg _ (by rw [Nat.max_lt]; exact ⟨one, ha⟩)
  have m2 : (max a.natAbs b.natAbs).log2 < 4000 := lg _ (by rw [Nat.max_lt]; exact ⟨ha, hb⟩)
  have e : (Nat.lcm 1 a.natAbs).lcm b.natAbs = Nat.lcm a.natAbs b.natAbs := by rw [Nat.lcm_one_left]
  have sz : ((((Nat.lcm 1 a.natAbs).lcm b.natAbs : Nat) : Int)).natAbs.log2 < bitsLine := by
    rw [e, Int.natAbs_natCast]
    have : (Nat.lcm a.natAbs b.natAbs).log2 < 8000 := PySem.Flt.log2_lt_of (by decide) (lcm_lim ha hb)
    have b8 : (8000 : Nat) ≤ bitsLine := by decide
    omega
  refine PySem.call_function_meets PySem.W.MGF.kind_lcm PySem.W.MGF.plain_lcm PySem.W.MGF.entry_lcm (PySem.W.MGF.args_lcm _ _) (PySem.W.mg_run_lcm a t b u (by omega) (by omega) sz).meets ?_
  rw [e]
  exact ⟨.int _, H, I.tok _, ⟨_, rfl⟩, q⟩
end
end HwA

/-! ### a tuple times 0 -/
namespace HwG
open PySem PySem.Spec PyProof.Rows L2 RZ
theorem tuple_mul0 (l : Addr) (items : Array Value) (n : Nat) (dd : Option Addr) (sl : Array (Option Value)) (u : Tok) (ne : items.isEmpty = false) :
    Meets (Builtin.«tuple.__mul__» ⟨[.ref l, .int 0 u], []⟩) (fun _ R s => s.heap.get? l = some { cls := .type "tuple", dict := dd, data := .seq items n, slots := sl } ∧
      R (.ok (.ret (Value.ref s.heap.objs.size))) { s with heap := s.heap.push (seqObj "tuple" #[] 0) }) :=
  .of_wp fun prog w A R s h => by
    obtain ⟨hp, g, d, tk, os⟩ := s
    obtain ⟨hl, h⟩ := h
    have f1 := AutoSeq1.idx_int
    have c0 : (decide ((0 : Int) < -(2 ^ 63)) || decide ((0 : Int) ≥ 2 ^ 63)) = false := by decide
    have c1 : (items.isEmpty || (0 : Int) == 1) = false := by rw [ne]; rfl
    have c2 : (decide ((0 : Int) ≤ 0) || items.isEmpty) = true := by rw [ne]; rfl
    wp_walk using wpAny_loadPart' hl
    repeat (first
      | (refine wpAny_ite_false (decide_eq_false (by rw [c0]; exact Bool.false_ne_true)) ?_; wp_walk using wpAny_loadPart' hl)
      | (refine wpAny_ite_false (decide_eq_false (by rw [c1]; exact Bool.false_ne_true)) ?_; wp_walk using wpAny_loadPart' hl)
      | (refine wpAny_ite_true (decide_eq_true c2) ?_; wp_walk using wpAny_loadPart' hl))
    exact ⟨_, rfl, h⟩
def rRepT0 (K : PySem.W.Frag) : R2 := fun x y H Q => ∃ l xs, x = .ref l ∧ y = .int 0 ∧ SqT K H l xs ∧ xs ≠ [] ∧ ∀ p, H p = none → Q (.ref p) (upd H p (.tup []))
section
variable {X : Cx}
theorem op_repT0 : OpR X (binaryOp .Mult) (rRepT0 X.K) := by
  intro pins s σ H x y v u Q I rx ry h
  obtain ⟨l, xs, rfl, rfl, hT, hne, q⟩ := h
  cases rx
  obtain ⟨t, rfl⟩ := ry
  obtain ⟨its, r, ⟨⟨cls, dd, data, sl⟩, ho, hc, n, hd⟩, hs⟩ := I.tuple hT
  simp only at hc hd
  subst hc hd
  have ne : its.toArray.isEmpty = false := by
    cases its with
    | nil => exact absurd (List.eq_nil_of_length_eq_zero r.length) hne
    | cons a b => rfl
  exact wpAny_binaryOp_repeat_ref (T := "tuple") (U := "int") (by decide) ⟨_, ho, rfl⟩ (fun s' => typeIs_int s' 0 t) noFill_tuple_mul F.fills_int_mul F.slot_int_rmul repeat_tuple F.slot_int_index.lookup
    (call_meets F.slot_int_rmul (typeIs_int s 0 t) F.entry_int_rmul (F.args_int_rmul_2 _ _) (int_rmul_tuple 0 t l its.toArray n dd sl)
      ⟨ho, rfl, ⟨_, ho, rfl⟩, call_meets F.slot_tuple_mul ⟨_, ho, rfl⟩ F.entry_tuple_mul (F.args_tuple_mul_2 _ _) (tuple_mul0 l its.toArray n dd sl t ne)
        ⟨ho, .ref s.heap.objs.size, _, I.laid (t' := s.toks) (o := .tup []) (fun b ob q => Heap.get?_push_of_some _ q) (Nat.le_refl _) ⟨Nat.zero_le _, [], .nil, IsTup.new _ _⟩, rfl, q _ (I.hok.fresh (Nat.le_refl _))⟩⟩)
def rRepB (K : PySem.W.Frag) : R2 := fun x y H Q => rRepA K x y H Q ∨ rRepT0 K x y H Q
/-- a tuple times 0 .. 1000 -/
theorem op_repB : OpR X (binaryOp .Mult) (rRepB X.K) := OpR.or op_repA op_repT0
end
end HwG

/-! ### attributes as targets, methods that may raise, list.remove of data -/
namespace HwX
open PySem PySem.Spec PyProof.Rows L2
section
variable {X : Cx} {CX : CXT} {k : Nat} {f C : Addr} {fd : FuncData} {ps : List Str} {sp : Sp} {E : L2.St → XK} {x m : Str} {p pos apos : Pos} {e o : Expr} {es : List Expr} {ta : TE} {t : TA} {fn : Str}
/-- o.f as a target -/
def gFld (K : PySem.W.Frag) (ta : TE) (f : Str) : TG := fun v σ H Q => ta σ H fun x H1 => ∃ a C dx fs, x = .ref a ∧ H1 a = some (.ins C dx fs) ∧ Cls K C ∧ NoAttr K C f ∧ fs.length < 1000 ∧ Q σ (upd H1 a (.ins C dx (putF f v fs)))
theorem pg_fld (ho : PE X o ta) : PG X (.Attribute o fn pos) (gFld X.K ta fn) := by
  refine ⟨fun pins s σ H v u Q I r h => ?_⟩
  rw [assign_Attribute]
  refine wpAny_bind (wpAny_holding (thn (ho.run pins s σ H _ I h) fun ov s1 ⟨x, H1, I1, rx, a, C, dx, fs, ex, ea, c, n, l, q⟩ => ?_))
  subst ex
  obtain rfl : ov = Value.ref a := rx
  refine wpAny_bind (wpAny_standAt (wpAny_bind (wpAny_holding (setattr_ok I1 ea c n l r fun s3 I3 => ?_))))
  exact wpAny_release ⟨σ, _, I3, q⟩
def tMethS (C : Addr) (m : Str) (sp : Sp) (E : L2.St → XK) (ta : TE) (t : TA) : TE := fun σ H Q => ta σ H fun x H1 => ∃ a dx fs, x = .ref a ∧ H1 a = some (.ins C dx fs) ∧ fs.lookup m = none ∧ t σ H1 fun vs H2 => sp (.ref a :: vs) H2 Q (E σ)
/-- o.m(e, ..) where the callee may raise -/
theorem pe_methA {pl : Sem Bool} (he : PE X o ta) (c : Cls X.K C) (hm : Meth X.K C m f) (F : FnOk X.prog X.w X.K X.mg X.base CX k f fd ps sp) (hr : Room k X.A) (hb : Binds X.K fd ps []) (hx : ∀ σ, PassesAt CX X σ (E σ)) (ha : PA X (e :: es) t)
    (hst : starEach (e :: es) X.env = (false, eval e X.env) :: starEach es X.env := by rfl) (hpl : (backTo pos (starEach es X.env)).any (·.1) = false := by rfl)
    (ht : eval (.Call (.Attribute o m apos) (e :: es) [] pos) X.env = (do
      let ov ← eval o X.env
      standAt apos.atName
      let (f, first) ← holding [ov] (getMethod ov m pl)
      callWith pos f first (backTo pos (starEach (e :: es) X.env)) (backToKw pos (keywordEach [] X.env))) := by rfl) :
    PE X (.Call (.Attribute o m apos) (e :: es) [] pos) (tMethS C m sp E ta t) := by
  refine ⟨fun pins s σ H Q I h => ?_⟩
  refine PySem.W.methodCall_KW (pl := pl) (thn (he.run pins s σ H _ I h) fun u s1 ⟨x, H1, I1, rx, a, dx, fs, ex, ea, l, q⟩ => ?_) ht
  subst ex
  obtain rfl : u = Value.ref a := rx
  refine getmeth_ok I1 ea c hm l ?_
  refine PySem.W.callWith_K (first := [.ref a]) (h₀ := X.base) I.ok.mod.kin hm.kp (thn (ha.run pos pins s1 σ H1 _ I1 q) fun us s2 ⟨vs, H2, I2, r, q2⟩ => ⟨I2.kIn, ?_⟩) hst hpl
  exact run_fnS (us := .ref a :: us) (vs := .ref a :: vs) F hr hb (hx σ) I2 (.cons rfl r) q2
end
section
variable {X : Cx}
/-- the items but the one at j -/
def rRemD (K : PySem.W.Frag) : V → List V → Hp → VK → Prop := fun x xs H Q => ∃ (a : Addr) (ys : List V) (y : V) (d : PyData) (ds : List PyData) (j : Nat) (z : PyData), x = .ref a ∧ xs = [y] ∧ H a = some (.lst ys) ∧ DpAll K H ys ds ∧ Dp K H y d ∧
  SeqAt.shaped (.list ds) = true ∧ SeqAt.shaped d = true ∧ ds[j]? = some z ∧ PyData.eqv z d = true ∧ (∀ (m : Nat) (z' : PyData), m < j → ds[m]? = some z' → PyData.eqv z' d = false) ∧ Q .non (upd H a (.lst (ys.eraseIdx j)))
theorem mt_removeD (hu : X.A.units + 65 < cLine) : MtM X "list.remove" (rRemD X.K) := by
  intro pins s σ H x xs v us Q I rx rxs h
  obtain ⟨a, ys, y, d, ds, j, z, rfl, rfl, hH, ha, hy, sl, sd, hz, hzj, hno, q⟩ := h
  cases rx
  cases rxs with
  | cons ry rt =>
    rename_i uy ut
    cases rt
    obtain ⟨bs, r1⟩ := Dp.reads I d y uy hy ry
    have hxs : PyData.canLayAll0 ds = true := SeqAt.canLay_of_shaped sl
    have hroom : X.A.units + 1 + min (PyData.depthAll ds) d.depth < cLine := room_in_shaped sd hu
    obtain ⟨zl, its, n, rv, hl, e0⟩ := I.lstM hH
    obtain ⟨as, h4⟩ := Dp.readsAll I ds _ its ha rv
    have hn : its.length = ds.length := SeqAt.ReadsAll.length ds its as h4
    have hmap : its.map (SeqAt.readOf s.heap) = ds := SeqAt.readsAll_map ds its as hxs h4
    have hsl := sizeLine_eq
    obtain ⟨hjd, _⟩ := List.getElem?_eq_some_iff.mp hz
    have hjl : j < its.length := by omega
    have hj : j < its.toArray.size := by simpa using hjl
    have at_ : ∀ (m : Nat) (hm : m < its.toArray.size) (z' : PyData), ds[m]? = some z' → SeqAt.readOf s.heap its.toArray[m] = z' := by
      intro m hm z' hz'
      have hml : m < its.length := by simpa using hm
      rw [← hmap, List.getElem?_map, List.getElem?_eq_getElem hml] at hz'
      have e1 : SeqAt.readOf s.heap its[m] = z' := Option.some.inj (show some (SeqAt.readOf s.heap its[m]) = some z' from hz')
      simpa using e1
    refine call_meets PySem.F.slot_list_remove ⟨_, e0, rfl⟩ PySem.F.entry_list_remove (PySem.F.args_list_remove_2 _ _)
      (SeqAt.list_removeAt a its.toArray n _ _ uy (fun u => PyData.eqv (SeqAt.readOf s.heap u) d) j hj ?_ ?_ (by rw [List.size_toArray]; omega)) ⟨e0, SeqAt.items_eqAt (vs := its.toArray) (show ReadsAll s.heap its.toArray.toList ds as from h4) r1 hxs (SeqAt.canLay_of_shaped sd) hroom, ?_⟩
    · show PyData.eqv (SeqAt.readOf s.heap its.toArray[j]) d = true
      rw [at_ j hj z hz]
      exact hzj
    · intro m hm hmj
      have hmd : m < ds.length := by have : m < its.length := by simpa using hm
                                     omega
      have hz' : ds[m]? = some ds[m] := List.getElem?_eq_getElem hmd
      show PyData.eqv (SeqAt.readOf s.heap its.toArray[m]) d = false
      rw [at_ m hm _ hz']
      exact hno m _ hmj hz'
    · have rr := rv.eraseIdx j
      have hll := rv.length
      refine ⟨.non, _, I.lset (its' := its.eraseIdx j) (t' := s.toks) hH e0 ?_ rr ?_, rfl, q⟩
      · show its.toArray.eraseIdxIfInBounds j = (its.eraseIdx j).toArray
        rw [List.eraseIdxIfInBounds_toArray]
      · have z2 : (ys.eraseIdx j).length ≤ ys.length := List.length_eraseIdx_le ..
        omega
end
end HwX

namespace HwP
open PySem PySem.Spec PyProof.Rows L2 Hw
open C8 (pss_cut tCut)
open HwG RZ HwZ HwA
def topS (i : Nat) : Stmt := PySem.Challenge.pw_hullwright_k14_what_follows.main.body.getD i (.Pass ⟨0, 0, 0, 0⟩)
/-- the built-in names that the text leaves as they are, and gcd -/
structure Glb (mg : Str → Option Value) : Prop where
  m_len : mg "len" = none
  m_range : mg "range" = none
  m_int : mg "int" = none
  m_list : mg "list" = none
  m_tuple : mg "tuple" = none
  m_bool : mg "bool" = none
  m_isinstance : mg "isinstance" = none
  m_abs : mg "abs" = none
  m_sum : mg "sum" = none
  m_zip : mg "zip" = none
  m_str : mg "str" = none
  m_any : mg "any" = none
  m_all : mg "all" = none
  m_enumerate : mg "enumerate" = none
  m_set : mg "set" = none
  m_sorted : mg "sorted" = none
  m_min : mg "min" = none
  m_max : mg "max" = none
  m_gcd : mg "gcd" = some (.builtin "math.gcd")
/-- what a body that calls a def wants of it -/
structure Call (P : Program) (w : World) (K : PySem.W.Frag) (mg : Str → Option Value) (base : Heap) (k : Nat) (nm : Str) (ps : List Str) (sp : Sp) where
  g : Addr
  gd : FuncData
  G : FnOk P w K mg base CX0 k g gd ps sp
  m : mg nm = some (.ref g)
  kp : PySem.W.keepIn K (.ref g) = true
  b : Binds K gd ps []
section
variable {P : Program} {w : World} {K : PySem.W.Frag} {mg : Str → Option Value} {base : Heap}

/-! ### own error classes over ValueError -/
abbrev VE : List Value := [.type "ValueError", .type "Exception", .type "BaseException", .type "object"]
/-- what the written part says of the class nm at C -/
structure Er (K : PySem.W.Frag) (mg : Str → Option Value) (nm : Str) (C : Addr) : Prop where
  g : mg nm = some (.ref C)
  x : PySem.W.excIn K C VE "ValueError.__new__" = true
  k : PySem.W.keepIn K (.ref C) = true
  b : PySem.W.subIn K (.ref C) (.type "BaseException") = some true
  t : PySem.W.typeIn K (.ref C) = some (.type "type")
  d : PySem.W.hasDictIn K C = true
  s : PySem.W.subIn K (.ref C) (.ref C) = some true
theorem Er.em {K : PySem.W.Frag} {mg : Str → Option Value} {nm : Str} {C : Addr} (T : Er K mg nm C) : PySem.W.exmOne K (.ref C) (.ref C) = some true := PySem.W.exm_ref T.b T.d T.t T.s
def rE (K : PySem.W.Frag) (D a : Addr) (cls : Value) (d : Option Addr) : List V → Hp → VK → Prop := fun xs H Q => cls = .ref D ∧ d = none ∧ rIsE K D a xs H Q
section
variable {X : Cx}
/-- raise nm('..') -/
theorem raiseE {W : WX} {nm : Str} {C : Addr} {m : Str} {j : Nat} {p p2 pos pos2 : Pos} (T : Er X.K X.mg nm C) (hc : X.calm = true) (tk : Takes X W) (hg : Gl X nm) (hdb : (nm == ("__debug__" : Str)) = false := by decide) :
    PS X (.Raise (some (.Call (.Name nm p) [.Constant (.str m) j p2] [] pos)) none pos2) (fun _ σ H => W (.ref C) none σ H) :=
  ps_raise hc tk (pmk_own PySem.F.excBase_ValueError T.x T.g T.k (raises_own T.b T.t) hg hdb)
/-- isinstance of the error that the suite holds -/
theorem call_isE2 {a D : Addr} {cls : Value} {d : Option Addr} {oe : Obj} {pn : List (Addr × Obj)} (C : ExcC X.K D) (hz : Zc cls d oe) (hf : ∃ vs, oe.data = .fields vs) : CallR (X.suite a ((a, oe) :: pn)) (.builtin "isinstance") (rE X.K D a cls d) := by
  intro pins s σ H xs us Q I r h
  obtain ⟨rfl, rfl, h⟩ := h
  exact call_isE C hz hf pins s σ H xs us Q I r h
end

/-! ### Euclid's loop, by Fibonacci's numbers -/
def fb : Nat → Nat
  | 0 => 0
  | 1 => 1
  | n + 2 => fb (n + 1) + fb n
theorem fb_mono (n : Nat) : fb n ≤ fb (n + 1) ∨ n = 0 := by
  cases n with
  | zero => exact .inr rfl
  | succ n => left; rw [fb]; omega
theorem fb_grow : ∀ n : Nat, 3 * 4 ^ n ≤ fb (3 * n + 4)
  | 0 => by decide
  | n + 1 => by
    have ih := fb_grow n
    have e1 : fb (3 * (n + 1) + 4) = fb (3 * n + 6) + fb (3 * n + 5) := by rw [show 3 * (n + 1) + 4 = (3 * n + 5) + 2 by omega, fb]
    have e2 : fb (3 * n + 6) = fb (3 * n + 5) + fb (3 * n + 4) := by rw [show 3 * n + 6 = (3 * n + 4) + 2 by omega, fb]
    have e3 : fb (3 * n + 5) = fb (3 * n + 4) + fb (3 * n + 3) := by rw [show 3 * n + 5 = (3 * n + 3) + 2 by omega, fb]
    have e4 : fb (3 * n + 4) = fb (3 * n + 3) + fb (3 * n + 2) := by rw [show 3 * n + 4 = (3 * n + 2) + 2 by omega, fb]
    have e5 := (fb_mono (3 * n + 2)).resolve_right (by omega)
    have e5 : fb (3 * n + 2) ≤ fb (3 * n + 3) := e5
    rw [Nat.pow_succ]
    omega
theorem fb_600 : 2 ^ 397 ≤ fb 600 := by
  have h := fb_grow 198
  have e : fb (3 * 198 + 4) = fb 598 := rfl
  rw [e] at h
  have h1 : fb 598 ≤ fb 599 := (fb_mono 598).resolve_right (by decide)
  have h2 : fb 599 ≤ fb 600 := (fb_mono 599).resolve_right (by decide)
  have h3 : (2 : Nat) ^ 397 ≤ 3 * 4 ^ 198 := by decide +kernel
  omega
def Fit2 (i A B : Nat) : Prop := (i = 0 ∧ B < 2 ^ 395) ∨ ∃ j, i = j + 1 ∧ B < A ∧ fb (j + 1) * A + fb j * B < 2 ^ 395
theorem fit2_step {i A B : Nat} (h : Fit2 i A B) (hb : B ≠ 0) : Fit2 (i + 1) B (A % B) := by
  have hr : A % B < B := Nat.mod_lt _ (Nat.pos_of_ne_zero hb)
  rcases h with ⟨rfl, h⟩ | ⟨j, rfl, hlt, h⟩
  · refine .inr ⟨0, rfl, hr, ?_⟩
    show 1 * B + 0 * (A % B) < _
    omega
  · refine .inr ⟨j + 1, rfl, hr, ?_⟩
    have h2 : B + A % B ≤ A := by
      have e : B * (A / B) + A % B = A := Nat.div_add_mod A B
      have q : 1 ≤ A / B := Nat.div_pos (Nat.le_of_lt hlt) (Nat.pos_of_ne_zero hb)
      have m : B * 1 ≤ B * (A / B) := Nat.mul_le_mul_left _ q
      omega
    have h3 := Nat.mul_le_mul_left (fb (j + 1)) h2
    have e : fb (j + 1 + 1) * B + fb (j + 1) * (A % B) = fb (j + 1) * (B + A % B) + fb j * B := by
      rw [show fb (j + 1 + 1) = fb (j + 1) + fb j from rfl, Nat.add_mul, Nat.mul_add]
      omega
    rw [e]
    omega
theorem fit2_end {A B : Nat} (h : Fit2 600 A B) : B = 0 := by
  rcases h with ⟨h, _⟩ | ⟨j, hj, hlt, h⟩
  · omega
  · by_cases hb : B = 0
    · exact hb
    · exfalso
      have : j = 599 := by omega
      subst this
      have h1 : fb 600 * 1 ≤ fb (599 + 1) * A := Nat.mul_le_mul_left _ (by omega)
      have h2 := fb_600
      have h3 : (2 : Nat) ^ 395 < 2 ^ 397 := Nat.pow_lt_pow_right (by decide) (by decide)
      generalize fb (599 + 1) * A = X at *
      generalize fb 600 = Y at *
      generalize fb 599 * B = W at *
      omega
/-! ### the law's greatest common divisor, by a while loop -/
abbrev s__law_gcd : Stmt := topS 29
theorem sc__law_gcd : FnScope ["a", "b", "c"] ["a", "b"] (defScope s__law_gcd) := ⟨rfl, rfl, rfl, by decide +kernel, rfl, by decide +kernel, by decide +kernel⟩
def spGcd : Sp := fun vs H Q _ => ∃ a b : Int, vs = [.int a, .int b] ∧ b.natAbs < 2 ^ 395 ∧ Q (.int (g2 a b)) H
theorem abs_of (a : Int) : (if a < 0 then -a else a) = ((a.natAbs : Nat) : Int) := by
  split <;> omega
theorem ok_gcd {f : Addr} {fd : FuncData} {k : Nat} (F : Fun K "_law_gcd" "_law_gcd" s__law_gcd f fd) (Z : Glb mg) : FnOk P w K mg base CX0 (k + 1) f fd ["a", "b"] spGcd := by
  refine F.ok sc__law_gcd (fun vs H Q E h => ?_) (fun cdv A outer s H vs Q E hr h => ?_)
  · obtain ⟨a, b, rfl, _⟩ := h
    rfl
  · obtain ⟨a, b, rfl, hb, q⟩ := h
    refine ⟨_, (pss_cons (ps_set (i := 0) sc__law_gcd.nd rfl (.inl rfl) (pe_callB call_abs (by rfl) Z.m_abs (by decide +kernel) (pa_cons (pv 0) pa_nil)))
      (pss_cons (ps_set (i := 1) sc__law_gcd.nd rfl (.inl rfl) (pe_callB call_abs (by rfl) Z.m_abs (by decide +kernel) (pa_cons (pv 1) pa_nil)))
      (pss_cons (ps_while PassesOwn.never (pt_cmpR op_gt (pv 1) pe_int (nomark _)) (pss_cons (ps_set (i := 2) sc__law_gcd.nd rfl (.inl rfl) (pe_op op_modN (pv 0) (pv 1)))
      (pss_cons (ps_set (i := 0) sc__law_gcd.nd rfl (.inl rfl) (pv 1))
      (pss_one (ps_set (i := 1) sc__law_gcd.nd rfl (.inl rfl) (pv 2))))))
      (pss_one (ps_ret (pv 0)))))), ?_⟩
    refine ⟨_, rfl, a, rfl, _, rfl, b, rfl, ?_⟩
    rw [abs_of, abs_of]
    refine ⟨fun m σ H' => H' = H ∧ ∃ (A B : Nat) (y2 : Option V), σ = [some (.int A), some (.int B), y2] ∧ Nat.gcd A B = Nat.gcd a.natAbs b.natAbs ∧ m = B, ⟨_, rfl, _, _, none, rfl, rfl, rfl⟩, fun m σ H5 hW => ?_⟩
    obtain ⟨rfl, A', B', y2, rfl, hg, rfl⟩ := hW
    refine ⟨_, rfl, _, _, rfl, rfl, _, rfl, ite2 (fun c => ?_) (fun c => ?_)⟩
    · have c : (0 : Int) < (m : Int) := of_decide_eq_true c
      have em : ((A' : Int).fmod (m : Int)) = ((A' % m : Nat) : Int) := by
        rw [Int.fmod_eq_emod_of_nonneg _ (by omega)]
        rfl
      refine ⟨fun σ' H' => H' = H5 ∧ ∃ (A B : Nat) (y2 : Option V), σ' = [some (.int A), some (.int B), y2] ∧ Nat.gcd A B = Nat.gcd a.natAbs b.natAbs ∧ B < m, fun σ' H' h => ?_, ?_⟩
      · obtain ⟨rfl, A, B, y2, rfl, h1, h2⟩ := h
        exact ⟨B, h2, rfl, A, B, y2, rfl, h1, rfl⟩
      · refine ⟨_, rfl, _, rfl, _, _, rfl, rfl, by omega, ?_⟩
        refine ⟨_, rfl, _, rfl, rfl, m, A' % m, some (.int ((A' % m : Nat) : Int)), ?_, ?_, Nat.mod_lt _ (by omega)⟩
        · rw [← em]
          rfl
        · rw [gcd_turn, hg]
    · have e0 : m = 0 := by
        by_cases z : m = 0
        · exact z
        · exact absurd (decide_eq_true (show (0 : Int) < (m : Int) by omega)) c
      subst e0
      rw [Nat.gcd_zero_right] at hg
      refine ⟨_, rfl, ?_⟩
      rw [hg]
      exact q

/-! ### the law's draws: what they leave is told by bounds alone -/
abbrev s__law_spread : Stmt := topS 27
theorem sc__law_spread : FnScope ["cell", "mixed", "total", "k"] ["cell"] (defScope s__law_spread) := ⟨rfl, rfl, rfl, by decide +kernel, rfl, by decide +kernel, by decide +kernel⟩
def spSpread : Sp := fun vs H Q _ => ∃ c : Int, vs = [.int c] ∧ ∀ t : Int, Q (.int t) H
theorem ok_spread {f : Addr} {fd : FuncData} {k : Nat} (F : Fun K "_law_spread" "_law_spread" s__law_spread f fd) (Z : Glb mg) : FnOk P w K mg base CX0 (k + 1) f fd ["cell"] spSpread := by
  refine F.ok sc__law_spread (fun vs H Q E h => ?_) (fun cdv A outer s H vs Q E hr h => ?_)
  · obtain ⟨c, rfl, _⟩ := h
    rfl
  · obtain ⟨c, rfl, q⟩ := h
    refine ⟨_, (pss_cons (ps_set (i := 1) sc__law_spread.nd rfl (.inl rfl) (pe_op op_modN (pe_callTy call_int1 (by rfl) Z.m_int (by decide +kernel) (pa_cons (pv 0) pa_nil)) pe_int))
      (pss_cons (ps_set (i := 2) sc__law_spread.nd rfl (.inl rfl) pe_int)
      (pss_cons (ps_for PassesOwn.never rfl (pi_range1 rfl Z.m_range (pa_cons pe_int pa_nil)) (pg_name (i := 3) sc__law_spread.nd rfl (.inl rfl)) (pss_cons (ps_set (i := 1) sc__law_spread.nd rfl (.inl rfl) (pe_op op_modN (pe_callTy call_int1 (by rfl) Z.m_int (by decide +kernel) (pa_cons (pe_op op_add (pe_op op_add (pe_op op_mul (pv 1) pe_int) pe_int) (pv 3)) pa_nil)) pe_int))
      (pss_one (ps_set (i := 2) sc__law_spread.nd rfl (.inl rfl) (pe_op op_add (pe_op op_mul (pv 2) pe_int) (pv 1))))))
      (pss_one (ps_ret (pv 2)))))), ?_⟩
    refine ⟨_, rfl, .inl ⟨_, rfl, _, _, rfl, rfl, (by show (2147483647 : Int) ≠ 0; decide), 4, rfl, by decide, by decide, ?_⟩⟩
    refine for_range (lo := 0) (n := 4) (fun i σ H' => H' = H ∧ ∃ (m t : Int) (y3 : Option V), σ = [some (.int c), some (.int m), some (.int t), y3]) ⟨rfl, _, _, _, rfl⟩ (fun i σ H' hi hP => ?_) (fun σ H' hP => ?_)
    · obtain ⟨rfl, m, t, y3, rfl⟩ := hP
      refine ⟨_, rfl, _, _, rfl, rfl, .inr ⟨by decide, by decide⟩, _, _, rfl, rfl, _, rfl, _, _, rfl, rfl, .inl ⟨_, rfl, _, _, rfl, rfl, (by show (2147483647 : Int) ≠ 0; decide), ?_⟩⟩
      exact ⟨_, rfl, _, _, rfl, rfl, .inr ⟨by decide, by decide⟩, _, rfl, _, _, rfl, rfl, rfl, _, _, _, rfl⟩
    · obtain ⟨rfl, m, t, y3, rfl⟩ := hP
      exact ⟨_, rfl, q t⟩
/-- a pool: its script's ints, then four ints -/
def Pl (H : Hp) (p : Addr) : Prop := ∃ (q : Addr) (ns : List Int) (a : Nat) (b c d : Int), H p = some (.lst [.ref q, .int a, .int b, .int c, .int d]) ∧ H q = some (.lst (ns.map V.int)) ∧ q ≠ p
/-- the head of the list at p -/
def Hd (H : Hp) (p q : Addr) : Prop := ∃ l, H p = some (.lst (.ref q :: l))
/-- all but p is as it was, and p has its head -/
def But (p : Addr) (H H' : Hp) : Prop := (∀ x, x ≠ p → H' x = H x) ∧ ∀ q, Hd H p q → Hd H' p q
theorem But.refl (p : Addr) (H : Hp) : But p H H := ⟨fun _ _ => rfl, fun _ h => h⟩
theorem But.trans {p : Addr} {H H1 H2 : Hp} (a : But p H H1) (b : But p H1 H2) : But p H H2 := ⟨fun x h => (b.1 x h).trans (a.1 x h), fun q h => b.2 q (a.2 q h)⟩
theorem But.upd {p q : Addr} {H : Hp} {l l' : List V} (hp : H p = some (.lst (.ref q :: l))) : But p H (upd H p (.lst (.ref q :: l'))) :=
  ⟨fun _ h => upd_ne h, fun q' h => by
    obtain ⟨l2, e⟩ := h
    have := hp.symm.trans e
    injection this with this
    injection this with this
    injection this with this
    injection this with this
    subst this
    exact ⟨l', upd_same⟩⟩
theorem pl_upd {H : Hp} {p q : Addr} {ns : List Int} (a : Nat) (b c d : Int) (hq : H q = some (.lst (ns.map V.int))) (ne : q ≠ p) : Pl (upd H p (.lst [.ref q, .int a, .int b, .int c, .int d])) p :=
  ⟨q, ns, a, b, c, d, upd_same, by rw [upd_ne ne]; exact hq, ne⟩
abbrev s__law_draw : Stmt := topS 28
theorem sc__law_draw : FnScope ["pool", "many", "cell", "mixed", "value"] ["pool", "many"] (defScope s__law_draw) := ⟨rfl, rfl, rfl, by decide +kernel, rfl, by decide +kernel, by decide +kernel⟩
def spDraw : Sp := fun vs H Q _ => ∃ (p : Addr) (m : Int), vs = [.ref p, .int m] ∧ 0 < m ∧ m.natAbs < 2 ^ 8000 ∧ Pl H p ∧ ∀ (v : Int) (H' : Hp), 0 ≤ v → v < m → Pl H' p → But p H H' → Q (.int v) H'
theorem ok_draw {f : Addr} {fd : FuncData} {k : Nat} (F : Fun K "_law_draw" "_law_draw" s__law_draw f fd) (Z : Glb mg)
    (C_law_spread : Call P w K mg base k "_law_spread" ["cell"] spSpread) : FnOk P w K mg base CX0 (k + 1) f fd ["pool", "many"] spDraw := by
  refine F.ok sc__law_draw (fun vs H Q E h => ?_) (fun cdv A outer s H vs Q E hr h => ?_)
  · obtain ⟨p, m, rfl, _⟩ := h
    rfl
  · obtain ⟨p, m, rfl, hm, hb, hP, q⟩ := h
    refine ⟨_, (pss_cut (ps_if (PW.pt (pw_and (pt_cmpR op_le (pe_ix (r := rIxL K) ix_list (pv 0) pe_int (fun _ _ => rfl)) pe_int (nomark _)) (pw_and1 (pt_cmpR op_lt (pe_ix (r := rIxL K) ix_list (pv 0) pe_int (fun _ _ => rfl)) (pe_callB call_len_seq (by rfl) Z.m_len PySem.boot_len (pa_cons (pe_ix (r := rIxL K) ix_list (pv 0) pe_int (fun _ _ => rfl)) pa_nil)) (nomark _))))) (pss_cons (ps_set (i := 2) sc__law_draw.nd rfl (.inl rfl) (pe_ix (r := rIxL K) ix_list (pe_ix (r := rIxL K) ix_list (pv 0) pe_int (fun _ _ => rfl)) (pe_ix (r := rIxL K) ix_list (pv 0) pe_int (fun _ _ => rfl)) (fun _ _ => rfl)))
      (pss_cons (ps_asg (pe_op op_add (pe_ix (r := rIxL K) ix_list (pv 0) pe_int (fun _ _ => rfl)) pe_int) (pg_sub (pv 0) pe_int set_list))
      (pss_cons (ps_asg (pv 2) (pg_sub (pv 0) pe_int set_list))
      (pss_one (ps_if (pt_cmpR op_lt (pv 2) pe_int (nomark _)) (pss_one (ps_asg (pe_call C_law_spread.G hr (by rfl) C_law_spread.m C_law_spread.kp C_law_spread.b .nil pass0 (pa_cons (pv 2) pa_nil)) (pg_sub (pv 0) pe_int set_list))) pss_nil))))) pss_nil)
      (pss_cons (ps_asg (pe_op op_add (pe_ix (r := rIxL K) ix_list (pv 0) pe_int (fun _ _ => rfl)) pe_int) (pg_sub (pv 0) pe_int set_list))
      (pss_cons (ps_if (pt_cmpR op_le (pe_ix (r := rIxL K) ix_list (pv 0) pe_int (fun _ _ => rfl)) pe_int (nomark _)) (pss_cons (ps_set (i := 3) sc__law_draw.nd rfl (.inl rfl) (pe_op op_modN (pe_callTy call_int1 (by rfl) Z.m_int (by decide +kernel) (pa_cons (pe_op op_add (pe_op op_add (pe_op op_mul (pe_ix (r := rIxL K) ix_list (pv 0) pe_int (fun _ _ => rfl)) pe_int) (pe_op op_mul (pe_ix (r := rIxL K) ix_list (pv 0) pe_int (fun _ _ => rfl)) pe_int)) pe_int) pa_nil)) pe_int))
      (pss_cons (ps_set (i := 3) sc__law_draw.nd rfl (.inl rfl) (pe_op op_modN (pe_callTy call_int1 (by rfl) Z.m_int (by decide +kernel) (pa_cons (pe_op op_add (pe_op op_mul (pv 3) pe_int) (pe_ix (r := rIxL K) ix_list (pv 0) pe_int (fun _ _ => rfl))) pa_nil)) pe_int))
      (pss_one (ps_ret (pe_op op_modN (pe_op op_fdivN (pv 3) pe_int) (pv 1)))))) pss_nil)
      (pss_cons (ps_set (i := 4) sc__law_draw.nd rfl (.inl rfl) (pe_op op_modN (pe_callTy call_int1 (by rfl) Z.m_int (by decide +kernel) (pa_cons (pe_ix (r := rIxL K) ix_list (pv 0) pe_int (fun _ _ => rfl)) pa_nil)) (pv 1)))
      (pss_cons (ps_asg (pe_op op_fdivW (pe_ix (r := rIxL K) ix_list (pv 0) pe_int (fun _ _ => rfl)) (pv 1)) (pg_sub (pv 0) pe_int set_list))
      (pss_one (ps_ret (pv 4)))))))), ?_⟩
    refine ⟨fun σ H' => ∃ y2 : Option V, σ = [some (.ref p), some (.int m), y2, none, none] ∧ Pl H' p ∧ But p H H', ?_, ?_⟩
    · obtain ⟨q', ns, a, b, c, d, hp, hq, ne⟩ := hP
      refine ⟨_, rfl, _, _, _, _, rfl, rfl, SqL.of hp, atI_nat (j := 2) rfl, _, _, rfl, rfl, _, rfl, ite2 (fun e1 => ?_) (fun e1 => ?_)⟩
      · refine ⟨_, rfl, _, _, _, _, rfl, rfl, SqL.of hp, atI_nat (j := 1) rfl, _, rfl, _, _, _, _, rfl, rfl, SqL.of hp, atI_nat (j := 0) rfl, _, _, rfl, .inl (SqL.of hq), _, _, rfl, rfl, _, rfl, ite2 (fun e2 => ?_) (fun e2 => ?_)⟩
        · have e3 : a < ns.length := by
            have := of_decide_eq_true e2
            rw [List.length_map] at this
            omega
          have g1 : (ns.map V.int)[a]? = some (.int ns[a]) := by
            rw [List.getElem?_map, List.getElem?_eq_getElem e3]
            rfl
          -- cell = pool[0][pool[1]]
          refine ⟨_, rfl, _, _, _, _, rfl, rfl, SqL.of hp, atI_nat (j := 0) rfl, _, rfl, _, _, _, _, rfl, rfl, SqL.of hp, atI_nat (j := 1) rfl, _, _, _, _, rfl, rfl, SqL.of hq, atI_nat g1, ?_⟩
          -- pool[1] = pool[1] + 1
          refine ⟨_, rfl, _, _, _, _, rfl, rfl, SqL.of hp, atI_nat (j := 1) rfl, _, _, rfl, rfl, _, rfl, _, _, _, 1, rfl, rfl, hp, rfl, ?_⟩
          -- pool[2] = cell
          refine ⟨_, rfl, _, rfl, _, _, _, 2, rfl, rfl, upd_same, rfl, ?_⟩
          rw [upd_upd]
          refine ⟨_, rfl, _, _, rfl, rfl, _, rfl, ite2 (fun e4 => ?_) (fun e4 => ?_)⟩
          · refine ⟨_, rfl, _, rfl, fun t => ⟨_, rfl, _, _, _, 2, rfl, rfl, upd_same, rfl, ?_⟩⟩
            rw [upd_upd]
            exact ⟨some (.int ns[a]), rfl, pl_upd (a + 1) t c d hq ne, (But.upd hp)⟩
          · exact ⟨some (.int ns[a]), rfl, pl_upd (a + 1) ns[a] c d hq ne, (But.upd hp)⟩
        · exact ⟨none, rfl, ⟨q', ns, a, b, c, d, hp, hq, ne⟩, But.refl _ _⟩
      · exact iteF ⟨none, rfl, ⟨q', ns, a, b, c, d, hp, hq, ne⟩, But.refl _ _⟩
    · intro σ H1 hW
      obtain ⟨y2, rfl, ⟨q', ns, a, b, c, d, hp, hq, ne⟩, hB⟩ := hW
      -- pool[3] = pool[3] + 1
      refine ⟨_, rfl, _, _, _, _, rfl, rfl, SqL.of hp, atI_nat (j := 3) rfl, _, _, rfl, rfl, _, rfl, _, _, _, 3, rfl, rfl, hp, rfl, ?_⟩
      have h0 : (upd H1 p (.lst [.ref q', .int a, .int b, .int (c + 1), .int d])) p = some (.lst [.ref q', .int a, .int b, .int (c + 1), .int d]) := upd_same
      refine ⟨_, rfl, _, _, _, _, rfl, rfl, SqL.of h0, atI_nat (j := 2) rfl, _, _, rfl, rfl, _, rfl, ite2 (fun e1 => ?_) (fun e1 => ?_)⟩
      · refine ⟨_, rfl, _, _, _, _, rfl, rfl, SqL.of h0, atI_nat (j := 4) rfl, _, _, rfl, rfl, .inr ⟨by decide, by decide⟩, _, rfl, _, _, _, _, rfl, rfl, SqL.of h0, atI_nat (j := 3) rfl, _, _, rfl, rfl, .inr ⟨by decide, by decide⟩, _, _, rfl, rfl, _, _, rfl, rfl, .inl ⟨_, rfl, _, _, rfl, rfl, (by show (2147483647 : Int) ≠ 0; decide), ?_⟩⟩
        refine ⟨_, rfl, _, _, rfl, rfl, .inr ⟨by decide, by decide⟩, _, rfl, _, _, _, _, rfl, rfl, SqL.of h0, atI_nat (j := 3) rfl, _, _, rfl, rfl, .inl ⟨_, rfl, _, _, rfl, rfl, (by show (2147483629 : Int) ≠ 0; decide), ?_⟩⟩
        refine ⟨_, rfl, _, _, rfl, rfl, ⟨by decide, by decide⟩, _, rfl, _, _, rfl, rfl, (by show m ≠ 0; omega), ?_⟩
        exact q _ _ (Int.fmod_nonneg_of_pos _ hm) (Int.fmod_lt_of_pos _ hm) (pl_upd a b (c + 1) d hq ne) (hB.trans (But.upd hp))
      · refine ⟨_, rfl, _, _, _, _, rfl, rfl, SqL.of h0, atI_nat (j := 2) rfl, .inl ⟨_, rfl, _, rfl, _, _, rfl, rfl, (by show m ≠ 0; omega), ?_⟩⟩
        refine ⟨_, rfl, _, _, _, _, rfl, rfl, SqL.of h0, atI_nat (j := 2) rfl, _, rfl, _, _, rfl, rfl, wide_div hm hb (by decide) (by decide), _, rfl, _, _, _, 2, rfl, rfl, h0, rfl, ?_⟩
        rw [upd_upd]
        refine ⟨_, rfl, ?_⟩
        exact q _ _ (Int.fmod_nonneg_of_pos _ hm) (Int.fmod_lt_of_pos _ hm) (pl_upd a _ (c + 1) d hq ne) (hB.trans (But.upd hp))

/-! ### the law's pool -/
abbrev s__law_pool : Stmt := topS 26
theorem sc__law_pool : FnScope ["script", "salt", "cell"] ["script"] (defScope s__law_pool) := ⟨rfl, rfl, rfl, by decide +kernel, rfl, by decide +kernel, by decide +kernel⟩
theorem same_upd {H : Hp} {p : Addr} {o : HO} (h : H p = none) : Same H (upd H p o) := fun b x e => by
  rw [upd_ne (ne_of_none e h)]
  exact e
theorem cut_int {ns : List Int} {lo hi : Option Int} {i : Nat} {x : V} (h : (cutV (ns.map V.int) lo hi)[i]? = some x) : ∃ n : Int, x = .int n := by
  have m := List.mem_of_getElem? h
  unfold cutV at m
  have m2 := List.mem_of_mem_drop (List.mem_of_mem_take m)
  obtain ⟨n, _, e⟩ := List.mem_map.mp m2
  exact ⟨n, e.symm⟩
def spPool (K : PySem.W.Frag) : Sp := fun vs H Q _ => ∃ (a : Addr) (ns : List Int), vs = [.ref a] ∧ SqL K H a (ns.map V.int) ∧ ∀ (H' : Hp) (p : Addr), Same H H' → H p = none → Pl H' p → Q (.ref p) H'
theorem ok_pool {f : Addr} {fd : FuncData} {k : Nat} (F : Fun K "_law_pool" "_law_pool" s__law_pool f fd) (Z : Glb mg) : FnOk P w K mg base CX0 (k + 1) f fd ["script"] (spPool K) := by
  refine F.ok sc__law_pool (fun vs H Q E h => ?_) (fun cdv A outer s H vs Q E hr h => ?_)
  · obtain ⟨a, ns, rfl, _⟩ := h
    rfl
  · obtain ⟨a, ns, rfl, hS, q⟩ := h
    refine ⟨_, (pss_cons (ps_set (i := 1) sc__law_pool.nd rfl (.inl rfl) pe_int)
      (pss_cons (ps_for PassesOwn.never rfl (pi_list (pe_slice (r := rSlL K) sl_list (pv 0) po_none (po_some pe_int))) (pg_name (i := 2) sc__law_pool.nd rfl (.inl rfl)) (pss_one (ps_set (i := 1) sc__law_pool.nd rfl (.inl rfl) (pe_op op_modN (pe_callTy call_int1 (by rfl) Z.m_int (by decide +kernel) (pa_cons (pe_op op_add (pe_op op_mul (pv 1) pe_int) (pv 2)) pa_nil)) pe_int))))
      (pss_one (ps_ret (pe_lst (pa_cons (pe_callTy call_list_of (by rfl) Z.m_list (by decide +kernel) (pa_cons (pv 0) pa_nil)) (pa_cons pe_int (pa_cons pe_int (pa_cons pe_int (pa_cons (pv 1) pa_nil)))))))))), ?_⟩
    refine ⟨_, rfl, _, rfl, a, ns.map V.int, rfl, hS, fun c nc => ?_⟩
    have s1 : Same H (upd H c (.lst (cutV (ns.map V.int) none (some 63)))) := same_upd nc
    refine ⟨c, rfl, ⟨_, SqL.of upd_same⟩, ?_⟩
    refine for_list (xs := cutV (ns.map V.int) none (some 63)) (fun i σ H' => H' = upd H c (.lst (cutV (ns.map V.int) none (some 63))) ∧ ∃ (m : Int) (y2 : Option V), σ = [some (.ref a), some (.int m), y2]) ⟨rfl, _, _, rfl⟩ (fun i σ H' _ hP => by obtain ⟨rfl, _⟩ := hP; exact SqL.of upd_same) (fun i x σ H' hx hP => ?_) (fun σ H' hP => ?_)
    · obtain ⟨rfl, m, y2, rfl⟩ := hP
      obtain ⟨n, rfl⟩ := cut_int hx
      exact ⟨_, rfl, _, _, rfl, rfl, .inr ⟨by decide, by decide⟩, _, rfl, _, _, rfl, rfl, .inl ⟨_, rfl, _, _, rfl, rfl, (by show (1000003 : Int) ≠ 0; decide), rfl, _, _, rfl⟩⟩
    · obtain ⟨rfl, m, y2, rfl⟩ := hP
      refine ⟨_, rfl, a, ns.map V.int, rfl, .inl (s1.seq hS), fun l nl => ⟨_, rfl, ?_, fun p np => ?_⟩⟩
      · exact Nat.le_of_lt (small1000 (show 5 ≤ 1000 by decide))
      · have s2 : Same (upd H c (.lst (cutV (ns.map V.int) none (some 63)))) (upd (upd H c (.lst (cutV (ns.map V.int) none (some 63)))) l (.lst (ns.map V.int))) := same_upd nl
        have lp : l ≠ p := ne_of_none upd_same np
        refine q _ _ ((s1.trans s2).trans (same_upd np)) ((s1.trans s2).free np) ⟨l, ns, 0, 0, 0, m, upd_same, ?_, lp⟩
        rw [upd_ne lp]
        exact upd_same

/-! ### the law's comparison of two answers: alike data is told to be the same -/
inductive Alike (H : Hp) : Nat → V → V → Prop where
  | int (n : Nat) (i : Int) : Alike H n (.int i) (.int i)
  | bl (n : Nat) (b : Bool) : Alike H n (.bl b) (.bl b)
  | non (n : Nat) : Alike H n .non .non
  | str (n : Nat) (z : Str) : Alike H n (.str z) (.str z)
  | tup {n : Nat} {a b : Addr} {xs ys : List V} (ha : H a = some (.tup xs)) (hb : H b = some (.tup ys)) (hl : xs.length = ys.length) (hm : xs.length ≤ 1000000) (h : ∀ (i : Nat) (x y : V), xs[i]? = some x → ys[i]? = some y → Alike H n x y) : Alike H (n + 1) (.ref a) (.ref b)
  | lst {n : Nat} {a b : Addr} {xs ys : List V} (ha : H a = some (.lst xs)) (hb : H b = some (.lst ys)) (hl : xs.length = ys.length) (hm : xs.length ≤ 1000000) (h : ∀ (i : Nat) (x y : V), xs[i]? = some x → ys[i]? = some y → Alike H n x y) : Alike H (n + 1) (.ref a) (.ref b)
abbrev s__law_same : Stmt := topS 24
theorem sc__law_same : FnScope ["actual", "due", "k"] ["actual", "due"] (defScope s__law_same) := ⟨rfl, rfl, rfl, by decide +kernel, rfl, by decide +kernel, by decide +kernel⟩
def spSame (n : Nat) : Sp := fun vs H Q _ => ∃ x y : V, vs = [x, y] ∧ Alike H n x y ∧ Q (.bl true) H
structure SameG (mg : Str → Option Value) : Prop where
  mIs : mg "isinstance" = none
  mT : mg "tuple" = none
  mLi : mg "list" = none
  mL : mg "len" = none
  mR : mg "range" = none
  mB : mg "bool" = none
  mI : mg "int" = none
theorem ok_same {f : Addr} {fd : FuncData} {k n : Nat} (F : Fun K "_law_same" "_law_same" s__law_same f fd) (Z : Glb mg)
    (G : ∀ m, n = m + 1 → FnOk P w K mg base CX0 k f fd ["actual", "due"] (spSame m)) (gS : mg "_law_same" = some (.ref f)) (bS : Binds K fd ["actual", "due"] []) : FnOk P w K mg base CX0 (k + 1) f fd ["actual", "due"] (spSame n) := by
  refine F.ok sc__law_same (fun vs H Q E h => ?_) (fun cdv A outer s H vs Q E hr h => ?_)
  · obtain ⟨x, y, rfl, _⟩ := h
    rfl
  · obtain ⟨x, y, rfl, hA, q⟩ := h
    have nd := sc__law_same.nd
    cases hA with
    | int n i =>
      refine ⟨_, pss_cons (ps_if (PW.pt (pw_or (pt_val (pe_callB call_isi (by rfl) Z.m_isinstance (by decide +kernel) (pa_cons (pv 1) (pa_cons (pe_bltn (u := .type "tuple") (v := .ty "tuple") (by rfl) Z.m_tuple (by decide +kernel) rfl) pa_nil)))) (pw_or1 (pt_val (pe_callB call_isi (by rfl) Z.m_isinstance (by decide +kernel) (pa_cons (pv 1) (pa_cons (pe_bltn (u := .type "list") (v := .ty "list") (by rfl) Z.m_list (by decide +kernel) rfl) pa_nil))))))) (pss_cons ps_never (pss_cons ps_never (pss_cons ps_never (pss_one ps_never)))) pss_nil)
        (pss_cons (ps_if (pt_cmp (pc_isN (pv 1))) (pss_one ps_never) pss_nil)
        (pss_cons (ps_if (pt_val (pe_callB call_isi (by rfl) Z.m_isinstance (by decide +kernel) (pa_cons (pv 1) (pa_cons (pe_bltn (u := .type "bool") (v := .ty "bool") (by rfl) Z.m_bool (by decide +kernel) rfl) pa_nil)))) (pss_one ps_never) pss_nil)
        (pss_cons (ps_if (pt_val (pe_callB call_isi (by rfl) Z.m_isinstance (by decide +kernel) (pa_cons (pv 1) (pa_cons (pe_bltn (u := .type "int") (v := .ty "int") (by rfl) Z.m_int (by decide +kernel) rfl) pa_nil))))
          (pss_one (ps_ret (pe_and (pe_callB call_isi (by rfl) Z.m_isinstance (by decide +kernel) (pa_cons (pv 0) (pa_cons (pe_bltn (u := .type "int") (v := .ty "int") (by rfl) Z.m_int (by decide +kernel) rfl) pa_nil)))
            (pe_and (pe_not (pe_callB call_isi (by rfl) Z.m_isinstance (by decide +kernel) (pa_cons (pv 0) (pa_cons (pe_bltn (u := .type "bool") (v := .ty "bool") (by rfl) Z.m_bool (by decide +kernel) rfl) pa_nil))))
            (pe_one (pe_cmpR op_eq (pv 0) (pv 1) (nomark _))))))) pss_nil)
        (pss_one ps_never)))), ?_⟩
      have ty : TyX K H (.int i) (.type "int") := .base (.int i)
      refine ⟨_, rfl, _, _, _, _, _, rfl, ClsV.ty _, ty, kit_ty (by decide +kernel), false, rfl, iteF ⟨_, rfl, _, _, _, _, _, rfl, ClsV.ty _, ty, kit_ty (by decide +kernel), false, rfl, iteF ?_⟩⟩
      refine ⟨_, rfl, false, rfl, iteF ?_⟩
      refine ⟨_, rfl, _, _, _, _, _, rfl, ClsV.ty _, ty, kit_ty (by decide +kernel), false, rfl, iteF ?_⟩
      refine ⟨_, rfl, _, _, _, _, _, rfl, ClsV.ty _, ty, kit_ty (by decide +kernel), true, rfl, iteT ?_⟩
      refine ⟨_, rfl, _, _, _, _, _, rfl, ClsV.ty _, ty, kit_ty (by decide +kernel), true, rfl, iteT ?_⟩
      refine ⟨_, rfl, _, _, _, _, _, rfl, ClsV.ty _, ty, kit_ty (b := "bool") (r := false) (by decide +kernel), false, rfl, true, rfl, iteT ?_⟩
      refine ⟨_, rfl, _, rfl, rfl, ?_⟩
      rw [decide_eq_true rfl]
      exact q
    | str n z =>
      refine ⟨_, pss_cons (ps_if (PW.pt (pw_or (pt_val (pe_callB call_isi (by rfl) Z.m_isinstance (by decide +kernel) (pa_cons (pv 1) (pa_cons (pe_bltn (u := .type "tuple") (v := .ty "tuple") (by rfl) Z.m_tuple (by decide +kernel) rfl) pa_nil)))) (pw_or1 (pt_val (pe_callB call_isi (by rfl) Z.m_isinstance (by decide +kernel) (pa_cons (pv 1) (pa_cons (pe_bltn (u := .type "list") (v := .ty "list") (by rfl) Z.m_list (by decide +kernel) rfl) pa_nil))))))) (pss_cons ps_never (pss_cons ps_never (pss_cons ps_never (pss_one ps_never)))) pss_nil)
        (pss_cons (ps_if (pt_cmp (pc_isN (pv 1))) (pss_one ps_never) pss_nil)
        (pss_cons (ps_if (pt_val (pe_callB call_isi (by rfl) Z.m_isinstance (by decide +kernel) (pa_cons (pv 1) (pa_cons (pe_bltn (u := .type "bool") (v := .ty "bool") (by rfl) Z.m_bool (by decide +kernel) rfl) pa_nil)))) (pss_one ps_never) pss_nil)
        (pss_cons (ps_if (pt_val (pe_callB call_isi (by rfl) Z.m_isinstance (by decide +kernel) (pa_cons (pv 1) (pa_cons (pe_bltn (u := .type "int") (v := .ty "int") (by rfl) Z.m_int (by decide +kernel) rfl) pa_nil)))) (pss_one ps_never) pss_nil)
        (pss_one (ps_ret (pe_and (pe_callB call_isi (by rfl) Z.m_isinstance (by decide +kernel) (pa_cons (pv 0) (pa_cons (pe_bltn (u := .type "str") (v := .ty "str") (by rfl) Z.m_str (by decide +kernel) rfl) pa_nil)))
            (pe_one (pe_cmpR op_eq (pv 0) (pv 1) (nomark _))))))))), ?_⟩
      have ty : TyX K H (.str z) (.type "str") := .base (.str z)
      refine ⟨_, rfl, _, _, _, _, _, rfl, ClsV.ty _, ty, kit_ty (by decide +kernel), false, rfl, iteF ⟨_, rfl, _, _, _, _, _, rfl, ClsV.ty _, ty, kit_ty (by decide +kernel), false, rfl, iteF ?_⟩⟩
      refine ⟨_, rfl, false, rfl, iteF ?_⟩
      refine ⟨_, rfl, _, _, _, _, _, rfl, ClsV.ty _, ty, kit_ty (by decide +kernel), false, rfl, iteF ?_⟩
      refine ⟨_, rfl, _, _, _, _, _, rfl, ClsV.ty _, ty, kit_ty (by decide +kernel), false, rfl, iteF ?_⟩
      refine ⟨_, rfl, _, _, _, _, _, rfl, ClsV.ty _, ty, kit_ty (by decide +kernel), true, rfl, iteT ?_⟩
      refine ⟨_, rfl, _, rfl, rfl, ?_⟩
      rw [decide_eq_true rfl]
      exact q
    | bl n b =>
      refine ⟨_, pss_cons (ps_if (PW.pt (pw_or (pt_val (pe_callB call_isi (by rfl) Z.m_isinstance (by decide +kernel) (pa_cons (pv 1) (pa_cons (pe_bltn (u := .type "tuple") (v := .ty "tuple") (by rfl) Z.m_tuple (by decide +kernel) rfl) pa_nil)))) (pw_or1 (pt_val (pe_callB call_isi (by rfl) Z.m_isinstance (by decide +kernel) (pa_cons (pv 1) (pa_cons (pe_bltn (u := .type "list") (v := .ty "list") (by rfl) Z.m_list (by decide +kernel) rfl) pa_nil))))))) (pss_cons ps_never (pss_cons ps_never (pss_cons ps_never (pss_one ps_never)))) pss_nil)
        (pss_cons (ps_if (pt_cmp (pc_isN (pv 1))) (pss_one ps_never) pss_nil)
        (pss_cons (ps_if (pt_val (pe_callB call_isi (by rfl) Z.m_isinstance (by decide +kernel) (pa_cons (pv 1) (pa_cons (pe_bltn (u := .type "bool") (v := .ty "bool") (by rfl) Z.m_bool (by decide +kernel) rfl) pa_nil)))) (pss_one (ps_ret (pe_and (pe_callB call_isi (by rfl) Z.m_isinstance (by decide +kernel) (pa_cons (pv 0) (pa_cons (pe_bltn (u := .type "bool") (v := .ty "bool") (by rfl) Z.m_bool (by decide +kernel) rfl) pa_nil))) (pe_one (pe_cmpR op_eq (pv 0) (pv 1) (nomark _)))))) pss_nil)
        (pss_cons ps_never (pss_one ps_never)))), ?_⟩
      have ty : TyX K H (.bl b) (.type "bool") := .base (.bl b)
      refine ⟨_, rfl, _, _, _, _, _, rfl, ClsV.ty _, ty, kit_ty (by decide +kernel), false, rfl, iteF ⟨_, rfl, _, _, _, _, _, rfl, ClsV.ty _, ty, kit_ty (by decide +kernel), false, rfl, iteF ?_⟩⟩
      refine ⟨_, rfl, false, rfl, iteF ?_⟩
      refine ⟨_, rfl, _, _, _, _, _, rfl, ClsV.ty _, ty, kit_ty (by decide +kernel), true, rfl, iteT ?_⟩
      refine ⟨_, rfl, _, _, _, _, _, rfl, ClsV.ty _, ty, kit_ty (by decide +kernel), true, rfl, iteT ?_⟩
      refine ⟨_, rfl, _, rfl, rfl, ?_⟩
      rw [decide_eq_true rfl]
      exact q
    | non n =>
      refine ⟨_, pss_cons (ps_if (PW.pt (pw_or (pt_val (pe_callB call_isi (by rfl) Z.m_isinstance (by decide +kernel) (pa_cons (pv 1) (pa_cons (pe_bltn (u := .type "tuple") (v := .ty "tuple") (by rfl) Z.m_tuple (by decide +kernel) rfl) pa_nil)))) (pw_or1 (pt_val (pe_callB call_isi (by rfl) Z.m_isinstance (by decide +kernel) (pa_cons (pv 1) (pa_cons (pe_bltn (u := .type "list") (v := .ty "list") (by rfl) Z.m_list (by decide +kernel) rfl) pa_nil))))))) (pss_cons ps_never (pss_cons ps_never (pss_cons ps_never (pss_one ps_never)))) pss_nil)
        (pss_cons (ps_if (pt_cmp (pc_isN (pv 1))) (pss_one (ps_ret (pe_cmp (pc_isN (pv 0))))) pss_nil)
        (pss_cons ps_never (pss_cons ps_never (pss_one ps_never)))), ?_⟩
      have ty : TyX K H .non (.type "NoneType") := .base .non
      refine ⟨_, rfl, _, _, _, _, _, rfl, ClsV.ty _, ty, kit_ty (by decide +kernel), false, rfl, iteF ⟨_, rfl, _, _, _, _, _, rfl, ClsV.ty _, ty, kit_ty (by decide +kernel), false, rfl, iteF ?_⟩⟩
      refine ⟨_, rfl, true, rfl, iteT ?_⟩
      exact ⟨_, rfl, q⟩
    | @tup n a b xs ys ha hb hl hm hh =>
      refine ⟨_, pss_cons (ps_if (PW.pt (pw_or (pt_val (pe_callB call_isi (by rfl) Z.m_isinstance (by decide +kernel) (pa_cons (pv 1) (pa_cons (pe_bltn (u := .type "tuple") (v := .ty "tuple") (by rfl) Z.m_tuple (by decide +kernel) rfl) pa_nil)))) (pw_or1 (pt_val (pe_callB call_isi (by rfl) Z.m_isinstance (by decide +kernel) (pa_cons (pv 1) (pa_cons (pe_bltn (u := .type "list") (v := .ty "list") (by rfl) Z.m_list (by decide +kernel) rfl) pa_nil)))))))
        (pss_cons (ps_if (PW.pt (pw_or (pt_cmpR op_ne (pe_callB call_isi (by rfl) Z.m_isinstance (by decide +kernel) (pa_cons (pv 1) (pa_cons (pe_bltn (u := .type "tuple") (v := .ty "tuple") (by rfl) Z.m_tuple (by decide +kernel) rfl) pa_nil))) (pe_callB call_isi (by rfl) Z.m_isinstance (by decide +kernel) (pa_cons (pv 0) (pa_cons (pe_bltn (u := .type "tuple") (v := .ty "tuple") (by rfl) Z.m_tuple (by decide +kernel) rfl) pa_nil))) (nomark _)) (pw_or1 (pt_cmpR op_ne (pe_callB call_isi (by rfl) Z.m_isinstance (by decide +kernel) (pa_cons (pv 1) (pa_cons (pe_bltn (u := .type "list") (v := .ty "list") (by rfl) Z.m_list (by decide +kernel) rfl) pa_nil))) (pe_callB call_isi (by rfl) Z.m_isinstance (by decide +kernel) (pa_cons (pv 0) (pa_cons (pe_bltn (u := .type "list") (v := .ty "list") (by rfl) Z.m_list (by decide +kernel) rfl) pa_nil))) (nomark _))))) (pss_one ps_never) pss_nil)
          (pss_cons (ps_if (pt_cmpR op_ne (pe_callB call_len_seq (by rfl) Z.m_len PySem.boot_len (pa_cons (pv 0) pa_nil)) (pe_callB call_len_seq (by rfl) Z.m_len PySem.boot_len (pa_cons (pv 1) pa_nil)) (nomark _)) (pss_one ps_never) pss_nil)
          (pss_cons (ps_for PassesOwn.never rfl (pi_range1 rfl Z.m_range (pa_cons (pe_callB call_len_seq (by rfl) Z.m_len PySem.boot_len (pa_cons (pv 1) pa_nil)) pa_nil)) (pg_name (i := 2) nd rfl (.inl rfl))
            (pss_one (ps_if (pt_not (pt_val (pe_call (G _ rfl) hr (by rfl) gS F.kp bS .nil pass0 (pa_cons (pe_ix ix_tup (pv 0) (pv 2) (fun _ _ => rfl)) (pa_cons (pe_ix ix_tup (pv 1) (pv 2) (fun _ _ => rfl)) pa_nil))))) (pss_one ps_never) pss_nil)))
          (pss_one (ps_ret pe_bl))))) pss_nil)
        (pss_cons ps_never (pss_cons ps_never (pss_cons ps_never (pss_one ps_never)))), ?_⟩
      have ty0 : TyX K H (.ref a) (.type "tuple") := .base (.tup ha)
      have ty1 : TyX K H (.ref b) (.type "tuple") := .base (.tup hb)
      refine ⟨_, rfl, _, _, _, _, _, rfl, ClsV.ty _, ty1, kit_ty (b := "tuple") (r := true) (by decide +kernel), true, rfl, iteT ?_⟩
      refine ⟨_, rfl, _, _, _, _, _, rfl, ClsV.ty _, ty1, kit_ty (b := "tuple") (r := true) (by decide +kernel), _, rfl, _, _, _, _, _, rfl, ClsV.ty _, ty0, kit_ty (b := "tuple") (r := true) (by decide +kernel), rfl, false, rfl, iteF ⟨_, rfl, _, _, _, _, _, rfl, ClsV.ty _, ty1, kit_ty (b := "list") (r := false) (by decide +kernel), _, rfl, _, _, _, _, _, rfl, ClsV.ty _, ty0, kit_ty (b := "list") (r := false) (by decide +kernel), rfl, false, rfl, iteF ?_⟩⟩
      refine ⟨_, rfl, _, _, rfl, .inr (SqT.of ha), _, rfl, _, _, rfl, .inr (SqT.of hb), rfl, _, rfl, ?_⟩
      rw [hl, decide_eq_true rfl]
      refine iteF ⟨_, rfl, _, _, rfl, .inr (SqT.of hb), _, rfl, by omega, by omega, ?_⟩
      refine for_range (lo := 0) (n := ys.length) (fun i σ H' => H' = H ∧ ∃ y2 : Option V, σ = [some (.ref a), some (.ref b), y2]) ⟨rfl, _, rfl⟩ (fun i σ H' hi hP => ?_) (fun σ H' hP => ?_)
      · obtain ⟨rfl, y2, rfl⟩ := hP
        have g1 : xs[i]? = some xs[i] := List.getElem?_eq_getElem (by omega)
        have g2 : ys[i]? = some ys[i] := List.getElem?_eq_getElem hi
        have e0 : (0 : Int) + (i : Int) = ((i : Nat) : Int) := Int.zero_add _
        rw [e0]
        exact ⟨_, rfl, _, rfl, _, _, _, _, rfl, rfl, SqT.of ha, atI_nat g1, _, rfl, _, rfl, _, _, _, _, rfl, rfl, SqT.of hb, atI_nat g2, _, _, rfl, hh i _ _ g1 g2, true, rfl, iteF ⟨rfl, _, rfl⟩⟩
      · obtain ⟨rfl, y2, rfl⟩ := hP
        exact q
    | @lst n a b xs ys ha hb hl hm hh =>
      refine ⟨_, pss_cons (ps_if (PW.pt (pw_or (pt_val (pe_callB call_isi (by rfl) Z.m_isinstance (by decide +kernel) (pa_cons (pv 1) (pa_cons (pe_bltn (u := .type "tuple") (v := .ty "tuple") (by rfl) Z.m_tuple (by decide +kernel) rfl) pa_nil)))) (pw_or1 (pt_val (pe_callB call_isi (by rfl) Z.m_isinstance (by decide +kernel) (pa_cons (pv 1) (pa_cons (pe_bltn (u := .type "list") (v := .ty "list") (by rfl) Z.m_list (by decide +kernel) rfl) pa_nil)))))))
        (pss_cons (ps_if (PW.pt (pw_or (pt_cmpR op_ne (pe_callB call_isi (by rfl) Z.m_isinstance (by decide +kernel) (pa_cons (pv 1) (pa_cons (pe_bltn (u := .type "tuple") (v := .ty "tuple") (by rfl) Z.m_tuple (by decide +kernel) rfl) pa_nil))) (pe_callB call_isi (by rfl) Z.m_isinstance (by decide +kernel) (pa_cons (pv 0) (pa_cons (pe_bltn (u := .type "tuple") (v := .ty "tuple") (by rfl) Z.m_tuple (by decide +kernel) rfl) pa_nil))) (nomark _)) (pw_or1 (pt_cmpR op_ne (pe_callB call_isi (by rfl) Z.m_isinstance (by decide +kernel) (pa_cons (pv 1) (pa_cons (pe_bltn (u := .type "list") (v := .ty "list") (by rfl) Z.m_list (by decide +kernel) rfl) pa_nil))) (pe_callB call_isi (by rfl) Z.m_isinstance (by decide +kernel) (pa_cons (pv 0) (pa_cons (pe_bltn (u := .type "list") (v := .ty "list") (by rfl) Z.m_list (by decide +kernel) rfl) pa_nil))) (nomark _))))) (pss_one ps_never) pss_nil)
          (pss_cons (ps_if (pt_cmpR op_ne (pe_callB call_len_seq (by rfl) Z.m_len PySem.boot_len (pa_cons (pv 0) pa_nil)) (pe_callB call_len_seq (by rfl) Z.m_len PySem.boot_len (pa_cons (pv 1) pa_nil)) (nomark _)) (pss_one ps_never) pss_nil)
          (pss_cons (ps_for PassesOwn.never rfl (pi_range1 rfl Z.m_range (pa_cons (pe_callB call_len_seq (by rfl) Z.m_len PySem.boot_len (pa_cons (pv 1) pa_nil)) pa_nil)) (pg_name (i := 2) nd rfl (.inl rfl))
            (pss_one (ps_if (pt_not (pt_val (pe_call (G _ rfl) hr (by rfl) gS F.kp bS .nil pass0 (pa_cons (pe_ix ix_list (pv 0) (pv 2) (fun _ _ => rfl)) (pa_cons (pe_ix ix_list (pv 1) (pv 2) (fun _ _ => rfl)) pa_nil))))) (pss_one ps_never) pss_nil)))
          (pss_one (ps_ret pe_bl))))) pss_nil)
        (pss_cons ps_never (pss_cons ps_never (pss_cons ps_never (pss_one ps_never)))), ?_⟩
      have ty0 : TyX K H (.ref a) (.type "list") := .base (.lst ha)
      have ty1 : TyX K H (.ref b) (.type "list") := .base (.lst hb)
      refine ⟨_, rfl, _, _, _, _, _, rfl, ClsV.ty _, ty1, kit_ty (b := "tuple") (r := false) (by decide +kernel), false, rfl, iteF ⟨_, rfl, _, _, _, _, _, rfl, ClsV.ty _, ty1, kit_ty (b := "list") (r := true) (by decide +kernel), true, rfl, iteT ?_⟩⟩
      refine ⟨_, rfl, _, _, _, _, _, rfl, ClsV.ty _, ty1, kit_ty (b := "tuple") (r := false) (by decide +kernel), _, rfl, _, _, _, _, _, rfl, ClsV.ty _, ty0, kit_ty (b := "tuple") (r := false) (by decide +kernel), rfl, false, rfl, iteF ⟨_, rfl, _, _, _, _, _, rfl, ClsV.ty _, ty1, kit_ty (b := "list") (r := true) (by decide +kernel), _, rfl, _, _, _, _, _, rfl, ClsV.ty _, ty0, kit_ty (b := "list") (r := true) (by decide +kernel), rfl, false, rfl, iteF ?_⟩⟩
      refine ⟨_, rfl, _, _, rfl, .inl (SqL.of ha), _, rfl, _, _, rfl, .inl (SqL.of hb), rfl, _, rfl, ?_⟩
      rw [hl, decide_eq_true rfl]
      refine iteF ⟨_, rfl, _, _, rfl, .inl (SqL.of hb), _, rfl, by omega, by omega, ?_⟩
      refine for_range (lo := 0) (n := ys.length) (fun i σ H' => H' = H ∧ ∃ y2 : Option V, σ = [some (.ref a), some (.ref b), y2]) ⟨rfl, _, rfl⟩ (fun i σ H' hi hP => ?_) (fun σ H' hP => ?_)
      · obtain ⟨rfl, y2, rfl⟩ := hP
        have g1 : xs[i]? = some xs[i] := List.getElem?_eq_getElem (by omega)
        have g2 : ys[i]? = some ys[i] := List.getElem?_eq_getElem hi
        have e0 : (0 : Int) + (i : Int) = ((i : Nat) : Int) := Int.zero_add _
        rw [e0]
        exact ⟨_, rfl, _, rfl, _, _, _, _, rfl, rfl, SqL.of ha, atI_nat g1, _, rfl, _, rfl, _, _, _, _, rfl, rfl, SqL.of hb, atI_nat g2, _, _, rfl, hh i _ _ g1 g2, true, rfl, iteF ⟨rfl, _, rfl⟩⟩
      · obtain ⟨rfl, y2, rfl⟩ := hP
        exact q

/-- all but p is as it was, and there may be more -/
def Keep (p : Addr) (H H' : Hp) : Prop := ∀ x o, x ≠ p → H x = some o → H' x = some o
theorem But.keep {p : Addr} {H H' : Hp} (h : But p H H') : Keep p H H' := fun x o n e => (h.1 x n).trans e
theorem Keep.trans {p : Addr} {H H1 H2 : Hp} (a : Keep p H H1) (b : Keep p H1 H2) : Keep p H H2 := fun x o n e => b x o n (a x o n e)
theorem Keep.refl (p : Addr) (H : Hp) : Keep p H H := fun _ _ _ e => e
theorem Same.keep {p : Addr} {H H' : Hp} (h : Same H H') : Keep p H H' := fun x o _ e => h x o e
theorem Pl.lst {H : Hp} {p : Addr} (h : Pl H p) : ∃ xs, H p = some (.lst xs) := by
  obtain ⟨q, ns, a, b, c, d, e, _⟩ := h
  exact ⟨_, e⟩
theorem Pl.ne {H : Hp} {p x : Addr} {ys : List V} (h : Pl H p) (hx : H x = some (.tup ys)) : x ≠ p := by
  obtain ⟨xs, e⟩ := h.lst
  exact ne_of hx e (fun z => nomatch z)
theorem Pl.same {H H' : Hp} {p : Addr} (h : Pl H p) (s : Same H H') : Pl H' p := by
  obtain ⟨q, ns, a, b, c, d, e, e2, n⟩ := h
  exact ⟨q, ns, a, b, c, d, s _ _ e, s _ _ e2, n⟩
/-- a pool whose list stands at q -/
def Plq (H : Hp) (p q : Addr) : Prop := ∃ (ns : List Int) (a : Nat) (b c d : Int), H p = some (.lst [.ref q, .int a, .int b, .int c, .int d]) ∧ H q = some (.lst (ns.map V.int)) ∧ q ≠ p
theorem Pl.q {H : Hp} {p : Addr} (h : Pl H p) : ∃ q, Plq H p q := h
theorem Plq.pl {H : Hp} {p q : Addr} (h : Plq H p q) : Pl H p := ⟨q, h⟩
theorem Plq.but {H H' : Hp} {p q : Addr} (h : Plq H p q) (hB : But p H H') (h' : Pl H' p) : Plq H' p q := by
  obtain ⟨ns, a, b, c, d, e, e2, n⟩ := h
  obtain ⟨l, hl⟩ := hB.2 q ⟨_, e⟩
  obtain ⟨q2, ns2, a2, b2, c2, d2, f, f2, n2⟩ := h'
  have := hl.symm.trans f
  injection this with this
  injection this with this
  injection this with this
  injection this with this
  subst this
  exact ⟨ns2, a2, b2, c2, d2, f, f2, n2⟩
theorem Plq.upd {H : Hp} {p q D : Addr} {o : HO} (h : Plq H p q) (h1 : p ≠ D) (h2 : q ≠ D) : Plq (upd H D o) p q := by
  obtain ⟨ns, a, b, c, d, e, e2, n⟩ := h
  exact ⟨ns, a, b, c, d, by rw [upd_ne h1]; exact e, by rw [upd_ne h2]; exact e2, n⟩
theorem Plq.same {H H' : Hp} {p q : Addr} (h : Plq H p q) (s : Same H H') : Plq H' p q := by
  obtain ⟨ns, a, b, c, d, e, e2, n⟩ := h
  exact ⟨ns, a, b, c, d, s _ _ e, s _ _ e2, n⟩
theorem Plq.ne_free {H : Hp} {p q D : Addr} (h : Plq H p q) (n : H D = none) : p ≠ D ∧ q ≠ D := by
  obtain ⟨ns, a, b, c, d, e, e2, _⟩ := h
  exact ⟨ne_of_none e n, ne_of_none e2 n⟩

theorem cmul {x y : Int} {a b : Nat} (ha : x.natAbs < 2 ^ a) (hb : y.natAbs < 2 ^ b) (h0 : 0 < a := by decide) (h1 : 0 < b := by decide) (h : a + b ≤ 1000000 := by decide) : CMulW x y := wide_mul ha hb h0 h1 h

/-! ### vectors: tuples of ints -/
/-- the greatest common divisor of a list -/
def gl (ns : List Int) : Int := ns.foldl g2 0
theorem g2_max {c x : Int} {B : Nat} (hc : c.natAbs < B) (hx : x.natAbs < B) : (g2 c x).natAbs < B := by
  by_cases h : x = 0
  · subst h
    unfold g2
    rw [show (0 : Int).natAbs = 0 from rfl, Nat.gcd_zero_right]
    omega
  · exact Nat.lt_of_le_of_lt (g2_le h) hx
theorem g2_nn (a b : Int) : 0 ≤ g2 a b := by
  unfold g2
  omega
theorem gl_step {ns : List Int} {i : Nat} {x : Int} (h : ns[i]? = some x) : gl (ns.take (i + 1)) = g2 (gl (ns.take i)) x := by
  unfold gl
  rw [List.take_add_one, h, List.foldl_append]
  rfl
theorem gl_lim {ns : List Int} {B : Nat} (h0 : 0 < B) (h : ∀ n ∈ ns, n.natAbs < B) : (gl ns).natAbs < B := by
  unfold gl
  have : ∀ (l : List Int) (c : Int), c.natAbs < B → (∀ n ∈ l, n.natAbs < B) → (l.foldl g2 c).natAbs < B := by
    intro l
    induction l with
    | nil => intro c hc _; exact hc
    | cons x r ih =>
      intro c hc hl
      exact ih _ (g2_max hc (hl x List.mem_cons_self)) fun n hn => hl n (List.mem_cons_of_mem _ hn)
  exact this ns 0 (by show 0 < B; exact h0) h
theorem gl_nn (ns : List Int) : 0 ≤ gl ns := by
  unfold gl
  have : ∀ (l : List Int) (c : Int), 0 ≤ c → 0 ≤ l.foldl g2 c := by
    intro l
    induction l with
    | nil => intro c hc; exact hc
    | cons x r ih => intro c _; exact ih _ (g2_nn _ _)
  exact this ns 0 (Int.le_refl 0)
theorem gl_take_lim {ns : List Int} {B i : Nat} (h0 : 0 < B) (h : ∀ n ∈ ns, n.natAbs < B) : (gl (ns.take i)).natAbs < B := gl_lim h0 fun n hn => h n (List.mem_of_mem_take hn)
def prim (ns : List Int) : List Int := if gl ns = 0 then ns else ns.map (· / gl ns)
def dotz (ns ms : List Int) : List Int := (ns.zip ms).map fun p => p.1 * p.2
theorem prim_len (ns : List Int) : (prim ns).length = ns.length := by
  unfold prim
  split
  · rfl
  · rw [List.length_map]
theorem map_get {ns : List Int} {i : Nat} {x : V} (h : (ns.map V.int)[i]? = some x) : ∃ n, ns[i]? = some n ∧ x = .int n := by
  rw [List.getElem?_map] at h
  cases e : ns[i]? with
  | none => rw [e] at h; cases h
  | some n => rw [e] at h; exact ⟨n, rfl, (Option.some.inj h).symm⟩
theorem get_map {ns : List Int} {i : Nat} {n : Int} (h : ns[i]? = some n) : (ns.map V.int)[i]? = some (.int n) := by
  rw [List.getElem?_map, h]
  rfl
theorem lt_of_get {α : Type} {xs : List α} {i : Nat} {x : α} (h : xs[i]? = some x) : i < xs.length := (List.getElem?_eq_some_iff.mp h).1
/-- the vector at a -/
def Vc (H : Hp) (a : Addr) (ns : List Int) : Prop := H a = some (.tup (ns.map V.int))
theorem vc_alike {H : Hp} {a b : Addr} {ns : List Int} (n : Nat) (ha : Vc H a ns) (hb : Vc H b ns) (hl : ns.length ≤ 1000) : Alike H (n + 1) (.ref a) (.ref b) :=
  .tup ha hb rfl (by rw [List.length_map]; omega) fun i x y h1 h2 => by
    have e := Option.some.inj (h1.symm.trans h2)
    subst e
    obtain ⟨m, _, rfl⟩ := map_get h1
    exact .int n m
theorem Vc.ne {H : Hp} {p a : Addr} {ns : List Int} (h : Vc H a ns) (hp : Pl H p) : a ≠ p := hp.ne h
theorem Vc.keep {H H' : Hp} {p a : Addr} {ns : List Int} (h : Vc H a ns) (hp : Pl H p) (k : Keep p H H') : Vc H' a ns := k _ _ (h.ne hp) h
theorem Vc.same {H H' : Hp} {a : Addr} {ns : List Int} (h : Vc H a ns) (k : Same H H') : Vc H' a ns := k _ _ h
theorem dotz_get {ns ms : List Int} {i : Nat} {x y : Int} (h1 : ns[i]? = some x) (h2 : ms[i]? = some y) : (dotz ns ms)[i]? = some (x * y) := by
  unfold dotz
  rw [List.getElem?_map, List.getElem?_zip_eq_some (z := (x, y)) |>.mpr ⟨h1, h2⟩]
  rfl
theorem dotz_len {ns ms : List Int} (h : ns.length = ms.length) : (dotz ns ms).length = ns.length := by
  unfold dotz
  rw [List.length_map, List.length_zip, h, Nat.min_self]
theorem take_get {α : Type} {xs : List α} {i : Nat} {x : α} (h : xs[i]? = some x) : xs.take (i + 1) = xs.take i ++ [x] := by
  rw [List.take_add_one, h]
  rfl

/-! ### walks of a list or a tuple -/
section
variable {X : Cx}
theorem PI.or {tg iter : Expr} {w1 w2 : TI} (h1 : PI X tg iter w1) (h2 : PI X tg iter w2) : PI X tg iter (fun σ H R => w1 σ H R ∨ w2 σ H R) := ⟨fun pins s σ H R I h => by
  rcases h with h | h
  · exact h1.run pins s σ H R I h
  · exact h2.run pins s σ H R I h⟩
theorem OpR.or {f : Value → Value → Sem Value} {r1 r2 : R2} (h1 : OpR X f r1) (h2 : OpR X f r2) : OpR X f (fun x y H Q => r1 x y H Q ∨ r2 x y H Q) := by
  intro pins s σ H x y v u Q I rx ry q
  rcases q with q | q
  · exact h1 pins s σ H x y v u Q I rx ry q
  · exact h2 pins s σ H x y v u Q I rx ry q
end

/-- at a stands a tuple (true) or a list -/
def Tk (k : Bool) (H : Hp) (a : Addr) (xs : List V) : Prop := match k with
  | true => H a = some (.tup xs)
  | false => H a = some (.lst xs)
theorem Tk.same {k : Bool} {H H' : Hp} {a : Addr} {xs : List V} (h : Tk k H a xs) (s : Same H H') : Tk k H' a xs := by
  cases k <;> exact s _ _ h
theorem Tk.sk {K : PySem.W.Frag} {k : Bool} {H : Hp} {a : Addr} {xs : List V} (h : Tk k H a xs) : Sk K k H a xs := by
  cases k with
  | true => exact SqT.of h
  | false => exact SqL.of h
abbrev s__law_prim : Stmt := topS 30
theorem sc__law_prim : FnScope ["row", "found", "a"] ["row"] (defScope s__law_prim) := ⟨rfl, rfl, rfl, by decide +kernel, rfl, by decide +kernel, by decide +kernel⟩
def spPrimK : Sp := fun vs H Q _ => ∃ (k : Bool) (a : Addr) (ns : List Int), vs = [.ref a] ∧ Tk k H a (ns.map V.int) ∧ ns.length ≤ 1000 ∧ (∀ n ∈ ns, n.natAbs < 2 ^ 395) ∧ ∀ (H' : Hp) (r : Addr), Same H H' → Vc H' r (prim ns) → Q (.ref r) H'
theorem ok_lprimK {f : Addr} {fd : FuncData} {k : Nat} (F : Fun K "_law_prim" "_law_prim" s__law_prim f fd) (Z : Glb mg)
    (C_law_gcd : Call P w K mg base k "_law_gcd" ["a", "b"] spGcd) : FnOk P w K mg base CX0 (k + 1) f fd ["row"] spPrimK := by
  refine F.ok sc__law_prim (fun vs H Q E h => ?_) (fun cdv A outer s H vs Q E hr h => ?_)
  · obtain ⟨kd, a, ns, rfl, _⟩ := h
    rfl
  · obtain ⟨kd, a, ns, rfl, hv, hl, hB, q⟩ := h
    refine ⟨_, (pss_cons (ps_set (i := 1) sc__law_prim.nd rfl (.inr rfl) pe_int)
      (pss_cut (ps_for PassesOwn.never rfl (PI.or (pi_list (pv 0)) (pi_tup (pv 0))) (pg_name (i := 2) sc__law_prim.nd rfl (.inl rfl)) (pss_one (ps_set (i := 1) sc__law_prim.nd rfl (.inr rfl) (pe_call C_law_gcd.G hr (by rfl) C_law_gcd.m C_law_gcd.kp C_law_gcd.b .nil pass0 (pa_cons (pv 1) (pa_cons (pv 2) pa_nil))))))
      (pss_one (ps_ret (pe_ifExp (pt_cmpR op_gt (pv 1) pe_int (nomark _)) (pe_callTy call_tuple_of (by rfl) Z.m_tuple (by decide +kernel) (pa_cons (pe_lc (own := [("a", 2)]) (g := gName 2) (tt := tYes) (by rfl) sc__law_prim.nd (PI.or (pi_list (pv 0)) (pi_tup (pv 0))) (blkOk_by (own := [("a", 2)]) (N := ["row", "found", "a"]) (sc := defScope s__law_prim) (by first | decide +kernel | kernel_rfl)) (fun _ _ _ _ _ => (pg_name (i := 2) sc__law_prim.nd rfl (.inl rfl))) (fun _ _ _ _ _ => pts_nil) (fun _ _ _ _ _ => (pe_op op_fdivW (pv 2) (pv 1)))) pa_nil)) (pe_callTy call_tuple_of (by rfl) Z.m_tuple (by decide +kernel) (pa_cons (pv 0) pa_nil))))))), ?_⟩
    -- common
    refine ⟨fun σ H' => ∃ y2 : Option V, H = H' ∧ σ = [some (.ref a), some (.int (gl ns)), y2], ?_, ?_⟩
    · cases kd with
      | true =>
        refine .inr ⟨_, rfl, a, rfl, ⟨_, SqT.of hv⟩, ?_⟩
        refine for_tup (xs := ns.map V.int) (fun i σ H' => H = H' ∧ ∃ y2 : Option V, σ = [some (.ref a), some (.int (gl (ns.take i))), y2]) ⟨rfl, _, rfl⟩ (fun i σ H' _ hP => by obtain ⟨rfl, _⟩ := hP; exact SqT.of hv) (fun i x σ H' hx hP => ?_) (fun σ H' hP => ?_)
        · obtain ⟨rfl, y2, rfl⟩ := hP
          obtain ⟨n, hn, rfl⟩ := map_get hx
          refine ⟨_, rfl, _, rfl, _, _, rfl, hB n (List.mem_of_getElem? hn), rfl, some (.int n), ?_⟩
          rw [gl_step hn]
          rfl
        · obtain ⟨rfl, y2, rfl⟩ := hP
          rw [List.length_map, List.take_length]
          exact ⟨_, rfl, rfl⟩
      | false =>
        refine .inl ⟨_, rfl, a, rfl, ⟨_, SqL.of hv⟩, ?_⟩
        refine for_list (xs := ns.map V.int) (fun i σ H' => H = H' ∧ ∃ y2 : Option V, σ = [some (.ref a), some (.int (gl (ns.take i))), y2]) ⟨rfl, _, rfl⟩ (fun i σ H' _ hP => by obtain ⟨rfl, _⟩ := hP; exact SqL.of hv) (fun i x σ H' hx hP => ?_) (fun σ H' hP => ?_)
        · obtain ⟨rfl, y2, rfl⟩ := hP
          obtain ⟨n, hn, rfl⟩ := map_get hx
          refine ⟨_, rfl, _, rfl, _, _, rfl, hB n (List.mem_of_getElem? hn), rfl, some (.int n), ?_⟩
          rw [gl_step hn]
          rfl
        · obtain ⟨rfl, y2, rfl⟩ := hP
          rw [List.length_map, List.take_length]
          exact ⟨_, rfl, rfl⟩
    intro σ H' hW
    obtain ⟨y2, rfl, rfl⟩ := hW
    refine ⟨_, rfl, _, _, rfl, rfl, _, rfl, ?_⟩
    refine ite2 (fun e => ?_) (fun e => ?_)
    · have e0 : gl ns ≠ 0 := fun z => by
        rw [z] at e
        exact absurd e (by decide)
      have ep : prim ns = ns.map (· / gl ns) := if_neg e0
      have cd : ∀ x : Int, CDivW x (gl ns) := fun x => wide_div (by have := gl_nn ns; omega) (gl_lim (by decide) hB) (by decide) (by decide)
      have room : ∀ i, (((prim ns).take i).map V.int).length < sizeLine := fun i => by
        rw [List.length_map, List.length_take]
        exact Nat.lt_of_le_of_lt (Nat.min_le_right _ _) (small1000 (by rw [prim_len]; exact hl))
      have next : ∀ (i : Nat) (n : Int) (H0 : Hp) (D : Addr), ns[i]? = some n → upd (upd H0 D (.lst (((prim ns).take i).map V.int))) D (.lst (((prim ns).take i).map V.int ++ [.int (n / gl ns)])) = upd H0 D (.lst (((prim ns).take (i + 1)).map V.int)) := fun i n H0 D hn => by
        have hg : (prim ns)[i]? = some (n / gl ns) := by
          rw [ep, List.getElem?_map, hn]
          rfl
        rw [upd_upd, take_get hg, List.map_append]
        rfl
      have last : ∀ (D : Addr) (H' : Hp), (∃ H0, Same H H0 ∧ H0 D = none ∧ H' = upd H0 D (.lst (((prim ns).take (ns.map V.int).length).map V.int))) →
          ∃ p ys, [V.ref D] = [.ref p] ∧ ((SqL K H' p ys ∧ ∀ l, H' l = none → Q (.ref l) (upd H' l (.tup ys))) ∨ (SqT K H' p ys ∧ Q (.ref p) H')) := fun D H' h => by
        obtain ⟨H0, s0, n0, rfl⟩ := h
        rw [List.length_map, show ns.length = (prim ns).length from (prim_len ns).symm, List.take_length]
        exact ⟨D, _, rfl, .inl ⟨SqL.of upd_same, fun l nl => q _ _ ((s0.trans (same_upd n0)).trans (same_upd nl)) upd_same⟩⟩
      cases kd with
      | true =>
        refine .inr ⟨_, rfl, a, rfl, ⟨_, SqT.of hv⟩, fun D nD => ?_⟩
        refine lc_tup (xs := ns.map V.int) (fun i H' => ∃ H0, Same H H0 ∧ H0 D = none ∧ H' = upd H0 D (.lst (((prim ns).take i).map V.int))) ⟨H, Same.refl _, nD, rfl⟩ (fun i H' _ hP => ?_) (fun i x H' hx hP => ?_) (fun H' hP => ?_)
        · obtain ⟨H0, s0, n0, rfl⟩ := hP
          exact SqT.of ((s0.trans (same_upd n0)) _ _ hv)
        · obtain ⟨H0, s0, n0, rfl⟩ := hP
          obtain ⟨n, hn, rfl⟩ := map_get hx
          refine ⟨rfl, ?_⟩
          unfold tYes
          refine iteT ?_
          exact ⟨_, rfl, _, rfl, _, _, rfl, rfl, cd n, _, upd_same, room i, H0, s0, n0, next i n H0 D hn⟩
        · exact last D H' hP
      | false =>
        refine .inl ⟨_, rfl, a, rfl, ⟨_, SqL.of hv⟩, fun D nD => ?_⟩
        refine lc_list (xs := ns.map V.int) (fun i H' => ∃ H0, Same H H0 ∧ H0 D = none ∧ H' = upd H0 D (.lst (((prim ns).take i).map V.int))) ⟨H, Same.refl _, nD, rfl⟩ (fun i H' _ hP => ?_) (fun i x H' hx hP => ?_) (fun H' hP => ?_)
        · obtain ⟨H0, s0, n0, rfl⟩ := hP
          exact SqL.of ((s0.trans (same_upd n0)) _ _ hv)
        · obtain ⟨H0, s0, n0, rfl⟩ := hP
          obtain ⟨n, hn, rfl⟩ := map_get hx
          refine ⟨rfl, ?_⟩
          unfold tYes
          refine iteT ?_
          exact ⟨_, rfl, _, rfl, _, _, rfl, rfl, cd n, _, upd_same, room i, H0, s0, n0, next i n H0 D hn⟩
        · exact last D H' hP
    · have e0 : gl ns = 0 := by
        have := gl_nn ns
        have e : ¬ 0 < gl ns := fun z => e (decide_eq_true z)
        omega
      have ep : prim ns = ns := if_pos e0
      refine ⟨_, rfl, a, ns.map V.int, rfl, ?_⟩
      cases kd with
      | true =>
        refine .inr ⟨SqT.of hv, q _ _ (Same.refl _) ?_⟩
        rw [ep]
        exact hv
      | false =>
        refine .inl ⟨SqL.of hv, fun l nl => q _ _ (same_upd nl) ?_⟩
        rw [ep]
        exact upd_same

/-- all but p stands, and p has its head -/
structure Kp (p : Addr) (H H' : Hp) : Prop where
  k : Keep p H H'
  h : ∀ q, Hd H p q → Hd H' p q
theorem But.kp {p : Addr} {H H' : Hp} (h : But p H H') : Kp p H H' := ⟨h.keep, h.2⟩
theorem Same.kp {p : Addr} {H H' : Hp} (h : Same H H') : Kp p H H' := ⟨Same.keep h, fun q ⟨l, e⟩ => ⟨l, h _ _ e⟩⟩
theorem Kp.trans {p : Addr} {H H1 H2 : Hp} (a : Kp p H H1) (b : Kp p H1 H2) : Kp p H H2 := ⟨a.k.trans b.k, fun q h => b.h q (a.h q h)⟩
theorem Plq.hd {H : Hp} {p q : Addr} (h : Plq H p q) : Hd H p q := by
  obtain ⟨ns, a, b, c, d, e, _⟩ := h
  exact ⟨_, e⟩
theorem hd_inj {H : Hp} {p q r : Addr} (h : Hd H p q) (h' : Hd H p r) : q = r := by
  obtain ⟨l, e⟩ := h
  obtain ⟨l', e'⟩ := h'
  have := e.symm.trans e'
  injection this with this
  injection this with this
  injection this with this
  injection this
theorem Plq.kp {H H' : Hp} {p q : Addr} (h : Plq H p q) (k : Kp p H H') (h' : Pl H' p) : Plq H' p q := by
  obtain ⟨q2, e⟩ := h'.q
  rw [hd_inj (k.h _ h.hd) e.hd]
  exact e
/-- a comprehension over range whose turn draws: what it leaves -/
def Dr (p : Addr) (H : Hp) (D : Addr) (B : Nat) (i : Nat) (H' : Hp) : Prop := (∃ q, Plq H p q ∧ Plq H' p q ∧ q ≠ D) ∧ Keep p H H' ∧ ∃ ns : List Int, H' D = some (.lst (ns.map V.int)) ∧ ns.length = i ∧ ∀ n ∈ ns, n.natAbs < 2 ^ B
theorem dr0 {p D : Addr} {H : Hp} {B : Nat} (hp : Pl H p) (nD : H D = none) : Dr p H D B 0 (upd H D (.lst [])) := by
  obtain ⟨q, hq⟩ := hp.q
  exact ⟨⟨q, hq, hq.same (same_upd nD), (hq.ne_free nD).2⟩, Same.keep (same_upd nD), [], upd_same, rfl, fun n h => nomatch h⟩
theorem dr_step {p D : Addr} {H H' H2 : Hp} {B i : Nat} {n : Int} (nD : H D = none) (hP : Pl H p) (h : Dr p H D B i H') (hB : But p H' H2) (P2 : Pl H2 p) (hn : n.natAbs < 2 ^ B) :
    ∃ acc, H2 D = some (.lst acc) ∧ acc.length = i ∧ Dr p H D B (i + 1) (upd H2 D (.lst (acc ++ [.int n]))) := by
  obtain ⟨⟨q, hq0, hq, qD⟩, K1, ns, e, hl, hb⟩ := h
  have ne : D ≠ p := by
    obtain ⟨q0, h0⟩ := hP.q
    exact (h0.ne_free nD).1.symm
  refine ⟨ns.map V.int, (hB.1 D ne).trans e, by rw [List.length_map]; exact hl, ⟨q, hq0, (hq.but hB P2).upd ne.symm qD, qD⟩, ?_, ns ++ [n], ?_, ?_, ?_⟩
  · intro x o hx ho
    have hxD : x ≠ D := ne_of_none ho nD
    rw [upd_ne hxD]
    exact hB.keep _ _ hx (K1 _ _ hx ho)
  · rw [upd_same, List.map_append]
    rfl
  · rw [List.length_append, hl]
    rfl
  · intro m hm
    rcases List.mem_append.mp hm with h | h
    · exact hb m h
    · rw [List.mem_singleton.mp h]
      exact hn
theorem Dr.kp {p D : Addr} {H H' : Hp} {B i : Nat} (h : Dr p H D B i H') : Kp p H H' := by
  obtain ⟨⟨q, h1, h2, _⟩, k, _⟩ := h
  exact ⟨k, fun q' hq => by rw [hd_inj hq h1.hd]; exact h2.hd⟩

/-! ### values of any kind -/
theorem cat_h {H : Hp} {a b : Addr} {xs ys : List V} {Q : VK} (ha : H a = some (.tup xs)) (hb : H b = some (.tup ys)) (hz : xs.length + ys.length ≤ 1000) (q : ∀ (H' : Hp) (r : Addr), Same H H' → H' r = some (.tup (xs ++ ys)) → Q (.ref r) H') : rCatA K (.ref a) (.ref b) H Q :=
  ⟨a, b, xs, ys, rfl, rfl, SqT.of ha, SqT.of hb, Nat.le_of_lt (small1000 hz), fun e => q _ _ (Same.refl _) (by rw [e]; exact hb), fun _ e => q _ _ (Same.refl _) (by rw [e, List.append_nil]; exact ha), fun _ _ p np => q _ _ (same_upd np) upd_same⟩
theorem cut_whole {xs : List V} {lo hi : Option Int} (h : HT.sIx xs.length 0 lo = 0 ∧ HT.sIx xs.length xs.length hi = xs.length) : cutV xs lo hi = xs := by
  unfold cutV
  rw [h.1, h.2]
  exact List.take_length
theorem sl_h {H : Hp} {a : Addr} {xs : List V} {lo hi : Option Int} {Q : VK} (ha : H a = some (.tup xs)) (q : ∀ (H' : Hp) (r : Addr), Same H H' → H' r = some (.tup (cutV xs lo hi)) → Q (.ref r) H') : rSlA K (.ref a) lo hi H Q :=
  ⟨a, xs, rfl, SqT.of ha, fun e => q _ _ (Same.refl _) (by rw [cut_whole e]; exact ha), fun _ p np => q _ _ (same_upd np) upd_same⟩
theorem cut_mem {xs : List V} {lo hi : Option Int} {x : V} (h : x ∈ cutV xs lo hi) : x ∈ xs := List.mem_of_mem_drop (List.mem_of_mem_take h)
theorem cut_take (xs : List V) (j : Nat) : cutV xs none (some (j : Int)) = xs.take j := by
  unfold cutV
  rw [HT.sIx_none, HT.sIx_nat, List.drop_zero, Nat.sub_zero]
  by_cases h : j ≤ xs.length
  · rw [Nat.min_eq_left h]
  · rw [Nat.min_eq_right (by omega), List.take_length, List.take_of_length_le (by omega)]
theorem cut_drop (xs : List V) (j : Nat) : cutV xs (some (j : Int)) none = xs.drop j := by
  unfold cutV
  rw [HT.sIx_none, HT.sIx_nat]
  by_cases h : j ≤ xs.length
  · rw [Nat.min_eq_left h]
    exact List.take_of_length_le (by rw [List.length_drop]; exact Nat.le_refl _)
  · rw [Nat.min_eq_right (by omega), Nat.sub_self, List.take_zero, List.drop_eq_nil_of_le (by omega)]
/-- a value of any kind, of depth n at most, its ints below 2 ^ B, its sequences not longer than B -/
inductive Dt (p : Addr) (H : Hp) (B : Nat) : Nat → V → Prop
  | non (n : Nat) : Dt p H B n .non
  | bl (n : Nat) (b : Bool) : Dt p H B n (.bl b)
  | int (n : Nat) (i : Int) (h : i.natAbs < 2 ^ B) : Dt p H B n (.int i)
  | str (n : Nat) (s : Str) : Dt p H B n (.str s)
  | tup {n : Nat} {a : Addr} {xs : List V} (h : H a = some (.tup xs)) (hl : xs.length ≤ B) (hx : ∀ x ∈ xs, Dt p H B n x) : Dt p H B (n + 1) (.ref a)
  | lst {n : Nat} {a : Addr} {xs : List V} (h : H a = some (.lst xs)) (np : a ≠ p) (hl : xs.length ≤ B) (hx : ∀ x ∈ xs, Dt p H B n x) : Dt p H B (n + 1) (.ref a)
theorem Dt.keep {p : Addr} {H H' : Hp} {B n : Nat} {v : V} (hP : Pl H p) (k : Keep p H H') (d : Dt p H B n v) : Dt p H' B n v := by
  induction d with
  | non n => exact .non n
  | bl n b => exact .bl n b
  | int n i h => exact .int n i h
  | str n s => exact .str n s
  | tup h hl _ ih => exact .tup (k _ _ (hP.ne h) h) hl ih
  | lst h np hl _ ih => exact .lst (k _ _ np h) np hl ih
theorem Dt.same {p : Addr} {H H' : Hp} {B n : Nat} {v : V} (k : Same H H') (d : Dt p H B n v) : Dt p H' B n v := by
  induction d with
  | non n => exact .non n
  | bl n b => exact .bl n b
  | int n i h => exact .int n i h
  | str n s => exact .str n s
  | tup h hl _ ih => exact .tup (k _ _ h) hl ih
  | lst h np hl _ ih => exact .lst (k _ _ h) np hl ih
theorem Dt.up {p : Addr} {H : Hp} {B C n m : Nat} {v : V} (hB : B ≤ C) (hn : n ≤ m) (d : Dt p H B n v) : Dt p H C m v := by
  induction d generalizing m with
  | non n => exact .non m
  | bl n b => exact .bl m b
  | int n i h => exact .int m i (up_pow h hB)
  | str n s => exact .str m s
  | tup h hl _ ih =>
    obtain ⟨j, rfl⟩ : ∃ j, m = j + 1 := ⟨m - 1, by omega⟩
    exact .tup h (Nat.le_trans hl hB) fun x hx => ih x hx (by omega)
  | lst h np hl _ ih =>
    obtain ⟨j, rfl⟩ : ∃ j, m = j + 1 := ⟨m - 1, by omega⟩
    exact .lst h np (Nat.le_trans hl hB) fun x hx => ih x hx (by omega)
/-- what isinstance tells of it: tuple, int, bool -/
structure Kd (K : PySem.W.Frag) (H : Hp) (v : V) (t i b : Bool) : Prop where
  ex : ∃ T : String, TyX K H v (.type T) ∧ kitB T "tuple" = some t ∧ kitB T "int" = some i ∧ kitB T "bool" = some b
/-- .. and goes on to tell while all but p stands -/
structure Ko (K : PySem.W.Frag) (p : Addr) (H : Hp) (v : V) (i b : Bool) : Prop where
  ex : ∃ T : String, (∀ H', Keep p H H' → TyX K H' v (.type T)) ∧ kitB T "tuple" = some false ∧ kitB T "int" = some i ∧ kitB T "bool" = some b
def isI : V → Bool
  | .int _ => true
  | _ => false
theorem kd_non {H : Hp} : Kd K H .non false false false := ⟨"NoneType", .base .non, by decide +kernel, by decide +kernel, by decide +kernel⟩
theorem kd_bl {H : Hp} (b : Bool) : Kd K H (.bl b) false true true := ⟨"bool", .base (.bl b), by decide +kernel, by decide +kernel, by decide +kernel⟩
theorem kd_int {H : Hp} (i : Int) : Kd K H (.int i) false true false := ⟨"int", .base (.int i), by decide +kernel, by decide +kernel, by decide +kernel⟩
theorem kd_str {H : Hp} (s : Str) : Kd K H (.str s) false false false := ⟨"str", .base (.str s), by decide +kernel, by decide +kernel, by decide +kernel⟩
theorem kd_tup {H : Hp} {a : Addr} {xs : List V} (h : H a = some (.tup xs)) : Kd K H (.ref a) true false false := ⟨"tuple", .base (.tup h), by decide +kernel, by decide +kernel, by decide +kernel⟩
theorem kd_lst {H : Hp} {a : Addr} {xs : List V} (h : H a = some (.lst xs)) : Kd K H (.ref a) false false false := ⟨"list", .base (.lst h), by decide +kernel, by decide +kernel, by decide +kernel⟩
/-- every such value is a tuple, an int, or neither -/
theorem Dt.kinds {p : Addr} {H : Hp} {B n : Nat} {v : V} (d : Dt p H B n v) :
    (∃ a xs m, v = .ref a ∧ H a = some (.tup xs) ∧ xs.length ≤ B ∧ n = m + 1 ∧ (∀ x ∈ xs, Dt p H B m x) ∧ Kd K H v true false false ∧ isI v = false) ∨ (∃ i, v = .int i ∧ i.natAbs < 2 ^ B ∧ Kd K H v false true false ∧ isI v = true) ∨
    (∃ i b, (i = true → b = true) ∧ Kd K H v false i b ∧ isI v = false ∧ (∀ a xs, v = .ref a → H a ≠ some (.tup xs)) ∧ Ko K p H v i b) := by
  cases d with
  | non n => exact .inr (.inr ⟨_, _, id, kd_non, rfl, (fun _ _ z => nomatch z), ⟨"NoneType", fun _ _ => .base .non, by decide +kernel, by decide +kernel, by decide +kernel⟩⟩)
  | bl n b => exact .inr (.inr ⟨_, _, id, kd_bl b, rfl, (fun _ _ z => nomatch z), ⟨"bool", fun _ _ => .base (.bl b), by decide +kernel, by decide +kernel, by decide +kernel⟩⟩)
  | int n i h => exact .inr (.inl ⟨i, rfl, h, kd_int i, rfl⟩)
  | str n s => exact .inr (.inr ⟨_, _, id, kd_str s, rfl, (fun _ _ z => nomatch z), ⟨"str", fun _ _ => .base (.str s), by decide +kernel, by decide +kernel, by decide +kernel⟩⟩)
  | tup h hl hx => exact .inl ⟨_, _, _, rfl, h, hl, rfl, hx, kd_tup h, rfl⟩
  | lst h np hl hx => exact .inr (.inr ⟨_, _, id, kd_lst h, rfl, (fun a' xs' e z => by cases e; rw [h] at z; cases z), ⟨"list", fun _ k => .base (.lst (k _ _ np h)), by decide +kernel, by decide +kernel, by decide +kernel⟩⟩)

/-! ### == of tuples of ints -/
theorem eqv_ints : ∀ ns ms : List Int, PyData.eqvAll (ns.map PyData.int) (ms.map PyData.int) = decide (ns = ms)
  | [], [] => by rw [List.map_nil, PyData.eqvAll]; rfl
  | [], m :: ms => by rw [List.map_nil, List.map_cons, PyData.eqvAll]; rfl
  | n :: ns, [] => by rw [List.map_nil, List.map_cons, PyData.eqvAll]; rfl
  | n :: ns, m :: ms => by
    rw [List.map_cons, List.map_cons, PyData.eqvAll, PyData.eqv, eqv_ints ns ms]
    by_cases h : n = m
    · subst h
      by_cases h2 : ns = ms <;> simp [h2]
    · simp [h]
theorem lay_ints : ∀ ns : List Int, PyData.canLayAll0 (ns.map PyData.int) = true
  | [] => by rw [List.map_nil, PyData.canLayAll0]
  | n :: ns => by
    rw [List.map_cons, PyData.canLayAll0, lay_ints ns]
    rfl
theorem depth_ints : ∀ ns : List Int, PyData.depthAll (ns.map PyData.int) ≤ 1
  | [] => by rw [List.map_nil, PyData.depthAll]; omega
  | n :: ns => by
    have := depth_ints ns
    rw [List.map_cons, PyData.depthAll, PyData.depth]
    omega
theorem shaped_ints (ns : List Int) (h : ns.length ≤ 1000) : SeqAt.shaped (.tuple (ns.map PyData.int)) = true := by
  unfold SeqAt.shaped
  rw [Bool.and_eq_true]
  refine ⟨?_, ?_⟩
  · rw [PyData.canLay0, lay_ints]
  · rw [decide_eq_true_iff, PyData.depth]
    have := depth_ints ns
    omega
theorem dp_ints {H : Hp} : ∀ ns : List Int, DpAll K H (ns.map V.int) (ns.map PyData.int)
  | [] => .nil
  | n :: ns => .cons (.int n) (dp_ints ns)

theorem gl_dvd {ns : List Int} {n : Int} (h : n ∈ ns) : gl ns ∣ n := by
  unfold gl
  have : ∀ (l : List Int) (c : Int), (l.foldl g2 c) ∣ c ∧ ∀ n ∈ l, (l.foldl g2 c) ∣ n := by
    intro l
    induction l with
    | nil => intro c; exact ⟨Int.dvd_refl _, fun n h => nomatch h⟩
    | cons x r ih =>
      intro c
      obtain ⟨h1, h2⟩ := ih (g2 c x)
      refine ⟨Int.dvd_trans h1 (g2_dvd_l c x), fun n hn => ?_⟩
      rcases List.mem_cons.mp hn with rfl | hn
      · exact Int.dvd_trans h1 (g2_dvd_r c n)
      · exact h2 n hn
  exact (this ns 0).2 n h
theorem gl_pos {ns : List Int} {n : Int} (h : n ∈ ns) (hn : n ≠ 0) : 0 < gl ns := by
  have h1 := gl_nn ns
  have h2 : gl ns ≠ 0 := fun z => by
    have := gl_dvd h
    rw [z] at this
    exact hn (Int.zero_dvd.mp this)
  omega
theorem prim_get {ns : List Int} {i : Nat} {n : Int} (h : ns[i]? = some n) (g : 0 < gl ns) : (prim ns)[i]? = some (n / gl ns) := by
  unfold prim
  rw [if_neg (by omega), List.getElem?_map, h]
  rfl
theorem prim_small {ns : List Int} {B : Nat} (h : ∀ n ∈ ns, n.natAbs ≤ B) : ∀ n ∈ prim ns, n.natAbs ≤ B := by
  unfold prim
  split
  · exact h
  · rename_i g
    intro n hn
    obtain ⟨m, hm, rfl⟩ := List.mem_map.mp hn
    exact Nat.le_trans (ediv_abs (by have := gl_nn ns; omega)) (h m hm)
theorem gl_cons (x : Int) (ns : List Int) : gl (x :: ns) = ((Nat.gcd x.natAbs (gl ns).natAbs : Nat) : Int) := by
  have key : ∀ (l : List Int) (c : Int), 0 ≤ c → l.foldl g2 c = ((Nat.gcd c.natAbs (l.foldl g2 0).natAbs : Nat) : Int) := by
    intro l
    induction l with
    | nil =>
      intro c hc
      show c = ((Nat.gcd c.natAbs 0 : Nat) : Int)
      rw [Nat.gcd_zero_right]
      omega
    | cons y r ih =>
      intro c hc
      show r.foldl g2 (g2 c y) = ((Nat.gcd c.natAbs (r.foldl g2 (g2 0 y)).natAbs : Nat) : Int)
      rw [ih _ (g2_nn c y), ih _ (g2_nn 0 y)]
      congr 1
      unfold g2
      simp only [Int.natAbs_natCast, Int.natAbs_zero, Nat.gcd_zero_left, Nat.gcd_assoc]
  unfold gl
  show ns.foldl g2 (g2 0 x) = _
  rw [key _ _ (g2_nn 0 x)]
  congr 1
  unfold g2
  simp only [Int.natAbs_natCast, Int.natAbs_zero, Nat.gcd_zero_left]
theorem gl_scale (a : Int) (ha : 0 ≤ a) : ∀ ns : List Int, gl (ns.map (a * ·)) = a * gl ns
  | [] => by
    show (0 : Int) = a * 0
    rw [Int.mul_zero]
  | n :: ns => by
    rw [List.map_cons, gl_cons, gl_cons, gl_scale a ha ns]
    have h := gl_nn ns
    rw [Int.natAbs_mul, Int.natAbs_mul, Nat.gcd_mul_left, Int.natCast_mul]
    rw [show ((a.natAbs : Nat) : Int) = a by omega]
theorem gl_prim {v : List Int} (g : gl v ≠ 0) : gl (prim v) = 1 := by
  have e : (prim v).map (gl v * ·) = v := by
    apply List.ext_getElem?
    intro i
    rw [List.getElem?_map]
    by_cases hi : i < v.length
    · have e1 : v[i]? = some v[i] := List.getElem?_eq_getElem hi
      have e2 : (prim v)[i]? = some (v[i] / gl v) := by
        rw [show prim v = v.map (· / gl v) from if_neg g, List.getElem?_map, e1]
        rfl
      rw [e2, e1]
      exact congrArg some (Int.mul_ediv_cancel' (gl_dvd (List.getElem_mem hi)))
    · rw [List.getElem?_eq_none (by rw [prim_len]; omega), List.getElem?_eq_none (by omega)]
      rfl
  have s := gl_scale (gl v) (gl_nn v) (prim v)
  rw [e] at s
  have n := gl_nn v
  have : gl v * (gl (prim v) - 1) = 0 := by rw [Int.mul_sub, ← s]; omega
  rcases Int.mul_eq_zero.mp this with h | h
  · exact absurd h g
  · omega

/-! ### lists of vectors -/
def RL (H : Hp) (a : Addr) (n : Nat) (R : Nat → Addr → Prop) : Prop := ∃ rs : List Addr, H a = some (.lst (rs.map V.ref)) ∧ rs.length = n ∧ ∀ i r, rs[i]? = some r → R i r
def VL (H : Hp) (a : Addr) (vs : List (List Int)) : Prop := RL H a vs.length fun i r => ∃ v, vs[i]? = some v ∧ Vc H r v
theorem VL.same {H H' : Hp} {a : Addr} {vs : List (List Int)} (h : VL H a vs) (s : Same H H') : VL H' a vs := by
  obtain ⟨rs, e, l, g⟩ := h
  exact ⟨rs, s _ _ e, l, fun i r hr => by obtain ⟨v, h1, h2⟩ := g i r hr; exact ⟨v, h1, h2.same s⟩⟩
theorem VL.kp {H H' : Hp} {a p : Addr} {vs : List (List Int)} (h : VL H a vs) (hP : Pl H p) (ne : a ≠ p) (s : Keep p H H') : VL H' a vs := by
  obtain ⟨rs, e, l, g⟩ := h
  exact ⟨rs, s _ _ ne e, l, fun i r hr => by obtain ⟨v, h1, h2⟩ := g i r hr; exact ⟨v, h1, h2.keep hP s⟩⟩
theorem ref_get {rs : List Addr} {i : Nat} {x : V} (h : (rs.map V.ref)[i]? = some x) : ∃ r, rs[i]? = some r ∧ x = .ref r := by
  rw [List.getElem?_map] at h
  obtain ⟨r, h1, h2⟩ := Option.map_eq_some_iff.mp h
  exact ⟨r, h1, h2.symm⟩
theorem get_ref {rs : List Addr} {i : Nat} {r : Addr} (h : rs[i]? = some r) : (rs.map V.ref)[i]? = some (.ref r) := by
  rw [List.getElem?_map, h]
  rfl
theorem VL.at {H : Hp} {a : Addr} {vs : List (List Int)} {i : Nat} (h : VL H a vs) (hi : i < vs.length) : ∃ (rs : List Addr) (r : Addr), H a = some (.lst (rs.map V.ref)) ∧ rs.length = vs.length ∧ rs[i]? = some r ∧ Vc H r (vs[i]'hi) := by
  obtain ⟨rs, e, l, g⟩ := h
  have er : rs[i]? = some (rs[i]'(by omega)) := List.getElem?_eq_getElem (by omega)
  obtain ⟨v, h1, h2⟩ := g i _ er
  rw [List.getElem?_eq_getElem hi] at h1
  cases h1
  exact ⟨rs, _, e, l, er, h2⟩
theorem no_get {α : Type} {j : Nat} {r : α} {P : Prop} (h : ([] : List α)[j]? = some r) : P := by
  rw [List.getElem?_nil] at h
  cases h
theorem app_get {α : Type} {xs : List α} {x y : α} {j : Nat} (h : (xs ++ [x])[j]? = some y) : xs[j]? = some y ∨ (j = xs.length ∧ y = x) := by
  rw [List.getElem?_append] at h
  split at h
  · exact .inl h
  · have := lt_of_get h
    rw [List.length_singleton] at this
    have hj : j = xs.length := by omega
    subst hj
    rw [Nat.sub_self] at h
    cases h
    exact .inr ⟨rfl, rfl⟩
/-- a vector more at the end -/
theorem VL.push {H : Hp} {a r : Addr} {vs : List (List Int)} {v : List Int} {acc : List V} (h : VL H a vs) (hr : Vc H r v) (e : H a = some (.lst acc)) : VL (upd H a (.lst (acc ++ [.ref r]))) a (vs ++ [v]) := by
  obtain ⟨rs, e', l, g⟩ := h
  rw [e'] at e
  have e := HO.lst.inj (Option.some.inj e)
  subst e
  have tups : ∀ t (u : List Int), Vc H t u → Vc (upd H a (.lst (rs.map V.ref ++ [.ref r]))) t u := fun t u ht => by
    unfold Vc at ht ⊢
    rw [upd_ne (ne_of ht e' (fun z => nomatch z))]
    exact ht
  refine ⟨rs ++ [r], by rw [upd_same, List.map_append]; rfl, by rw [List.length_append, List.length_append, l]; rfl, fun i t ht => ?_⟩
  rcases app_get ht with h1 | ⟨h1, rfl⟩
  · obtain ⟨u, h2, h3⟩ := g i t h1
    exact ⟨u, by rw [List.getElem?_append_left (lt_of_get h2)]; exact h2, tups _ _ h3⟩
  · refine ⟨v, ?_, tups _ _ hr⟩
    rw [h1, l, List.getElem?_append_right (Nat.le_refl _), Nat.sub_self]
    rfl
theorem vl0 {H : Hp} {a : Addr} : VL (upd H a (.lst [])) a [] := ⟨[], upd_same, rfl, fun i r h => no_get h⟩

/-! ### a comprehension that makes the values f 0, f 1, .. -/
def PvF (H : Hp) (D : Addr) (f : Nat → V) (j : Nat) (H' : Hp) : Prop := Same H H' ∧ H' D = some (.lst ((List.range j).map f))
theorem pvf0 {H : Hp} {D : Addr} {f : Nat → V} (nD : H D = none) : PvF H D f 0 (upd H D (.lst [])) := ⟨same_upd nD, upd_same⟩
theorem pvf_step {H H' H'' : Hp} {D : Addr} {f : Nat → V} {j : Nat} {x : V} (nD : H D = none) (hP : PvF H D f j H') (s : Same H' H'') (hj : j < 1000) (hx : x = f j) :
    ∃ acc, H'' D = some (.lst acc) ∧ acc.length < sizeLine ∧ PvF H D f (j + 1) (upd H'' D (.lst (acc ++ [x]))) := by
  refine ⟨_, s _ _ hP.2, ?_, ?_, ?_⟩
  · rw [List.length_map, List.length_range]
    exact small1000 (by omega)
  · intro y o hy
    rw [upd_ne (ne_of_none hy nD)]
    exact s _ _ (hP.1 _ _ hy)
  · rw [upd_same, List.range_succ, List.map_append, hx]
    rfl

/-! ### a comprehension whose turns draw and make tuples -/
def DrR {α : Type} (R : Hp → α → Addr → Prop) (p : Addr) (H : Hp) (D : Addr) (i : Nat) (H' : Hp) : Prop := (∃ q, Plq H p q ∧ Plq H' p q ∧ q ≠ D) ∧ Keep p H H' ∧
  ∃ (rs : List Addr) (fs : List α), H' D = some (.lst (rs.map V.ref)) ∧ rs.length = i ∧ fs.length = i ∧ ∀ (j : Nat) (r : Addr) (f : α), rs[j]? = some r → fs[j]? = some f → R H' f r ∧ ∃ ys, H' r = some (.tup ys)
theorem drR0 {α : Type} {R : Hp → α → Addr → Prop} {p D : Addr} {H : Hp} (hp : Pl H p) (nD : H D = none) : DrR R p H D 0 (upd H D (.lst [])) := by
  obtain ⟨q, hq⟩ := hp.q
  exact ⟨⟨q, hq, hq.same (same_upd nD), (hq.ne_free nD).2⟩, Same.keep (same_upd nD), [], [], upd_same, rfl, rfl, fun j r f h => no_get h⟩
theorem drR_step {α : Type} {R : Hp → α → Addr → Prop} (hR : ∀ H1 H2 f r, (∀ ys, H1 r = some (.tup ys) → H2 r = some (.tup ys)) → R H1 f r → R H2 f r) {p D : Addr} {H H' H2 : Hp} {i : Nat} {r : Addr} {f : α} {ys : List V} (nD : H D = none) (hP : Pl H p) (h : DrR R p H D i H')
    (hB : Kp p H' H2) (P2 : Pl H2 p) (hr : H2 r = some (.tup ys)) (rf : R H2 f r) : ∃ acc, H2 D = some (.lst acc) ∧ acc.length = i ∧ DrR R p H D (i + 1) (upd H2 D (.lst (acc ++ [.ref r]))) := by
  obtain ⟨⟨q, hq0, hq, qD⟩, K1, rs, fs, e, l1, l2, g⟩ := h
  have ne : D ≠ p := by
    obtain ⟨q0, h0⟩ := hP.q
    exact (h0.ne_free nD).1.symm
  have e2 : H2 D = some (.lst (rs.map V.ref)) := hB.k _ _ ne e
  have P1 := hq.pl
  have tups : ∀ t zs, H2 t = some (.tup zs) → (upd H2 D (.lst (rs.map V.ref ++ [.ref r]))) t = some (.tup zs) := fun t zs ht => by
    rw [upd_ne (ne_of ht e2 (fun z => nomatch z))]
    exact ht
  refine ⟨rs.map V.ref, e2, by rw [List.length_map]; exact l1, ⟨q, hq0, (hq.kp hB P2).upd ne.symm qD, qD⟩, ?_, rs ++ [r], fs ++ [f], ?_, ?_, ?_, ?_⟩
  · intro x o hx ho
    have hxD : x ≠ D := ne_of_none ho nD
    rw [upd_ne hxD]
    exact hB.k _ _ hx (K1 _ _ hx ho)
  · rw [upd_same, List.map_append]
    rfl
  · rw [List.length_append, l1]
    rfl
  · rw [List.length_append, l2]
    rfl
  · intro j t f' h1 h2
    rcases app_get h1 with h1 | ⟨h1, rfl⟩
    · rcases app_get h2 with h2 | ⟨h2, _⟩
      · obtain ⟨a1, zs, a2⟩ := g j t f' h1 h2
        have a3 := hB.k _ _ (P1.ne a2) a2
        exact ⟨hR _ _ _ _ (fun ys hy => tups t ys (hB.k _ _ (P1.ne hy) hy)) a1, zs, tups t zs a3⟩
      · have := lt_of_get h1
        omega
    · rcases app_get h2 with h2 | ⟨h2, rfl⟩
      · have := lt_of_get h2
        omega
      · exact ⟨hR _ _ _ _ (fun ys hy => tups t ys hy) rf, ys, tups t ys hr⟩
theorem Dr.pt {p D : Addr} {H H' : Hp} {B i : Nat} (h : Dr p H D B i H') : Pl H' p := by
  obtain ⟨⟨q, _, h2, _⟩, _⟩ := h
  exact h2.pl
theorem DrR.pt {α : Type} {R : Hp → α → Addr → Prop} {p D : Addr} {H H' : Hp} {i : Nat} (h : DrR R p H D i H') : Pl H' p := by
  obtain ⟨⟨q, _, h2, _⟩, _⟩ := h
  exact h2.pl
theorem ne_pool {H : Hp} {p D : Addr} (hP : Pl H p) (nD : H D = none) : D ≠ p := by
  obtain ⟨q0, h0⟩ := hP.q
  exact (h0.ne_free nD).1.symm

/-- a call of a def that may raise -/
structure CallX (P : Program) (w : World) (K : PySem.W.Frag) (mg : Str → Option Value) (base : Heap) (k : Nat) (nm : Str) (ps : List Str) (sp : Sp) where
  g : Addr
  gd : FuncData
  G : FnOk P w K mg base (L2.CX P w) k g gd ps sp
  m : mg nm = some (.ref g)
  kp : PySem.W.keepIn K (.ref g) = true
  b : Binds K gd ps []

theorem units65 {k : Nat} {A : Around} (r : Room k A) : A.units + 65 < cLine := by
  have := r.un
  omega
/-- what a body that calls a method wants of it -/
structure MCall (P : Program) (w : World) (K : PySem.W.Frag) (mg : Str → Option Value) (base : Heap) (k : Nat) (C : Addr) (nm : Str) (ps : List Str) (sp : Sp) where
  g : Addr
  gd : FuncData
  G : FnOk P w K mg base CX0 k g gd ps sp
  cl : Cls K C
  m : Meth K C nm g
  b : Binds K gd ps []
structure MCallX (P : Program) (w : World) (K : PySem.W.Frag) (mg : Str → Option Value) (base : Heap) (k : Nat) (C : Addr) (nm : Str) (ps : List Str) (sp : Sp) where
  g : Addr
  gd : FuncData
  G : FnOk P w K mg base (L2.CX P w) k g gd ps sp
  cl : Cls K C
  m : Meth K C nm g
  b : Binds K gd ps []
/-- a class that is called -/
structure KMake (P : Program) (w : World) (K : PySem.W.Frag) (mg : Str → Option Value) (base : Heap) (k : Nat) (C : Addr) (nm : Str) (ps : List Str) (sp : Sp) where
  f : Addr
  fd : FuncData
  G : FnOk P w K mg base CX0 k f fd ps sp
  M : Mk K C f
  mg : mg nm = some (.ref C)
  b : Binds K fd ps []

abbrev s_common_divisor : Stmt := topS 8
theorem sc_common_divisor : FnScope ["v", "common", "entry"] ["v"] (defScope s_common_divisor) := ⟨rfl, rfl, rfl, by decide +kernel, rfl, by decide +kernel, by decide +kernel⟩
def spCdK : Sp := fun vs H Q _ => ∃ (k : Bool) (a : Addr) (ns : List Int), vs = [.ref a] ∧ Tk k H a (ns.map V.int) ∧ Q (.int (gl ns)) H
theorem ok_cdK {f : Addr} {fd : FuncData} {k : Nat} (F : Fun K "common_divisor" "common_divisor" s_common_divisor f fd) (Z : Glb mg) : FnOk P w K mg base CX0 (k + 1) f fd ["v"] spCdK := by
  refine F.ok sc_common_divisor (fun vs H Q E h => ?_) (fun cdv A outer s H vs Q E hr h => ?_)
  · obtain ⟨kd, a, ns, rfl, _⟩ := h
    rfl
  · obtain ⟨kd, a, ns, rfl, hv, q⟩ := h
    refine ⟨_, (pss_cons (ps_set (i := 1) sc_common_divisor.nd rfl (.inl rfl) pe_int)
      (pss_cons (ps_for PassesOwn.never rfl (PI.or (pi_list (pv 0)) (pi_tup (pv 0))) (pg_name (i := 2) sc_common_divisor.nd rfl (.inl rfl)) (pss_one (ps_set (i := 1) sc_common_divisor.nd rfl (.inl rfl) (pe_callBfun cr_gcd (by rfl) Z.m_gcd (pa_cons (pv 1) (pa_cons (pv 2) pa_nil))))))
      (pss_one (ps_ret (pv 1))))), ?_⟩
    cases kd with
    | true =>
      refine .inr ⟨_, rfl, a, rfl, ⟨_, SqT.of hv⟩, ?_⟩
      refine for_tup (xs := ns.map V.int) (fun i σ H' => H' = H ∧ ∃ y2 : Option V, σ = [some (.ref a), some (.int (gl (ns.take i))), y2]) ⟨rfl, _, rfl⟩ (fun i σ H' _ hP => by obtain ⟨rfl, _⟩ := hP; exact SqT.of hv) (fun i x σ H' hx hP => ?_) (fun σ H' hP => ?_)
      · obtain ⟨rfl, y2, rfl⟩ := hP
        obtain ⟨n, hn, rfl⟩ := map_get hx
        refine ⟨_, rfl, _, rfl, _, _, rfl, rfl, some (.int n), ?_⟩
        rw [gl_step hn]
        rfl
      · obtain ⟨rfl, y2, rfl⟩ := hP
        rw [List.length_map, List.take_length]
        exact ⟨_, rfl, q⟩
    | false =>
      refine .inl ⟨_, rfl, a, rfl, ⟨_, SqL.of hv⟩, ?_⟩
      refine for_list (xs := ns.map V.int) (fun i σ H' => H' = H ∧ ∃ y2 : Option V, σ = [some (.ref a), some (.int (gl (ns.take i))), y2]) ⟨rfl, _, rfl⟩ (fun i σ H' _ hP => by obtain ⟨rfl, _⟩ := hP; exact SqL.of hv) (fun i x σ H' hx hP => ?_) (fun σ H' hP => ?_)
      · obtain ⟨rfl, y2, rfl⟩ := hP
        obtain ⟨n, hn, rfl⟩ := map_get hx
        refine ⟨_, rfl, _, rfl, _, _, rfl, rfl, some (.int n), ?_⟩
        rw [gl_step hn]
        rfl
      · obtain ⟨rfl, y2, rfl⟩ := hP
        rw [List.length_map, List.take_length]
        exact ⟨_, rfl, q⟩
abbrev s_primitive : Stmt := topS 9
theorem sc_primitive : FnScope ["v", "common", "entry"] ["v"] (defScope s_primitive) := ⟨rfl, rfl, rfl, by decide +kernel, rfl, by decide +kernel, by decide +kernel⟩
def spPrimL : Sp := fun vs H Q _ => ∃ (k : Bool) (a : Addr) (ns : List Int), vs = [.ref a] ∧ Tk k H a (ns.map V.int) ∧ ns.length ≤ 1000 ∧ (∀ n ∈ ns, n.natAbs < 2 ^ 8000) ∧ ∀ (H' : Hp) (r : Addr), Same H H' → Vc H' r (prim ns) → Q (.ref r) H'
theorem ok_primK {f : Addr} {fd : FuncData} {k : Nat} (F : Fun K "primitive" "primitive" s_primitive f fd) (Z : Glb mg)
    (Ccommon_divisor : Call P w K mg base k "common_divisor" ["v"] spCdK) : FnOk P w K mg base CX0 (k + 1) f fd ["v"] spPrimL := by
  refine F.ok sc_primitive (fun vs H Q E h => ?_) (fun cdv A outer s H vs Q E hr h => ?_)
  · obtain ⟨kd, a, ns, rfl, _⟩ := h
    rfl
  · obtain ⟨kd, a, ns, rfl, hv, hl, hB, q⟩ := h
    refine ⟨_, (pss_cons (ps_set (i := 1) sc_primitive.nd rfl (.inr rfl) (pe_call Ccommon_divisor.G hr (by rfl) Ccommon_divisor.m Ccommon_divisor.kp Ccommon_divisor.b .nil pass0 (pa_cons (pv 0) pa_nil)))
      (pss_cons (ps_if (pt_cmpR op_eq (pv 1) pe_int (nomark _)) (pss_one (ps_ret (pe_callTy call_tuple_of (by rfl) Z.m_tuple (by decide +kernel) (pa_cons (pv 0) pa_nil)))) pss_nil)
      (pss_one (ps_ret (pe_callTy call_tuple_of (by rfl) Z.m_tuple (by decide +kernel) (pa_cons (pe_lc (own := [("entry", 2)]) (g := gName 2) (tt := tYes) (by rfl) sc_primitive.nd (PI.or (pi_list (pv 0)) (pi_tup (pv 0))) (blkOk_by (own := [("entry", 2)]) (N := ["v", "common", "entry"]) (sc := defScope s_primitive) (by first | decide +kernel | kernel_rfl)) (fun _ _ _ _ _ => (pg_name (i := 2) sc_primitive.nd rfl (.inl rfl))) (fun _ _ _ _ _ => pts_nil) (fun _ _ _ _ _ => (pe_op op_fdivW (pv 2) (pv 1)))) pa_nil)))))), ?_⟩
    refine ⟨_, rfl, kd, a, ns, rfl, hv, ?_⟩
    refine ⟨_, rfl, rfl, _, rfl, ite2 (fun e => ?_) (fun e => ?_)⟩
    · have e0 : gl ns = 0 := V.int.inj (of_decide_eq_true e)
      have ep : prim ns = ns := if_pos e0
      refine ⟨_, rfl, a, ns.map V.int, rfl, ?_⟩
      cases kd with
      | true =>
        refine .inr ⟨SqT.of hv, q _ _ (Same.refl _) ?_⟩
        rw [ep]
        exact hv
      | false =>
        refine .inl ⟨SqL.of hv, fun l nl => q _ _ (same_upd nl) ?_⟩
        rw [ep]
        exact upd_same
    · have e0 : gl ns ≠ 0 := fun z => e (decide_eq_true (by rw [z]))
      have ep : prim ns = ns.map (· / gl ns) := if_neg e0
      have cd : ∀ x : Int, CDivW x (gl ns) := fun x => wide_div (by have := gl_nn ns; omega) (gl_lim (by decide) hB) (by decide) (by decide)
      have room : ∀ i, (((prim ns).take i).map V.int).length < sizeLine := fun i => by
        rw [List.length_map, List.length_take]
        exact Nat.lt_of_le_of_lt (Nat.min_le_right _ _) (small1000 (by rw [prim_len]; exact hl))
      have next : ∀ (i : Nat) (n : Int) (H0 : Hp) (D : Addr), ns[i]? = some n → upd (upd H0 D (.lst (((prim ns).take i).map V.int))) D (.lst (((prim ns).take i).map V.int ++ [.int (n / gl ns)])) = upd H0 D (.lst (((prim ns).take (i + 1)).map V.int)) := fun i n H0 D hn => by
        have hg : (prim ns)[i]? = some (n / gl ns) := by
          rw [ep, List.getElem?_map, hn]
          rfl
        rw [upd_upd, take_get hg, List.map_append]
        rfl
      have last : ∀ (D : Addr) (H' : Hp), (∃ H0, Same H H0 ∧ H0 D = none ∧ H' = upd H0 D (.lst (((prim ns).take (ns.map V.int).length).map V.int))) →
          ∃ p ys, [V.ref D] = [.ref p] ∧ ((SqL K H' p ys ∧ ∀ l, H' l = none → Q (.ref l) (upd H' l (.tup ys))) ∨ (SqT K H' p ys ∧ Q (.ref p) H')) := fun D H' h => by
        obtain ⟨H0, s0, n0, rfl⟩ := h
        rw [List.length_map, show ns.length = (prim ns).length from (prim_len ns).symm, List.take_length]
        exact ⟨D, _, rfl, .inl ⟨SqL.of upd_same, fun l nl => q _ _ ((s0.trans (same_upd n0)).trans (same_upd nl)) upd_same⟩⟩
      cases kd with
      | true =>
        refine .inr ⟨_, rfl, a, rfl, ⟨_, SqT.of hv⟩, fun D nD => ?_⟩
        refine lc_tup (xs := ns.map V.int) (fun i H' => ∃ H0, Same H H0 ∧ H0 D = none ∧ H' = upd H0 D (.lst (((prim ns).take i).map V.int))) ⟨H, Same.refl _, nD, rfl⟩ (fun i H' _ hP => ?_) (fun i x H' hx hP => ?_) (fun H' hP => ?_)
        · obtain ⟨H0, s0, n0, rfl⟩ := hP
          exact SqT.of ((s0.trans (same_upd n0)) _ _ hv)
        · obtain ⟨H0, s0, n0, rfl⟩ := hP
          obtain ⟨n, hn, rfl⟩ := map_get hx
          refine ⟨rfl, ?_⟩
          unfold tYes
          refine iteT ?_
          exact ⟨_, rfl, _, rfl, _, _, rfl, rfl, cd n, _, upd_same, room i, H0, s0, n0, next i n H0 D hn⟩
        · exact last D H' hP
      | false =>
        refine .inl ⟨_, rfl, a, rfl, ⟨_, SqL.of hv⟩, fun D nD => ?_⟩
        refine lc_list (xs := ns.map V.int) (fun i H' => ∃ H0, Same H H0 ∧ H0 D = none ∧ H' = upd H0 D (.lst (((prim ns).take i).map V.int))) ⟨H, Same.refl _, nD, rfl⟩ (fun i H' _ hP => ?_) (fun i x H' hx hP => ?_) (fun H' hP => ?_)
        · obtain ⟨H0, s0, n0, rfl⟩ := hP
          exact SqL.of ((s0.trans (same_upd n0)) _ _ hv)
        · obtain ⟨H0, s0, n0, rfl⟩ := hP
          obtain ⟨n, hn, rfl⟩ := map_get hx
          refine ⟨rfl, ?_⟩
          unfold tYes
          refine iteT ?_
          exact ⟨_, rfl, _, rfl, _, _, rfl, rfl, cd n, _, upd_same, room i, H0, s0, n0, next i n H0 D hn⟩
        · exact last D H' hP

abbrev s_dot : Stmt := topS 7
theorem sc_dot : FnScope ["v", "w", "a", "b"] ["v", "w"] (defScope s_dot) := ⟨rfl, rfl, rfl, by decide +kernel, rfl, by decide +kernel, by decide +kernel⟩
def spDot : Sp := fun vs H Q _ => ∃ (a b : Addr) (ns ms : List Int), vs = [.ref a, .ref b] ∧ Vc H a ns ∧ Vc H b ms ∧ ns.length = ms.length ∧ ns.length ≤ 1000 ∧ (∀ n ∈ ns, n.natAbs < 2 ^ 4000) ∧ (∀ n ∈ ms, n.natAbs < 2 ^ 4000) ∧ ∀ H' : Hp, Same H H' → Q (.int (dotz ns ms).sum) H'
theorem ok_dot {f : Addr} {fd : FuncData} {k : Nat} (F : Fun K "dot" "dot" s_dot f fd) (Z : Glb mg) : FnOk P w K mg base CX0 (k + 1) f fd ["v", "w"] spDot := by
  refine F.ok sc_dot (fun vs H Q E h => ?_) (fun cdv A outer s H vs Q E hr h => ?_)
  · obtain ⟨a, b, ns, ms, rfl, _⟩ := h
    rfl
  · obtain ⟨a, b, ns, ms, rfl, ha, hb, hl, hm, B1, B2, q⟩ := h
    refine ⟨_, (pss_one (ps_ret (pe_callB (cr_sum rfl) (by rfl) Z.m_sum (by decide +kernel) (pa_cons (pe_lc (own := [("a", 2), ("b", 3)]) (g := gTup K 2 (gCons (gName 2) (gCons (gName 3) gNil))) (tt := tYes) (by rfl) sc_dot.nd (pi_zipA (by rfl) Z.m_zip (pa_cons (pv 0) (pa_cons (pv 1) pa_nil))) (blkOk_by (own := [("a", 2), ("b", 3)]) (N := ["v", "w", "a", "b"]) (sc := defScope s_dot) (by first | decide +kernel | kernel_rfl)) (fun _ _ _ _ _ => (pg_tup rfl (pgs_cons (pg_name (i := 2) sc_dot.nd rfl (.inl rfl)) (pgs_cons (pg_name (i := 3) sc_dot.nd rfl (.inl rfl)) pgs_nil)))) (fun _ _ _ _ _ => pts_nil) (fun _ _ _ _ _ => (pe_op op_mulW (pv 2) (pv 3)))) pa_nil)))), ?_⟩
    refine ⟨_, rfl, _, rfl, a, b, ns.map V.int, ms.map V.int, rfl, .inr ⟨SqT.of ha, SqT.of hb, fun D nD => ?_⟩⟩
    refine lc_it (walk_zipT (xs := ns.map V.int) (ys := ms.map V.int) (n := ns.length) (by rw [List.length_map]) (by rw [List.length_map]; exact hl.symm)) (fun i H' => ∃ H0, Same H H0 ∧ H0 D = none ∧ H' = upd H0 D (.lst (((dotz ns ms).take i).map V.int))) ⟨H, Same.refl _, nD, rfl⟩ (fun i H' _ hP => ?_) (fun i x H' H'' hi hP hY => ?_) (fun H' hP => ?_)
    · obtain ⟨H0, s0, n0, rfl⟩ := hP
      have s1 := s0.trans (same_upd (o := .lst (((dotz ns ms).take i).map V.int)) n0)
      exact ⟨SqT.of (s1 _ _ ha), SqT.of (s1 _ _ hb)⟩
    · obtain ⟨H0, s0, n0, rfl⟩ := hP
      obtain ⟨T, x1, y1, rfl, nT, rfl, hx, hy⟩ := hY
      obtain ⟨n, hn, rfl⟩ := map_get hx
      obtain ⟨m, hm', rfl⟩ := map_get hy
      refine ⟨T, [.int n, .int m], rfl, SqT.of upd_same, rfl, _, _, rfl, _, _, rfl, rfl, rfl, ?_⟩
      unfold tYes
      refine iteT ?_
      have hT : D ≠ T := ne_of_none upd_same nT
      have nT0 : H0 T = none := by rw [upd_ne hT.symm] at nT; exact nT
      refine ⟨_, rfl, _, rfl, _, _, rfl, rfl, cmul (B1 n (List.mem_of_getElem? hn)) (B2 m (List.mem_of_getElem? hm')), ((dotz ns ms).take i).map V.int, by rw [upd_ne hT]; exact upd_same, ?_, upd H0 T (.tup [.int n, .int m]), s0.trans (same_upd nT0), by rw [upd_ne hT]; exact n0, ?_⟩
      · rw [List.length_map, List.length_take]
        exact Nat.lt_of_le_of_lt (Nat.min_le_right _ _) (small1000 (by rw [dotz_len hl]; exact hm))
      · rw [take_get (dotz_get hn hm'), List.map_append]
        funext x
        unfold upd
        by_cases h1 : x = D
        · subst h1
          rw [if_pos rfl, if_pos rfl]
          rfl
        · rw [if_neg h1, if_neg h1]
          by_cases h2 : x = T
          · simp [h2, hT.symm]
          · simp [h1, h2]
    · obtain ⟨H0, s0, n0, rfl⟩ := hP
      rw [show ns.length = (dotz ns ms).length from (dotz_len hl).symm, List.take_length]
      refine ⟨D, _, rfl, SqL.of upd_same, ?_⟩
      exact q _ (s0.trans (same_upd n0))
abbrev s__law_dot : Stmt := topS 32
theorem sc__law_dot : FnScope ["v", "w", "k"] ["v", "w"] (defScope s__law_dot) := ⟨rfl, rfl, rfl, by decide +kernel, rfl, by decide +kernel, by decide +kernel⟩
theorem ok_ldot {f : Addr} {fd : FuncData} {k : Nat} (F : Fun K "_law_dot" "_law_dot" s__law_dot f fd) (Z : Glb mg) : FnOk P w K mg base CX0 (k + 1) f fd ["v", "w"] spDot := by
  refine F.ok sc__law_dot (fun vs H Q E h => ?_) (fun cdv A outer s H vs Q E hr h => ?_)
  · obtain ⟨a, b, ns, ms, rfl, _⟩ := h
    rfl
  · obtain ⟨a, b, ns, ms, rfl, ha, hb, hl, hm, B1, B2, q⟩ := h
    refine ⟨_, (pss_one (ps_ret (pe_callB (cr_sum rfl) (by rfl) Z.m_sum (by decide +kernel) (pa_cons (pe_lc (own := [("k", 2)]) (g := gName 2) (tt := tYes) (by rfl) sc__law_dot.nd (pi_range1 rfl Z.m_range (pa_cons (pe_callB call_len_seq (by rfl) Z.m_len PySem.boot_len (pa_cons (pv 0) pa_nil)) pa_nil)) (blkOk_by (own := [("k", 2)]) (N := ["v", "w", "k"]) (sc := defScope s__law_dot) (by first | decide +kernel | kernel_rfl)) (fun _ _ _ _ _ => (pg_name (i := 2) sc__law_dot.nd rfl (.inl rfl))) (fun _ _ _ _ _ => pts_nil) (fun _ _ _ _ _ => (pe_op op_mulW (pe_ix (r := rIxT K) ix_tup (pv 0) (pv 2) (fun _ _ => rfl)) (pe_ix (r := rIxT K) ix_tup (pv 1) (pv 2) (fun _ _ => rfl))))) pa_nil)))), ?_⟩
    refine ⟨_, rfl, a, ns.map V.int, rfl, .inr (SqT.of ha), ((ns.map V.int).length : Nat), rfl, by rw [List.length_map]; omega, by rw [List.length_map]; omega, fun D nD => ?_⟩
    refine lc_range (lo := 0) (n := (ns.map V.int).length) (fun i H' => ∃ H0, Same H H0 ∧ H0 D = none ∧ H' = upd H0 D (.lst (((dotz ns ms).take i).map V.int))) ⟨H, Same.refl _, nD, rfl⟩ (fun i H' hi hP => ?_) (fun H' hP => ?_)
    · obtain ⟨H0, s0, n0, rfl⟩ := hP
      have s1 := s0.trans (same_upd (o := .lst (((dotz ns ms).take i).map V.int)) n0)
      rw [List.length_map] at hi
      have hn : ns[i]? = some ns[i] := List.getElem?_eq_getElem hi
      have hm' : ms[i]? = some (ms[i]'(by omega)) := List.getElem?_eq_getElem (by omega)
      have e0 : (0 : Int) + (i : Int) = ((i : Nat) : Int) := Int.zero_add _
      rw [e0]
      refine ⟨rfl, ?_⟩
      unfold tYes
      refine iteT ?_
      refine ⟨_, rfl, _, rfl, _, _, _, _, rfl, rfl, SqT.of (s1 _ _ ha), atI_nat (get_map hn), _, rfl, _, rfl, _, _, _, _, rfl, rfl, SqT.of (s1 _ _ hb), atI_nat (get_map hm'), _, _, rfl, rfl, cmul (B1 _ (List.mem_of_getElem? hn)) (B2 _ (List.mem_of_getElem? hm')), ((dotz ns ms).take i).map V.int, upd_same, ?_, H0, s0, n0, ?_⟩
      · rw [List.length_map, List.length_take]
        exact Nat.lt_of_le_of_lt (Nat.min_le_right _ _) (small1000 (by rw [dotz_len hl]; exact hm))
      · rw [take_get (dotz_get hn hm'), List.map_append, upd_upd]
        rfl
    · obtain ⟨H0, s0, n0, rfl⟩ := hP
      rw [List.length_map, show ns.length = (dotz ns ms).length from (dotz_len hl).symm, List.take_length]
      refine ⟨D, _, rfl, SqL.of upd_same, ?_⟩
      exact q _ (s0.trans (same_upd n0))

/-! ### the mathematics of points -/
theorem prim_zero {ns : List Int} (h : gl ns = 0) : ∀ n ∈ ns, n = 0 := fun n hn => by
  have := gl_dvd hn
  rw [h] at this
  exact Int.zero_dvd.mp this
/-- vectors in proportion have the same primitive one -/
theorem prim_prop {u v : List Int} {a b : Int} (ha : 0 < a) (hb : 0 < b) (h : u.map (a * ·) = v.map (b * ·)) : prim u = prim v := by
  have hg : a * gl u = b * gl v := by rw [← gl_scale a (by omega), ← gl_scale b (by omega), h]
  have hl : u.length = v.length := by
    have := congrArg List.length h
    rwa [List.length_map, List.length_map] at this
  have gu := gl_nn u
  have gv := gl_nn v
  apply List.ext_getElem?
  intro i
  by_cases hi : i < u.length
  · have e1 : u[i]? = some u[i] := List.getElem?_eq_getElem hi
    have e2 : v[i]? = some (v[i]'(by omega)) := List.getElem?_eq_getElem (by omega)
    have e3 : a * u[i] = b * v[i]'(by omega) := by
      have := congrArg (fun l => l[i]?) h
      simp only [List.getElem?_map, e1, e2, Option.map_some] at this
      exact Option.some.inj this
    by_cases h0 : gl u = 0
    · have h1 : gl v = 0 := by
        rw [h0, Int.mul_zero] at hg
        rcases Int.mul_eq_zero.mp hg.symm with z | z
        · omega
        · exact z
      rw [show prim u = u from if_pos h0, show prim v = v from if_pos h1, e1, e2, prim_zero h0 _ (List.mem_of_getElem? e1), prim_zero h1 _ (List.mem_of_getElem? e2)]
    · have h1 : gl v ≠ 0 := fun z => by
        rw [z, Int.mul_zero] at hg
        rcases Int.mul_eq_zero.mp hg with z | z
        · omega
        · exact h0 z
      rw [prim_get e1 (by omega), prim_get e2 (by omega)]
      congr 1
      have p1 : u[i] / gl u = (a * u[i]) / (a * gl u) := (Int.mul_ediv_mul_of_pos _ _ ha).symm
      have p2 : (v[i]'(by omega)) / gl v = (b * v[i]'(by omega)) / (b * gl v) := (Int.mul_ediv_mul_of_pos _ _ hb).symm
      rw [p1, p2, e3, hg]
  · rw [List.getElem?_eq_none (by rw [prim_len]; omega), List.getElem?_eq_none (by rw [prim_len]; omega)]
/-- lowest terms, a positive divisor -/
def Low (f : Int × Int) : Prop := 0 < f.2 ∧ Nat.gcd f.1.natAbs f.2.natAbs = 1
theorem low_fr {a b : Int} (hb : 0 < b) : Low (frN a b, frD a b) := by
  refine ⟨frD_pos hb, ?_⟩
  have g := g2_pos (a := a) (b := b) (by omega)
  have e : (g2 a b).natAbs = Nat.gcd a.natAbs b.natAbs := by
    unfold g2
    exact Int.natAbs_natCast _
  show Nat.gcd (a / g2 a b).natAbs (b / g2 a b).natAbs = 1
  rw [Int.natAbs_ediv_of_dvd (g2_dvd_l a b), Int.natAbs_ediv_of_dvd (g2_dvd_r a b), e]
  rw [Nat.gcd_div (Nat.gcd_dvd_left _ _) (Nat.gcd_dvd_right _ _)]
  exact Nat.div_self (Nat.gcd_pos_of_pos_right _ (by omega))
/-- the cross product of a fraction and what it comes from -/
theorem fr_cross {a b : Int} (hb : 0 < b) : frN a b * b = frD a b * a := by
  have g := g2_pos (a := a) (b := b) (by omega)
  obtain ⟨x, hx⟩ := g2_dvd_l a b
  obtain ⟨y, hy⟩ := g2_dvd_r a b
  unfold frN frD
  generalize hg : g2 a b = k at *
  have h1 : a / k = x := by rw [hx, Int.mul_ediv_cancel_left _ (by omega)]
  have h2 : b / k = y := by rw [hy, Int.mul_ediv_cancel_left _ (by omega)]
  rw [h1, h2, hx, hy]
  simp only [Int.mul_assoc, Int.mul_left_comm, Int.mul_comm]
/-- equal fractions in lowest terms -/
theorem low_eq {f g : Int × Int} (hf : Low f) (hg : Low g) (h : f.1 * g.2 = f.2 * g.1) : f = g := by
  obtain ⟨a, b⟩ := f
  obtain ⟨c, d⟩ := g
  obtain ⟨b0, h1⟩ := hf
  obtain ⟨d0, h2⟩ := hg
  simp only at *
  have hN : a.natAbs * d.natAbs = b.natAbs * c.natAbs := by rw [← Int.natAbs_mul, ← Int.natAbs_mul, h]
  have k1 : b.natAbs ∣ d.natAbs := by
    have : b.natAbs ∣ a.natAbs * d.natAbs := ⟨c.natAbs, hN⟩
    exact Nat.Coprime.dvd_of_dvd_mul_left (by rw [Nat.Coprime, Nat.gcd_comm]; exact h1) this
  have k2 : d.natAbs ∣ b.natAbs := by
    have : d.natAbs ∣ c.natAbs * b.natAbs := ⟨a.natAbs, by rw [Nat.mul_comm c.natAbs, ← hN, Nat.mul_comm]⟩
    exact Nat.Coprime.dvd_of_dvd_mul_left (by rw [Nat.Coprime, Nat.gcd_comm]; exact h2) this
  have e : b = d := by
    have := Nat.dvd_antisymm k1 k2
    omega
  subst e
  have : a * b = c * b := by rw [h, Int.mul_comm]
  rw [Int.eq_of_mul_eq_mul_right (by omega) this]
/-- the least common multiple of divisors, their product -/
def lcmD (fs : List (Int × Int)) : Int := fs.foldl (fun c f => ((Nat.lcm c.natAbs f.2.natAbs : Nat) : Int)) 1
def prodD (fs : List (Int × Int)) : Int := fs.foldl (fun c f => c * f.2) 1
/-- the coordinates over one divisor -/
def over1 (L : Int) (fs : List (Int × Int)) : List Int := L :: fs.map fun f => f.1 * (L / f.2)
theorem lcmD_facts : ∀ (fs : List (Int × Int)) (c : Int), 0 < c → (∀ f ∈ fs, 0 < f.2) →
    0 < fs.foldl (fun c f => ((Nat.lcm c.natAbs f.2.natAbs : Nat) : Int)) c ∧ c ∣ fs.foldl (fun c f => ((Nat.lcm c.natAbs f.2.natAbs : Nat) : Int)) c ∧ (∀ f ∈ fs, f.2 ∣ fs.foldl (fun c f => ((Nat.lcm c.natAbs f.2.natAbs : Nat) : Int)) c) ∧
    ∀ m : Int, c ∣ m → (∀ f ∈ fs, f.2 ∣ m) → fs.foldl (fun c f => ((Nat.lcm c.natAbs f.2.natAbs : Nat) : Int)) c ∣ m
  | [], c, hc, _ => ⟨hc, Int.dvd_refl _, fun f h => (nomatch h), fun m h _ => h⟩
  | f :: fs, c, hc, hf => by
    have f0 := hf f List.mem_cons_self
    have l0 : 0 < ((Nat.lcm c.natAbs f.2.natAbs : Nat) : Int) := by
      have : 0 < Nat.lcm c.natAbs f.2.natAbs := Nat.lcm_pos (by omega) (by omega)
      omega
    obtain ⟨h1, h2, h3, h4⟩ := lcmD_facts fs ((Nat.lcm c.natAbs f.2.natAbs : Nat) : Int) l0 fun g hg => hf g (List.mem_cons_of_mem _ hg)
    have d1 : c ∣ ((Nat.lcm c.natAbs f.2.natAbs : Nat) : Int) := Int.natAbs_dvd_natAbs.mp (by rw [Int.natAbs_natCast]; exact Nat.dvd_lcm_left _ _)
    have d2 : f.2 ∣ ((Nat.lcm c.natAbs f.2.natAbs : Nat) : Int) := Int.natAbs_dvd_natAbs.mp (by rw [Int.natAbs_natCast]; exact Nat.dvd_lcm_right _ _)
    refine ⟨h1, Int.dvd_trans d1 h2, fun g hg => ?_, fun m hm hg => h4 m ?_ fun g h => hg g (List.mem_cons_of_mem _ h)⟩
    · rcases List.mem_cons.mp hg with rfl | hg
      · exact Int.dvd_trans d2 h2
      · exact h3 g hg
    · exact Int.natAbs_dvd_natAbs.mp (by rw [Int.natAbs_natCast]; exact Nat.lcm_dvd (Int.natAbs_dvd_natAbs.mpr hm) (Int.natAbs_dvd_natAbs.mpr (hg f List.mem_cons_self)))
theorem prodD_facts : ∀ (fs : List (Int × Int)) (c : Int), 0 < c → (∀ f ∈ fs, 0 < f.2) → 0 < fs.foldl (fun c f => c * f.2) c ∧ c ∣ fs.foldl (fun c f => c * f.2) c ∧ ∀ f ∈ fs, f.2 ∣ fs.foldl (fun c f => c * f.2) c
  | [], c, hc, _ => ⟨hc, Int.dvd_refl _, fun f h => nomatch h⟩
  | f :: fs, c, hc, hf => by
    obtain ⟨h1, h2, h3⟩ := prodD_facts fs (c * f.2) (Int.mul_pos hc (hf f List.mem_cons_self)) fun g hg => hf g (List.mem_cons_of_mem _ hg)
    refine ⟨h1, Int.dvd_trans ⟨f.2, rfl⟩ h2, fun g hg => ?_⟩
    rcases List.mem_cons.mp hg with rfl | hg
    · exact Int.dvd_trans ⟨c, Int.mul_comm _ _⟩ h2
    · exact h3 g hg
theorem div_mul {L d : Int} (h : d ∣ L) : d * (L / d) = L := Int.mul_ediv_cancel' h
/-- two common divisors give vectors in proportion -/
theorem over1_prop {L M : Int} {fs : List (Int × Int)} (h0 : ∀ f ∈ fs, 0 < f.2) (hL : ∀ f ∈ fs, f.2 ∣ L) (hM : ∀ f ∈ fs, f.2 ∣ M) : (over1 L fs).map (M * ·) = (over1 M fs).map (L * ·) := by
  unfold over1
  rw [List.map_cons, List.map_cons, List.map_map, List.map_map]
  congr 1
  · exact Int.mul_comm _ _
  · apply List.map_congr_left
    intro f hf
    show M * (f.1 * (L / f.2)) = L * (f.1 * (M / f.2))
    have e1 := div_mul (hL f hf)
    have e2 := div_mul (hM f hf)
    have f0 := h0 f hf
    generalize L / f.2 = x at *
    generalize M / f.2 = y at *
    rw [← e1, ← e2]
    simp only [Int.mul_assoc, Int.mul_left_comm, Int.mul_comm]
/-- over the least common multiple the vector is primitive -/
theorem over1_prim {fs : List (Int × Int)} (h : ∀ f ∈ fs, Low f) : prim (over1 (lcmD fs) fs) = over1 (lcmD fs) fs := by
  obtain ⟨L0, _, hd, hm⟩ := lcmD_facts fs 1 (by decide) fun f hf => (h f hf).1
  have hg : gl (over1 (lcmD fs) fs) = 1 := by
    have gp := gl_pos (ns := over1 (lcmD fs) fs) (n := lcmD fs) List.mem_cons_self (by unfold lcmD; omega)
    have g1 : gl (over1 (lcmD fs) fs) ∣ lcmD fs := gl_dvd List.mem_cons_self
    have g2' : ∀ f ∈ fs, gl (over1 (lcmD fs) fs) ∣ f.1 * (lcmD fs / f.2) := fun f hf => gl_dvd (List.mem_cons_of_mem _ (List.mem_map.mpr ⟨f, hf, rfl⟩))
    generalize gl (over1 (lcmD fs) fs) = g at *
    have hL : lcmD fs = fs.foldl (fun c f => ((Nat.lcm c.natAbs f.2.natAbs : Nat) : Int)) 1 := rfl
    rw [← hL] at L0 hd hm
    generalize lcmD fs = L at *
    obtain ⟨t, ht⟩ := g1
    have t0 : 0 < t := by
      by_cases q : 0 < t
      · exact q
      · have : g * t ≤ 0 := Int.mul_nonpos_of_nonneg_of_nonpos (by omega) (by omega)
        omega
    have each : ∀ f ∈ fs, f.2 ∣ t := fun f hf => by
      obtain ⟨d0, cop⟩ := h f hf
      have e1 := div_mul (hd f hf)
      have k1 := g2' f hf
      generalize L / f.2 = q at *
      -- g divides d q and n q, so q
      have kq : g ∣ q := by
        have a1 : g.natAbs ∣ f.1.natAbs * q.natAbs := by rw [← Int.natAbs_mul]; exact Int.natAbs_dvd_natAbs.mpr k1
        have a2 : g.natAbs ∣ f.2.natAbs * q.natAbs := by rw [← Int.natAbs_mul, e1]; exact Int.natAbs_dvd_natAbs.mpr ⟨t, ht⟩
        have a3 := Nat.dvd_gcd a1 a2
        rw [Nat.gcd_mul_right, cop, Nat.one_mul] at a3
        exact Int.natAbs_dvd_natAbs.mp a3
      obtain ⟨s, rfl⟩ := kq
      refine ⟨s, ?_⟩
      have : g * t = g * (f.2 * s) := by
        rw [← ht, ← e1]
        simp only [Int.mul_assoc, Int.mul_left_comm, Int.mul_comm]
      exact Int.eq_of_mul_eq_mul_left (by omega) this
    obtain ⟨r, hr⟩ := hm t (Int.one_dvd t) each
    have : 1 * t = (g * r) * t := by
      rw [Int.one_mul]
      conv => lhs; rw [hr, ht]
      simp only [Int.mul_assoc, Int.mul_left_comm, Int.mul_comm]
    have e1 := Int.eq_of_mul_eq_mul_right (by omega) this
    have r0 : 0 < r := by
      by_cases q : 0 < r
      · exact q
      · have : g * r ≤ 0 := Int.mul_nonpos_of_nonneg_of_nonpos (by omega) (by omega)
        omega
    have : g * 1 ≤ g * r := Int.mul_le_mul_of_nonneg_left (by omega) (by omega)
    omega
  unfold prim
  rw [hg, if_neg (by decide)]
  have : (fun n : Int => n / 1) = id := by funext n; exact Int.ediv_one n
  rw [this, List.map_id]
/-- what the law makes of coordinates is what the program makes -/
theorem made_same {fs : List (Int × Int)} (h : ∀ f ∈ fs, Low f) : prim (over1 (prodD fs) fs) = over1 (lcmD fs) fs := by
  obtain ⟨L0, _, hd, _⟩ := lcmD_facts fs 1 (by decide) fun f hf => (h f hf).1
  obtain ⟨M0, _, hd2⟩ := prodD_facts fs 1 (by decide) fun f hf => (h f hf).1
  rw [← over1_prim h]
  exact prim_prop L0 M0 (over1_prop (fun f hf => (h f hf).1) hd2 hd)

/-! ### rows put in steps -/
open Rk
def PvL (H : Hp) (D : Addr) (vs : List (List Int)) (H' : Hp) : Prop := Same H H' ∧ VL H' D vs
theorem pvl0 {H : Hp} {D : Addr} (nD : H D = none) : PvL H D [] (upd H D (.lst [])) := ⟨same_upd nD, vl0⟩
theorem pvl_step {H H' H'' : Hp} {D r : Addr} {vs : List (List Int)} {v : List Int} (nD : H D = none) (hP : PvL H D vs H') (s : Same H' H'') (hr : Vc H'' r v) (hl : vs.length < 1000) :
    ∃ acc, H'' D = some (.lst acc) ∧ acc.length < sizeLine ∧ PvL H D (vs ++ [v]) (upd H'' D (.lst (acc ++ [.ref r]))) := by
  have V2 := hP.2.same s
  obtain ⟨rs, e, l, g⟩ := id V2
  refine ⟨_, e, by rw [List.length_map, l]; exact small1000 (by omega), fun y o hy => ?_, V2.push hr e⟩
  rw [upd_ne (ne_of_none hy nD)]
  exact s _ _ (hP.1 _ _ hy)
theorem en_get {v : List Int} {c : Nat} (h : c < v.length) : (v.map V.int)[c]? = some (.int (en v c)) := by
  rw [get_map (List.getElem?_eq_getElem h)]
  unfold en
  rw [List.getD_eq_getElem?_getD, List.getElem?_eq_getElem h]
  rfl
theorem en_mem {v : List Int} {c : Nat} (h : c < v.length) : en v c ∈ v := by
  unfold en
  rw [List.getD_eq_getElem?_getD, List.getElem?_eq_getElem h]
  exact List.getElem_mem h
theorem en_map {v : List Int} {f : Int → Int} {c : Nat} (h : c < v.length) : en (v.map f) c = f (en v c) := by
  unfold en
  rw [List.getD_eq_getElem?_getD, List.getD_eq_getElem?_getD, List.getElem?_map, List.getElem?_eq_getElem h]
  rfl
theorem en_out {v : List Int} {c : Nat} (h : v.length ≤ c) : en v c = 0 := by
  unfold en
  rw [List.getD_eq_getElem?_getD, List.getElem?_eq_none h]
  rfl
def wpos (v : List Int) (c : Nat) : List Int := if en v c < 0 then v.map fun x => -x else v
def elm (v l : List Int) (c : Nat) : List Int := (v.zip l).map fun p => en l c * p.1 - en v c * p.2
def clr (v l : List Int) (c : Nat) : List Int := if en v c = 0 then v else prim (elm v l c)
theorem wpos_len (v : List Int) (c : Nat) : (wpos v c).length = v.length := by
  unfold wpos
  split
  · rw [List.length_map]
  · rfl
theorem elm_len {v l : List Int} (c : Nat) (h : v.length = l.length) : (elm v l c).length = v.length := by
  unfold elm
  rw [List.length_map, List.length_zip, h, Nat.min_self]
theorem clr_len {v l : List Int} (c : Nat) (h : v.length = l.length) : (clr v l c).length = v.length := by
  unfold clr
  split
  · rfl
  · rw [prim_len, elm_len c h]
theorem elm_get {v l : List Int} {c i : Nat} {x y : Int} (h1 : v[i]? = some x) (h2 : l[i]? = some y) : (elm v l c)[i]? = some (en l c * x - en v c * y) := by
  unfold elm
  rw [List.getElem?_map, List.getElem?_zip_eq_some (z := (x, y)) |>.mpr ⟨h1, h2⟩]
  rfl
theorem elm_en {v l : List Int} {c i : Nat} (h : v.length = l.length) (hi : i < v.length) : en (elm v l c) i = en l c * en v i - en v c * en l i := by
  have e := elm_get (c := c) (List.getElem?_eq_getElem hi) (List.getElem?_eq_getElem (show i < l.length by omega))
  unfold en at *
  rw [List.getD_eq_getElem?_getD (l := elm v l c), e, List.getD_eq_getElem?_getD (l := v) (i := i), List.getElem?_eq_getElem hi, List.getD_eq_getElem?_getD (l := l) (i := i), List.getElem?_eq_getElem (show i < l.length by omega)]
  rfl
theorem prim_en {v : List Int} (h : gl v ≠ 0) {i : Nat} : gl v * en (prim v) i = en v i := by
  by_cases hi : i < v.length
  · rw [show prim v = v.map (· / gl v) from if_neg h, en_map hi]
    exact Int.mul_ediv_cancel' (gl_dvd (en_mem hi))
  · rw [en_out (by rw [prim_len]; omega), en_out (by omega), Int.mul_zero]
theorem clr_el {v l : List Int} {w c : Nat} (hv : v.length = w) (hl : l.length = w) (h0 : en l c ≠ 0) : El w c l v (clr v l c) := by
  unfold clr
  by_cases z : en v c = 0
  · rw [if_pos z]
    exact ⟨en l c, h0, fun j _ => by rw [z]; omega⟩
  · rw [if_neg z]
    by_cases g : gl (elm v l c) = 0
    · rw [show prim (elm v l c) = elm v l c from if_pos g]
      exact ⟨1, by decide, fun j hj => by rw [elm_en (by omega) (by omega), Int.one_mul]⟩
    · exact ⟨_, g, fun j hj => by rw [prim_en g, elm_en (by omega) (by omega)]⟩
/-- entries below 2 ^ b -/
def Lim (b : Nat) (v : List Int) : Prop := ∀ x ∈ v, x.natAbs < 2 ^ b
theorem Lim.up {a b : Nat} {v : List Int} (h : Lim a v) (l : a ≤ b) : Lim b v := fun x hx => up_pow (h x hx) l
theorem Lim.en {b : Nat} {v : List Int} (h : Lim b v) (i : Nat) : (en v i).natAbs < 2 ^ b := by
  by_cases hi : i < v.length
  · exact h _ (en_mem hi)
  · rw [en_out (by omega)]
    exact Nat.pow_pos (by decide)
theorem prim_lim {b : Nat} {v : List Int} (h : Lim b v) : Lim b (prim v) := by
  have h1 : ∀ n ∈ v, n.natAbs ≤ 2 ^ b - 1 := fun n hn => by have := h n hn; omega
  intro x hx
  have := prim_small h1 x hx
  have p : 0 < 2 ^ b := Nat.pow_pos (by decide)
  omega
theorem elm_lim {b : Nat} {v l : List Int} (c : Nat) (hv : Lim b v) (hl : Lim b l) : Lim (2 * b + 1) (elm v l c) := by
  intro x hx
  unfold elm at hx
  obtain ⟨⟨y, z⟩, hp, rfl⟩ := List.mem_map.mp hx
  have hy := hv y (List.of_mem_zip hp).1
  have hz := hl z (List.of_mem_zip hp).2
  have := sub_pow (mul_pow (hl.en c) hy) (mul_pow (hv.en c) hz)
  rw [show 2 * b + 1 = b + b + 1 by omega]
  exact this
theorem clr_lim {b : Nat} {v l : List Int} (c : Nat) (hv : Lim b v) (hl : Lim b l) : Lim (2 * b + 1) (clr v l c) := by
  unfold clr
  split
  · exact hv.up (by omega)
  · exact prim_lim (elm_lim c hv hl)
theorem wpos_lim {b c : Nat} {v : List Int} (hv : Lim b v) : Lim b (wpos v c) := by
  unfold wpos
  split
  · intro x hx
    obtain ⟨y, hy, rfl⟩ := List.mem_map.mp hx
    have := hv y hy
    omega
  · exact hv
/-- primitive, or of zeros -/
def Pok (v : List Int) : Prop := gl v = 0 ∨ gl v = 1
theorem Pok.prim {v : List Int} (h : Pok v) : prim v = v := by
  unfold HwP.prim
  rcases h with h | h
  · rw [if_pos h]
  · rw [h, if_neg (by decide)]
    conv => rhs; rw [← List.map_id v]
    exact List.map_congr_left fun x _ => Int.ediv_one x
theorem pok_prim (v : List Int) : Pok (prim v) := by
  by_cases g : gl v = 0
  · rw [show prim v = v from if_pos g]
    exact .inl g
  · right
    have e : (prim v).map (gl v * ·) = v := by
      apply List.ext_getElem?
      intro i
      rw [List.getElem?_map]
      by_cases hi : i < v.length
      · have e1 : v[i]? = some v[i] := List.getElem?_eq_getElem hi
        have e2 : (prim v)[i]? = some (v[i] / gl v) := by
          rw [show prim v = v.map (· / gl v) from if_neg g, List.getElem?_map, e1]
          rfl
        rw [e2, e1]
        exact congrArg some (Int.mul_ediv_cancel' (gl_dvd (List.getElem_mem hi)))
      · rw [List.getElem?_eq_none (by rw [prim_len]; omega), List.getElem?_eq_none (by omega)]
        rfl
    have s := gl_scale (gl v) (gl_nn v) (prim v)
    rw [e] at s
    have n := gl_nn v
    have : gl v * (gl (prim v) - 1) = 0 := by rw [Int.mul_sub, ← s]; omega
    rcases Int.mul_eq_zero.mp this with h | h
    · exact absurd h g
    · omega
theorem gl_neg (v : List Int) : gl (v.map fun x => -x) = gl v := by
  unfold gl
  have : ∀ (l : List Int) (c : Int), (l.map fun x => -x).foldl g2 c = l.foldl g2 c := by
    intro l
    induction l with
    | nil => intro c; rfl
    | cons x r ih =>
      intro c
      rw [List.map_cons, List.foldl_cons, List.foldl_cons, ih]
      congr 1
      unfold g2
      rw [Int.natAbs_neg]
  exact this v 0
theorem Pok.wpos {v : List Int} {c : Nat} (h : Pok v) : Pok (wpos v c) := by
  unfold HwP.wpos
  split
  · unfold Pok
    rw [gl_neg]
    exact h
  · exact h
theorem Pok.clr {v l : List Int} {c : Nat} (h : Pok v) : Pok (clr v l c) := by
  unfold HwP.clr
  split
  · exact h
  · exact pok_prim _
theorem wpos_pos {v : List Int} {c : Nat} (hc : c < v.length) (h : en v c ≠ 0) : 0 < en (wpos v c) c := by
  unfold wpos
  split
  · rw [en_map hc]; omega
  · omega
theorem wpos_zero {v : List Int} {c i : Nat} (h : en v i = 0) : en (wpos v c) i = 0 := by
  unfold wpos
  split
  · by_cases hi : i < v.length
    · rw [en_map hi, h]; rfl
    · rw [en_out (by rw [List.length_map]; omega)]
  · exact h
theorem wpos_dv {v : List Int} {w c : Nat} (hv : v.length = w) (x : Nat → Int) : dv w v x = 0 ↔ dv w (wpos v c) x = 0 := by
  unfold wpos
  split
  · have : dv w (v.map fun x => -x) x = (-1) * dv w v x := by
      unfold dv
      rw [← sm_mul]
      exact sm_congr fun j hj => by rw [en_map (by omega)]; rw [Int.neg_mul]; omega
    rw [this]
    omega
  · exact Iff.rfl
/-- rows in steps, reduced -/
structure Red (w : Nat) (P : List (Nat × List Int)) : Prop where
  pos : ∀ p ∈ P, 0 < en p.2 p.1
  pok : ∀ p ∈ P, Pok p.2
  len : ∀ p ∈ P, p.2.length = w
  off : ∀ p ∈ P, ∀ q ∈ P, p.1 ≠ q.1 → en q.2 p.1 = 0
def clrP (l : List Int) (c : Nat) (P : List (Nat × List Int)) : List (Nat × List Int) := P.map fun p => (p.1, clr p.2 l c)
theorem clrP_fst (l : List Int) (c : Nat) (P : List (Nat × List Int)) : (clrP l c P).map (·.1) = P.map (·.1) := by
  unfold clrP
  rw [List.map_map]
  rfl
theorem clr_pos {v l : List Int} {w c j : Nat} (hv : v.length = w) (hl : l.length = w) (h0 : 0 < en l c) (hj : j < w) (h1 : 0 < en v j) (h2 : en l j = 0) : 0 < en (clr v l c) j := by
  unfold clr
  split
  · exact h1
  · have e : en (elm v l c) j = en l c * en v j := by rw [elm_en (by omega) (by omega), h2]; omega
    have p := Int.mul_pos h0 h1
    have g : gl (elm v l c) ≠ 0 := fun z => by
      have := prim_zero z _ (en_mem (v := elm v l c) (c := j) (by rw [elm_len c (by omega)]; omega))
      omega
    have e2 := prim_en g (i := j)
    rw [e] at e2
    have n := gl_nn (elm v l c)
    by_cases q : 0 < en (prim (elm v l c)) j
    · exact q
    · exfalso
      have : gl (elm v l c) * en (prim (elm v l c)) j ≤ 0 := Int.mul_nonpos_of_nonneg_of_nonpos n (by omega)
      omega
theorem Tri.clr {w k : Nat} {l : List Int} (hl : l.length = w) (h0 : en l k ≠ 0) (hk : k < w) (hz : ∀ j, j < k → en l j = 0) : ∀ {m : Nat} {P : List (Nat × List Int)}, m ≤ k → Tri w m P → (∀ p ∈ P, p.2.length = w) → Tri w m (clrP l k P)
  | _, [], _, _, _ => trivial
  | m, p :: r, hm, h, hlen => by
    obtain ⟨h1, h2, h3, h4⟩ := h
    have g1 : p.1 < m := h1
    have g2 : p.1 < k := by omega
    have g3 : p.1 < w := by omega
    have lp := hlen p List.mem_cons_self
    have e := clr_el (c := k) lp hl h0
    refine ⟨h1, e.ne h0 g3 h2 (hz _ g2), fun j hj => e.zero (Nat.lt_trans hj g3) (h3 j hj) (hz _ (Nat.lt_trans hj g2)), ?_⟩
    exact Tri.clr hl h0 hk hz (Nat.le_of_lt g2) h4 fun q hq => hlen q (List.mem_cons_of_mem _ hq)
theorem Red.step {w k : Nat} {l : List Int} {P : List (Nat × List Int)} (h : Red w P) (t : Tri w k P) (hl : l.length = w) (h0 : 0 < en l k) (hk : k < w) (hz : ∀ j, j < k → en l j = 0) (pl : Pok l) : Red w ((k, l) :: clrP l k P) := by
  have mem : ∀ p ∈ clrP l k P, ∃ q ∈ P, p.1 = q.1 ∧ p.2 = HwP.clr q.2 l k := fun p hp => by
    unfold clrP at hp
    obtain ⟨q, hq, rfl⟩ := List.mem_map.mp hp
    exact ⟨q, hq, rfl, rfl⟩
  refine ⟨fun p hp => ?_, fun p hp => ?_, fun p hp => ?_, fun p hp q hq ne => ?_⟩
  · rcases List.mem_cons.mp hp with e | e
    · rw [e]; exact h0
    · obtain ⟨q, hq, e1, e2⟩ := mem p e
      have lt := t.lt q hq
      rw [e1, e2]
      exact clr_pos (h.len q hq) hl h0 (by omega) (h.pos q hq) (hz _ lt)
  · rcases List.mem_cons.mp hp with e | e
    · rw [e]; exact pl
    · obtain ⟨q, hq, e1, e2⟩ := mem p e
      rw [e2]
      exact (h.pok q hq).clr
  · rcases List.mem_cons.mp hp with e | e
    · rw [e]; exact hl
    · obtain ⟨q, hq, e1, e2⟩ := mem p e
      rw [e2, clr_len _ (by rw [h.len q hq, hl])]
      exact h.len q hq
  · rcases List.mem_cons.mp hp with e | e
    · rcases List.mem_cons.mp hq with e' | e'
      · rw [e, e'] at ne
        exact absurd rfl ne
      · obtain ⟨q', hq', e1, e2⟩ := mem q e'
        rw [e2, e]
        exact (clr_el (h.len q' hq') hl (by omega)).at hk
    · obtain ⟨p', hp', e1, e2⟩ := mem p e
      have lt := t.lt p' hp'
      rcases List.mem_cons.mp hq with e' | e'
      · rw [e', e1]
        exact hz _ lt
      · obtain ⟨q', hq', e3, e4⟩ := mem q e'
        rw [e4, e1]
        refine (clr_el (h.len q' hq') hl (by omega)).zero (by omega) (h.off p' hp' q' hq' ?_) (hz _ lt)
        rw [← e1, ← e3]
        exact ne

def rTupOf (K : PySem.W.Frag) : List V → Hp → VK → Prop := fun xs H Q => ∃ p ys, xs = [V.ref p] ∧ ((SqL K H p ys ∧ ∀ l, H l = none → Q (V.ref l) (upd H l (HO.tup ys))) ∨ (SqT K H p ys ∧ Q (V.ref p) H))

open Rk
theorem nodup_len {α : Type} [DecidableEq α] : ∀ (l D : List α), l.Nodup → (∀ x ∈ l, x ∈ D) → l.length ≤ D.length
  | [], _, _, _ => Nat.zero_le _
  | x :: l, D, hn, hs => by
    obtain ⟨h1, h2⟩ := List.nodup_cons.mp hn
    have hx : x ∈ D := hs x List.mem_cons_self
    have ih := nodup_len l (D.erase x) h2 fun y hy => by
      have hne : y ≠ x := fun e => h1 (e ▸ hy)
      exact (List.mem_erase_of_ne hne).2 (hs y (List.mem_cons_of_mem _ hy))
    have e := List.length_erase_of_mem hx
    have hp : 0 < D.length := List.length_pos_of_mem hx
    rw [List.length_cons]
    omega
theorem sm_lim {f : Nat → Int} {C : Nat} : ∀ {n : Nat}, (∀ j, j < n → (f j).natAbs ≤ C) → (sm n f).natAbs ≤ n * C
  | 0, _ => by
    show (0 : Int).natAbs ≤ 0 * C
    omega
  | n + 1, h => by
    have h1 := sm_lim (f := f) (C := C) (n := n) fun j hj => h j (by omega)
    have h2 := h n (by omega)
    show (sm n f + f n).natAbs ≤ (n + 1) * C
    rw [Nat.succ_mul]
    omega
theorem sm_two {f : Nat → Int} {n a b : Nat} (ha : a < n) (hb : b < n) (ne : a ≠ b) (h : ∀ j, j < n → j ≠ a → j ≠ b → f j = 0) : sm n f = f a + f b := by
  have e : sm n f = sm n (fun j => (if j = a then f a else 0) + (if j = b then f b else 0)) := sm_congr fun j hj => by
    by_cases h1 : j = a
    · rw [if_pos h1, if_neg (by omega), h1]; omega
    · by_cases h2 : j = b
      · rw [if_neg h1, if_pos h2, h2]; omega
      · rw [if_neg h1, if_neg h2, h j hj h1 h2]; rfl
  rw [e, sm_add, sm_one (k := a) ha fun j _ hj => if_neg hj, sm_one (k := b) hb fun j _ hj => if_neg hj, if_pos rfl, if_pos rfl]

open Rk
theorem sm_swap {f : Nat → Nat → Int} {m : Nat} : ∀ {n : Nat}, sm n (fun i => sm m fun j => f i j) = sm m fun j => sm n fun i => f i j
  | 0 => (sm_zero (n := m) (f := fun j => sm 0 fun i => f i j) fun j _ => rfl).symm
  | n + 1 => by
    show sm n (fun i => sm m fun j => f i j) + sm m (fun j => f n j) = _
    rw [sm_swap, ← sm_add]
    rfl

open Rk
/-! ### determinants of any size, by rows -/
namespace Gd
def sg (k : Nat) : Int := if k % 2 = 0 then 1 else -1
theorem sg_succ (k : Nat) : sg (k + 1) = - sg k := by
  unfold sg
  by_cases c : k % 2 = 0
  · rw [if_pos c, if_neg (by omega)]
  · rw [if_neg c, if_pos (by omega)]
    rfl
theorem sg_flip (x : Int) (k : Nat) : x - 2 * x * ((k % 2 : Nat) : Int) = sg k * x := by
  unfold sg
  have : k % 2 = 0 ∨ k % 2 = 1 := by omega
  rcases this with e | e <;> rw [e]
  · rw [if_pos rfl]
    show x - 2 * x * 0 = _
    omega
  · rw [if_neg (by decide)]
    show x - 2 * x * 1 = _
    omega
theorem sg_ne (k : Nat) : sg k = 1 ∨ sg k = -1 := by
  unfold sg
  by_cases c : k % 2 = 0
  · rw [if_pos c]; exact .inl rfl
  · rw [if_neg c]; exact .inr rfl
abbrev Mt := Nat → Nat → Int
/-- the rows below the first, without a column -/
def mn1 (A : Mt) (k : Nat) : Mt := fun i j => A (i + 1) (skp k j)
def gd : Nat → Mt → Int
  | 0, _ => 1
  | n + 1, A => sm (n + 1) fun k => sg k * (A 0 k * gd n (mn1 A k))
theorem skp_lt {k j n : Nat} (h : j < n) : skp k j < n + 1 := by unfold skp; split <;> omega
theorem gd_congr : ∀ {n : Nat} {A B : Mt}, (∀ i j, i < n → j < n → A i j = B i j) → gd n A = gd n B
  | 0, _, _, _ => rfl
  | n + 1, A, B, h => by
    unfold gd
    refine sm_congr fun k hk => ?_
    rw [h 0 k (by omega) hk, gd_congr (A := mn1 A k) (B := mn1 B k) fun i j hi hj => h (i + 1) (skp k j) (by omega) (skp_lt hj)]
/-- a row put in -/
def put (A : Mt) (p : Nat) (u : Nat → Int) : Mt := fun i => if i = p then u else A i
theorem mn1_put {A : Mt} {p k : Nat} {u : Nat → Int} : mn1 (put A (p + 1) u) k = put (mn1 A k) p fun j => u (skp k j) := by
  funext i j
  unfold mn1 put
  by_cases c : i = p
  · rw [if_pos (by omega), if_pos c]
  · rw [if_neg (by omega), if_neg c]
theorem mn1_put0 {A : Mt} {k : Nat} {u : Nat → Int} : mn1 (put A 0 u) k = mn1 A k := by
  funext i j
  unfold mn1 put
  rw [if_neg (by omega)]
theorem gd_lin : ∀ {n p : Nat} {A : Mt} {u v : Nat → Int} {a b : Int}, p < n → gd n (put A p fun j => a * u j + b * v j) = a * gd n (put A p u) + b * gd n (put A p v)
  | 0, p, _, _, _, _, _, h => absurd h (Nat.not_lt_zero p)
  | n + 1, 0, A, u, v, a, b, _ => by
    unfold gd
    rw [← sm_mul, ← sm_mul, ← sm_add]
    refine sm_congr fun k _ => ?_
    rw [mn1_put0, mn1_put0, mn1_put0]
    show sg k * ((a * u k + b * v k) * gd n (mn1 A k)) = a * (sg k * (u k * gd n (mn1 A k))) + b * (sg k * (v k * gd n (mn1 A k)))
    grind
  | n + 1, p + 1, A, u, v, a, b, h => by
    unfold gd
    rw [← sm_mul, ← sm_mul, ← sm_add]
    refine sm_congr fun k _ => ?_
    rw [mn1_put, mn1_put, mn1_put]
    have e := gd_lin (n := n) (p := p) (A := mn1 A k) (u := fun j => u (skp k j)) (v := fun j => v (skp k j)) (a := a) (b := b) (by omega)
    have z : ∀ t : Nat → Int, put A (p + 1) t 0 k = A 0 k := fun t => by unfold put; rw [if_neg (by omega)]
    rw [z, z, z, e]
    grind
theorem put_self {A : Mt} {p : Nat} : put A p (A p) = A := by
  funext i
  unfold put
  by_cases c : i = p
  · rw [if_pos c, c]
  · rw [if_neg c]
theorem put_put {A : Mt} {p : Nat} {u v : Nat → Int} : put (put A p u) p v = put A p v := by
  funext i
  unfold put
  by_cases c : i = p
  · rw [if_pos c, if_pos c]
  · rw [if_neg c, if_neg c, if_neg c]
theorem put_comm {A : Mt} {p q : Nat} {u v : Nat → Int} (h : p ≠ q) : put (put A p u) q v = put (put A q v) p u := by
  funext i
  unfold put
  by_cases c : i = q
  · rw [if_pos c, if_neg (by omega), if_pos c]
  · rw [if_neg c]
    by_cases e : i = p
    · rw [if_pos e, if_pos e]
    · rw [if_neg e, if_neg e, if_neg c]
/-- what is told of equal rows tells of exchanged rows -/
theorem swap_of {n p q : Nat} (hp : p < n) (hq : q < n) (ne : p ≠ q) (al : ∀ (A : Mt) (u : Nat → Int), gd n (put (put A p u) q u) = 0) (A : Mt) (u v : Nat → Int) : gd n (put (put A p u) q v) = - gd n (put (put A p v) q u) := by
  have h := al A (fun j => 1 * u j + 1 * v j)
  rw [gd_lin hq, put_comm ne, put_comm ne, gd_lin hp, gd_lin hp, ← put_comm ne, ← put_comm ne, ← put_comm ne, ← put_comm ne, al A u, al A v] at h
  omega
theorem skp_skp {k l j : Nat} (h : l < k) : skp k (skp l j) = skp l (skp (k - 1) j) := by
  unfold skp
  by_cases a : j < l
  · rw [if_pos a, if_pos (by omega : j < k), if_pos (by omega : j < k - 1), if_pos a]
  · rw [if_neg a]
    by_cases b : j + 1 < k
    · rw [if_pos b, if_pos (by omega : j < k - 1), if_neg a]
    · rw [if_neg b, if_neg (by omega : ¬ j < k - 1), if_neg (by omega)]
/-- an antisymmetric double sum is 0 -/
theorem anti_zero {n : Nat} {g : Nat → Nat → Int} (h : ∀ k l, k < n → l < n → g k l = - g l k) : (sm n fun k => sm n fun l => g k l) = 0 := by
  have e : (sm n fun k => sm n fun l => g k l) = - sm n fun k => sm n fun l => g k l := by
    have e1 : (sm n fun k => sm n fun l => g k l) = sm n fun k => sm n fun l => (-1) * g l k := sm_congr fun k hk => sm_congr fun l hl => by rw [h k l hk hl]; omega
    have e2 : (sm n fun k => sm n fun l => (-1) * g l k) = (-1) * sm n fun k => sm n fun l => g l k := by
      rw [← sm_mul]
      exact sm_congr fun k _ => sm_mul
    have e3 : (sm n fun k => sm n fun l => g l k) = sm n fun k => sm n fun l => g k l := sm_swap
    rw [e1, e2, e3]
    omega
  omega
/-- the first two rows are equal -/
theorem gd_01 {m : Nat} {A : Mt} (e : ∀ j, j < m + 2 → A 0 j = A 1 j) : gd (m + 2) A = 0 := by
  let E : Nat → Nat → Int := fun k l => gd m fun i j => A (i + 2) (if l < k then skp k (skp l j) else skp k (skp (l - 1) j))
  let h : Nat → Nat → Int := fun k l => if l = k then 0 else (if l < k then sg k * sg l else - (sg k * sg l)) * (A 0 k * A 1 l * E k l)
  have Es : ∀ k l, k ≠ l → E k l = E l k := fun k l ne => by
    refine gd_congr fun i j _ _ => ?_
    rcases Nat.lt_or_gt_of_ne ne with c | c
    · rw [if_neg (by omega), if_pos c, skp_skp c]
    · rw [if_pos c, if_neg (by omega), skp_skp c]
  have an : ∀ k l, k < m + 2 → l < m + 2 → h k l = - h l k := fun k l hk hl => by
    show (if l = k then (0 : Int) else _) = - (if k = l then (0 : Int) else _)
    by_cases c : l = k
    · rw [if_pos c, if_pos c.symm]
      rfl
    · rw [if_neg c, if_neg (show ¬ k = l from fun z => c z.symm), Es k l (fun z => c z.symm), e k hk, ← e l hl]
      rcases Nat.lt_or_gt_of_ne c with q | q
      · rw [if_pos q, if_neg (by omega)]
        grind
      · rw [if_neg (by omega), if_pos q]
        grind
  rw [← anti_zero an]
  show (sm (m + 2) fun k => sg k * (A 0 k * gd (m + 1) (mn1 A k))) = _
  refine sm_congr fun k hk => ?_
  rw [sm_skp (n := m + 1) (i := k) (by omega)]
  have z : h k k = 0 := by
    show (if k = k then (0 : Int) else _) = 0
    rw [if_pos rfl]
  rw [z, Int.add_zero]
  show sg k * (A 0 k * sm (m + 1) fun l => sg l * (mn1 A k 0 l * gd m (mn1 (mn1 A k) l))) = _
  rw [← sm_mul, ← sm_mul]
  refine sm_congr fun l hl => ?_
  have hm : mn1 A k 0 l = A 1 (skp k l) := rfl
  have he : gd m (mn1 (mn1 A k) l) = E k (skp k l) := by
    refine gd_congr fun i j _ _ => ?_
    show A (i + 1 + 1) (skp k (skp l j)) = A (i + 2) (if skp k l < k then skp k (skp (skp k l) j) else skp k (skp (skp k l - 1) j))
    by_cases c : l < k
    · have : skp k l = l := by unfold skp; rw [if_pos c]
      rw [this, if_pos c]
    · have : skp k l = l + 1 := by unfold skp; rw [if_neg c]
      rw [this, if_neg (by omega), Nat.add_sub_cancel]
  rw [hm, he]
  show _ = (if skp k l = k then (0 : Int) else _)
  by_cases c : l < k
  · have : skp k l = l := by unfold skp; rw [if_pos c]
    rw [this, if_neg (by omega), if_pos c]
    grind
  · have : skp k l = l + 1 := by unfold skp; rw [if_neg c]
    rw [this, if_neg (by omega), if_neg (by omega), sg_succ]
    grind
/-- two rows are equal -/
theorem gd_eq : ∀ {n p q : Nat} {A : Mt}, p < q → q < n → (∀ j, j < n → A p j = A q j) → gd n A = 0
  | 0, _, _, _, _, h, _ => by omega
  | n + 1, p + 1, q, A, hpq, hq, e => by
    obtain ⟨q', rfl⟩ : ∃ q', q = q' + 1 := ⟨q - 1, by omega⟩
    unfold gd
    refine sm_zero fun k _ => ?_
    rw [gd_eq (n := n) (p := p) (q := q') (A := mn1 A k) (by omega) (by omega) fun j hj => e _ (skp_lt hj), Int.mul_zero, Int.mul_zero]
  | n + 1, 0, 1, A, _, hq, e => by
    obtain ⟨m, rfl⟩ : ∃ m, n = m + 1 := ⟨n - 1, by omega⟩
    exact gd_01 e
  | n + 1, 0, q + 2, A, _, hq, e => by
    -- rows 1 and q + 2 exchanged
    let B : Mt := put (put A 1 (A (q + 2))) (q + 2) (A 1)
    have hB : gd (n + 1) B = 0 := by
      obtain ⟨m, rfl⟩ : ∃ m, n = m + 1 := ⟨n - 1, by omega⟩
      refine gd_01 fun j hj => ?_
      show (if (0 : Nat) = q + 2 then A 1 else if (0 : Nat) = 1 then A (q + 2) else A 0) j = (if (1 : Nat) = q + 2 then A 1 else if (1 : Nat) = 1 then A (q + 2) else A 1) j
      rw [if_neg (by omega), if_neg (by omega), if_neg (by omega), if_pos rfl]
      exact e j hj
    have key : gd (n + 1) B = - gd (n + 1) A := by
      have : (-1) * gd (n + 1) A = gd (n + 1) B := by
        unfold gd
        rw [← sm_mul]
        refine sm_congr fun k _ => ?_
        have e0 : B 0 k = A 0 k := by
          show (if (0 : Nat) = q + 2 then A 1 else if (0 : Nat) = 1 then A (q + 2) else A 0) k = _
          rw [if_neg (by omega), if_neg (by omega)]
        have e1 : mn1 B k = put (put (mn1 A k) 0 fun j => A (q + 2) (skp k j)) (q + 1) fun j => A 1 (skp k j) := by
          show mn1 (put (put A 1 (A (q + 2))) (q + 2) (A 1)) k = _
          rw [mn1_put (p := q + 1), mn1_put (p := 0)]
        have e2 : mn1 A k = put (put (mn1 A k) 0 fun j => A 1 (skp k j)) (q + 1) fun j => A (q + 2) (skp k j) := by
          have a1 : put (mn1 A k) 0 (fun j => A 1 (skp k j)) = mn1 A k := put_self (A := mn1 A k) (p := 0)
          have a2 : put (mn1 A k) (q + 1) (fun j => A (q + 2) (skp k j)) = mn1 A k := put_self (A := mn1 A k) (p := q + 1)
          rw [a1, a2]
        have sw := swap_of (n := n) (p := 0) (q := q + 1) (by omega) (by omega) (by omega) (fun C u => gd_eq (n := n) (p := 0) (q := q + 1) (by omega) (by omega) fun j _ => by
          show (if (0 : Nat) = q + 1 then u else if (0 : Nat) = 0 then u else C 0) j = (if q + 1 = q + 1 then u else _) j
          rw [if_neg (by omega), if_pos rfl, if_pos rfl]) (mn1 A k) (fun j => A (q + 2) (skp k j)) (fun j => A 1 (skp k j))
        rw [e0, e1, sw, ← e2]
        grind
      omega
    omega
theorem gd_swap {n p q : Nat} (hpq : p < q) (hq : q < n) (A : Mt) (u v : Nat → Int) : gd n (put (put A p u) q v) = - gd n (put (put A p v) q u) :=
  swap_of (by omega) hq (by omega) (fun C u => gd_eq hpq hq fun j _ => by
    show (if p = q then u else if p = p then u else C p) j = (if q = q then u else _) j
    rw [if_neg (by omega), if_pos rfl, if_pos rfl]) A u v
end Gd

open Rk
namespace Gd
/-- a row over the others -/
def cn (r : Nat → Int) (A : Mt) : Mt := fun i => match i with | 0 => r | i + 1 => A i
/-- the vector that all rows vanish at -/
def Pm (d : Nat) (A : Mt) (k : Nat) : Int := sg k * gd d fun i j => A i (skp k j)
theorem gd_cn {d : Nat} {r : Nat → Int} {A : Mt} : gd (d + 1) (cn r A) = sm (d + 1) fun k => r k * Pm d A k := by
  show (sm (d + 1) fun k => sg k * (r k * gd d (mn1 (cn r A) k))) = _
  refine sm_congr fun k _ => ?_
  show sg k * (r k * gd d (fun i j => A i (skp k j))) = r k * (sg k * gd d fun i j => A i (skp k j))
  grind
theorem gd_split {d : Nat} {A : Mt} : gd (d + 1) A = sm (d + 1) fun k => A 0 k * Pm d (fun i => A (i + 1)) k := by
  rw [← gd_cn]
  refine gd_congr fun i j _ _ => ?_
  cases i <;> rfl
theorem pm_null {d i : Nat} {A : Mt} (hi : i < d) : (sm (d + 1) fun k => A i k * Pm d A k) = 0 := by
  rw [← gd_cn]
  exact gd_eq (p := 0) (q := i + 1) (by omega) (by omega) fun j _ => rfl
theorem skp_of {k m d : Nat} (h : m ≠ k) (hm : m < d + 1) : ∃ j, (k < d + 1 → j < d) ∧ skp k j = m := by
  rcases Nat.lt_or_gt_of_ne h with c | c
  · exact ⟨m, fun hk => by omega, by unfold skp; rw [if_pos c]⟩
  · exact ⟨m - 1, fun _ => by omega, by unfold skp; rw [if_neg (by omega)]; omega⟩
/-- a null vector without an entry, of the rows without a column -/
theorem cut_null {d k : Nat} {A : Mt} {w : Nat → Int} (hk : k < d + 1) (w0 : w k = 0) (hw : ∀ i, i < d → (sm (d + 1) fun j => A i j * w j) = 0) : ∀ i, i < d → (sm d fun j => A i (skp k j) * w (skp k j)) = 0 := fun i hi => by
  have := hw i hi
  rw [sm_skp (i := k) (by omega), w0, Int.mul_zero, Int.add_zero] at this
  exact this
/-- for each number of rows: what is null is a multiple of the minors; a square with a null vector has the determinant 0 -/
theorem pm_all : ∀ d : Nat,
    (∀ (A : Mt) (y : Nat → Int), (∃ j, j < d ∧ y j ≠ 0) → (∀ i, i < d → (sm d fun j => A i j * y j) = 0) → gd d A = 0) ∧
    (∀ (A : Mt) (z : Nat → Int), (∀ i, i < d → (sm (d + 1) fun j => A i j * z j) = 0) → ∀ i j, i < d + 1 → j < d + 1 → Pm d A i * z j = Pm d A j * z i) := fun d => by
  induction d with
  | zero =>
    refine ⟨fun A y h _ => ?_, fun A z _ i j hi hj => ?_⟩
    · obtain ⟨j, hj, _⟩ := h
      omega
    · rw [show i = j by omega]
  | succ d ih =>
    have G : ∀ (A : Mt) (y : Nat → Int), (∃ j, j < d + 1 ∧ y j ≠ 0) → (∀ i, i < d + 1 → (sm (d + 1) fun j => A i j * y j) = 0) → gd (d + 1) A = 0 := fun A y h hy => by
      obtain ⟨j, hj, yj⟩ := h
      have E := ih.2 (fun i => A (i + 1)) y fun i hi => hy (i + 1) (by omega)
      rw [gd_split]
      have : y j * (sm (d + 1) fun k => A 0 k * Pm d (fun i => A (i + 1)) k) = 0 := by
        rw [← sm_mul]
        have e : (sm (d + 1) fun k => y j * (A 0 k * Pm d (fun i => A (i + 1)) k)) = Pm d (fun i => A (i + 1)) j * sm (d + 1) fun k => A 0 k * y k := by
          rw [← sm_mul]
          refine sm_congr fun k hk => ?_
          have := E k j hk hj
          rw [Int.mul_left_comm, Int.mul_comm (y j), this]
          grind
        rw [e, hy 0 (by omega), Int.mul_zero]
      exact (Int.mul_eq_zero.mp this).resolve_left yj
    refine ⟨G, fun A z hz i j hi hj => Classical.byContradiction fun ne => ?_⟩
    have D0 : ∀ k, k < d + 1 + 1 → Pm (d + 1) A k = 0 := fun k hk => by
      obtain ⟨w, w0, wN, m, hm, wm⟩ : ∃ w : Nat → Int, w k = 0 ∧ (∀ i, i < d + 1 → (sm (d + 1 + 1) fun j => A i j * w j) = 0) ∧ ∃ m, m < d + 1 + 1 ∧ w m ≠ 0 := by
        by_cases zk : z k = 0
        · refine ⟨z, zk, hz, Classical.byContradiction fun no => ne ?_⟩
          have z0 : ∀ m, m < d + 1 + 1 → z m = 0 := fun m hm => Classical.byContradiction fun q => no ⟨m, hm, q⟩
          rw [z0 i hi, z0 j hj, Int.mul_zero, Int.mul_zero]
        · refine ⟨fun m => Pm (d + 1) A k * z m - z k * Pm (d + 1) A m, by show _ - _ = (0 : Int); rw [Int.mul_comm]; omega, fun i hi => ?_, Classical.byContradiction fun no => ne ?_⟩
          · have e : (sm (d + 1 + 1) fun j => A i j * (Pm (d + 1) A k * z j - z k * Pm (d + 1) A j)) = Pm (d + 1) A k * (sm (d + 1 + 1) fun j => A i j * z j) - z k * sm (d + 1 + 1) fun j => A i j * Pm (d + 1) A j := by
              rw [← sm_mul, ← sm_mul, ← sm_sub]
              exact sm_congr fun j _ => by grind
            rw [e, hz i hi, pm_null hi, Int.mul_zero, Int.mul_zero]
            rfl
          · have z0 : ∀ m, m < d + 1 + 1 → Pm (d + 1) A k * z m = z k * Pm (d + 1) A m := fun m hm => Classical.byContradiction fun q => no ⟨m, hm, fun h => q (by have h : _ - _ = (0 : Int) := h; omega)⟩
            have a := z0 i hi
            have b := z0 j hj
            refine Int.eq_of_mul_eq_mul_left zk ?_
            rw [← Int.mul_assoc, ← Int.mul_assoc, ← a, ← b]
            grind
      obtain ⟨j', hj', e⟩ := skp_of (k := k) (m := m) (d := d + 1) (fun h => wm (by rw [h]; exact w0)) hm
      have := G (fun i j => A i (skp k j)) (fun j => w (skp k j)) ⟨j', hj' hk, by rw [e]; exact wm⟩ (cut_null hk w0 wN)
      unfold Pm
      rw [this, Int.mul_zero]
    rw [D0 i hi, D0 j hj, Int.zero_mul, Int.zero_mul] at ne
    exact ne rfl
/-- a square with the determinant 0 has a null vector -/
theorem gd_null : ∀ (d : Nat) (A : Mt), gd d A = 0 → ∃ y : Nat → Int, (∃ j, j < d ∧ y j ≠ 0) ∧ ∀ i, i < d → (sm d fun j => A i j * y j) = 0
  | 0, _, h => absurd h (by decide : (1 : Int) ≠ 0)
  | d + 1, A, h => by
    rw [gd_split] at h
    by_cases c : ∃ k, k < d + 1 ∧ Pm d (fun i => A (i + 1)) k ≠ 0
    · refine ⟨_, c, fun i hi => ?_⟩
      cases i with
      | zero => exact h
      | succ i => exact pm_null (A := fun i => A (i + 1)) (i := i) (by omega)
    · have D0 : ∀ k, k < d + 1 → gd d (fun i j => A (i + 1) (skp k j)) = 0 := fun k hk => Classical.byContradiction fun q => c ⟨k, hk, fun e => q (by
        exact (Int.mul_eq_zero.mp e).resolve_left (by rcases sg_ne k with s | s <;> rw [s] <;> decide))⟩
      have ex : ∀ k, k < d + 1 → ∃ y : Nat → Int, y k = 0 ∧ (∃ j, j < d + 1 ∧ y j ≠ 0) ∧ ∀ i, i < d → (sm (d + 1) fun j => A (i + 1) j * y j) = 0 := fun k hk => by
        obtain ⟨y, ⟨j, hj, yj⟩, hy⟩ := gd_null d _ (D0 k hk)
        let z : Nat → Int := fun i => if i = k then 0 else if i < k then y i else y (i - 1)
        have zs : ∀ j, z (skp k j) = y j := fun j => by
          show (if skp k j = k then 0 else if skp k j < k then y (skp k j) else y (skp k j - 1)) = y j
          unfold skp
          by_cases c : j < k
          · rw [if_pos c, if_neg (by omega), if_pos c]
          · rw [if_neg c, if_neg (by omega), if_neg (by omega)]
            rfl
        have zk : z k = 0 := if_pos rfl
        refine ⟨z, zk, ⟨skp k j, skp_lt hj, by rw [zs]; exact yj⟩, fun i hi => ?_⟩
        rw [sm_skp (i := k) (by omega), zk, Int.mul_zero, Int.add_zero, ← hy i hi]
        exact sm_congr fun j _ => by rw [zs]
      obtain ⟨y, y0, ⟨m, hm, ym⟩, hy⟩ := ex 0 (by omega)
      obtain ⟨z, z0, zn, hz⟩ := ex m hm
      by_cases rz : (sm (d + 1) fun j => A 0 j * z j) = 0
      · refine ⟨z, zn, fun i hi => ?_⟩
        cases i with
        | zero => exact rz
        | succ i => exact hz i (by omega)
      · refine ⟨fun j => (sm (d + 1) fun j => A 0 j * z j) * y j - (sm (d + 1) fun j => A 0 j * y j) * z j, ⟨m, hm, ?_⟩, fun i hi => ?_⟩
        · show _ * y m - _ * z m ≠ 0
          rw [z0, Int.mul_zero, Int.sub_zero]
          exact Int.mul_ne_zero rz ym
        · have e : ∀ i, (sm (d + 1) fun j => A i j * ((sm (d + 1) fun j => A 0 j * z j) * y j - (sm (d + 1) fun j => A 0 j * y j) * z j)) = (sm (d + 1) fun j => A 0 j * z j) * (sm (d + 1) fun j => A i j * y j) - (sm (d + 1) fun j => A 0 j * y j) * sm (d + 1) fun j => A i j * z j := fun i => by
            rw [← sm_mul, ← sm_mul, ← sm_sub]
            exact sm_congr fun j _ => by grind
          rw [e]
          cases i with
          | zero => rw [Int.mul_comm]; omega
          | succ i => rw [hy i (by omega), hz i (by omega), Int.mul_zero, Int.mul_zero]; rfl
end Gd

open Rk
namespace Gd
/-! ### the determinant of a lattice -/
theorem gd_sum {n p : Nat} {A : Mt} (hp : p < n) (c : Nat → Int) (u : Nat → Nat → Int) : ∀ m, gd n (put A p fun j => sm m fun t => c t * u t j) = sm m fun t => c t * gd n (put A p (u t))
  | 0 => by
    have h := gd_lin (A := A) (u := fun _ => 0) (v := fun _ => 0) (a := 0) (b := 0) hp
    rw [Int.zero_mul, Int.zero_mul] at h
    refine Eq.trans ?_ h
    refine gd_congr fun i j hi hj => ?_
    unfold put
    split
    · show (0 : Int) = 0 * 0 + 0 * 0
      rfl
    · rfl
  | m + 1 => by
    have h := gd_lin (A := A) (u := fun j => sm m fun t => c t * u t j) (v := u m) (a := 1) (b := c m) hp
    rw [Int.one_mul, gd_sum hp c u m] at h
    show _ = (sm m fun t => c t * gd n (put A p (u t))) + c m * gd n (put A p (u m))
    refine Eq.trans (gd_congr fun i j hi hj => ?_) h
    unfold put
    split
    · show (sm m fun t => c t * u t j) + c m * u m j = 1 * (sm m fun t => c t * u t j) + c m * u m j
      rw [Int.one_mul]
    · rfl
theorem gd_col0 : ∀ (n : Nat) (A : Mt), (∀ i, i < n + 1 → A i 0 = 0) → gd (n + 1) A = 0
  | n, A, h => by
    show sm (n + 1) _ = 0
    refine sm_zero fun k hk => ?_
    cases k with
    | zero => rw [h 0 (by omega)]; simp
    | succ k =>
      cases n with
      | zero => omega
      | succ n =>
        rw [gd_col0 n (mn1 A (k + 1)) fun i hi => ?_, Int.mul_zero, Int.mul_zero]
        show A (i + 1) (skp (k + 1) 0) = 0
        rw [show skp (k + 1) 0 = 0 by unfold skp; rw [if_pos (by omega)]]
        exact h _ (by omega)
theorem gd_tri {n : Nat} {A : Mt} (h : ∀ i, i < n → A (i + 1) 0 = 0) : gd (n + 1) A = A 0 0 * gd n fun i j => A (i + 1) (j + 1) := by
  show sm (n + 1) _ = _
  rw [sm_one (k := 0) (by omega) fun k hk ne => ?_]
  · rw [show sg 0 = 1 from rfl, Int.one_mul]
    refine congrArg (A 0 0 * ·) (gd_congr fun i j _ _ => ?_)
    show A (i + 1) (skp 0 j) = _
    rw [show skp 0 j = j + 1 by unfold skp; rw [if_neg (by omega)]]
  · cases n with
    | zero => omega
    | succ n =>
      rw [gd_col0 n (mn1 A k) fun i hi => ?_, Int.mul_zero, Int.mul_zero]
      show A (i + 1) (skp k 0) = 0
      rw [show skp k 0 = 0 by unfold skp; rw [if_pos (by omega)]]
      exact h _ hi
/-- rows chosen among those of A -/
theorem gd_perm {n : Nat} {A : Mt} : ∀ (m : Nat) (s : Nat → Nat), m ≤ n → (∀ i, i < n → s i < n) → (∀ i j, i < n → j < n → s i = s j → i = j) → (∀ i, i < n - m → s i = i) → gd n (fun i => A (s i)) = gd n A ∨ gd n (fun i => A (s i)) = - gd n A
  | 0, s, _, _, _, h => .inl (gd_congr fun i j hi _ => by rw [h i (by omega)])
  | m + 1, s, hm, hs, inj, h => by
    obtain ⟨q, hq, eq⟩ : ∃ q, q < n ∧ s q = n - (m + 1) := Classical.byContradiction fun no => by
      have h1 := nodup_len ((List.range n).map s) ((List.range n).erase (n - (m + 1))) (List.pairwise_map.mpr (List.pairwise_lt_range.imp_of_mem fun {a b} ha hb lt e => absurd (inj a b (List.mem_range.mp ha) (List.mem_range.mp hb) e) (by omega))) fun x hx => by
        obtain ⟨a, ha, rfl⟩ := List.mem_map.mp hx
        have ha := List.mem_range.mp ha
        exact (List.mem_erase_of_ne (fun z => no ⟨a, ha, z⟩)).mpr (List.mem_range.mpr (hs a ha))
      rw [List.length_map, List.length_range, List.length_erase_of_mem (List.mem_range.mpr (by omega)), List.length_range] at h1
      omega
    obtain ⟨p, hp⟩ : ∃ p, n - (m + 1) = p := ⟨_, rfl⟩
    rw [hp] at h eq
    have pq : p ≤ q := by
      rcases Nat.lt_or_ge q p with z | z
      · have := h q z
        omega
      · exact z
    by_cases e : p = q
    · exact gd_perm m s (by omega) hs inj fun i hi => by
        by_cases z : i = p
        · rw [z]
          subst e
          exact eq
        · exact h i (by omega)
    · have sw := gd_swap (n := n) (p := p) (q := q) (by omega) hq (fun i => A (s i)) (A (s p)) (A (s q))
      have e1 : gd n (put (put (fun i => A (s i)) p (A (s p))) q (A (s q))) = gd n fun i => A (s i) := gd_congr fun i j _ _ => by
        unfold put
        by_cases z : i = q
        · rw [if_pos z, z]
        · rw [if_neg z]
          by_cases z2 : i = p
          · rw [if_pos z2, z2]
          · rw [if_neg z2]
      have e2 : gd n (put (put (fun i => A (s i)) p (A (s q))) q (A (s p))) = gd n fun i => A (if i = p then p else if i = q then s p else s i) := gd_congr fun i j _ _ => by
        unfold put
        by_cases z : i = q
        · rw [if_pos z, if_neg (by omega), if_pos z]
        · rw [if_neg z]
          by_cases z2 : i = p
          · rw [if_pos z2, if_pos z2, eq]
          · rw [if_neg z2, if_neg z2, if_neg z]
      rw [e1, e2] at sw
      have sp : s p ≠ p := fun z => e (inj p q (by omega) hq (by rw [z, eq]))
      have ih := gd_perm (A := A) m (fun i => if i = p then p else if i = q then s p else s i) (Nat.le_of_succ_le hm) (fun i hi => by
        show (if i = p then p else if i = q then s p else s i) < n
        split
        · omega
        · split
          · exact hs p (by omega)
          · exact hs i hi) (fun i j hi hj z => by
        have hpn : p < n := by omega
        have z : (if i = p then p else if i = q then s p else s i) = if j = p then p else if j = q then s p else s j := z
        by_cases ip : i = p <;> by_cases jp : j = p
        · omega
        · rw [if_pos ip, if_neg jp] at z
          by_cases jq : j = q
          · rw [if_pos jq] at z
            exact absurd z.symm sp
          · rw [if_neg jq, ← eq] at z
            exact absurd (inj q j hq hj z).symm jq
        · rw [if_neg ip, if_pos jp] at z
          by_cases iq : i = q
          · rw [if_pos iq] at z
            exact absurd z sp
          · rw [if_neg iq, ← eq] at z
            exact absurd (inj i q hi hq z) iq
        · rw [if_neg ip, if_neg jp] at z
          by_cases iq : i = q <;> by_cases jq : j = q
          · omega
          · rw [if_pos iq, if_neg jq] at z
            exact absurd (inj p j hpn hj z).symm jp
          · rw [if_neg iq, if_pos jq] at z
            exact absurd (inj i p hi hpn z) ip
          · rw [if_neg iq, if_neg jq] at z
            exact inj i j hi hj z) (fun i hi => by
        show (if i = p then p else if i = q then s p else s i) = i
        by_cases z : i = p
        · rw [if_pos z, z]
        · rw [if_neg z, if_neg (by omega)]
          exact h i (by omega))
      omega
theorem dvd_sm {t : Int} {f : Nat → Int} : ∀ {n : Nat}, (∀ j, j < n → t ∣ f j) → t ∣ sm n f
  | 0, _ => ⟨0, by rw [Int.mul_zero]; rfl⟩
  | n + 1, h => Int.dvd_add (dvd_sm fun j hj => h j (by omega)) (h n (by omega))
/-- rows in the span of others: a multiple -/
theorem gd_span {n : Nat} {A A' : Mt} (h : ∀ i, i < n → ∃ c : Nat → Int, ∀ j, j < n → A' i j = sm n fun t => c t * A t j) : ∀ (m : Nat) (s : Nat → Nat), m ≤ n → (∀ i, i < n → s i < n) → gd n A ∣ gd n fun i => if i < n - m then A (s i) else A' i
  | 0, s, _, hs => by
    have e0 : gd n (fun i => if i < n - 0 then A (s i) else A' i) = gd n fun i => A (s i) := gd_congr fun i j hi _ => by
      show (if i < n - 0 then A (s i) else A' i) j = A (s i) j
      rw [if_pos (by omega)]
    rw [e0]
    by_cases inj : ∀ i j, i < n → j < n → s i = s j → i = j
    · rcases gd_perm (A := A) n s (Nat.le_refl n) hs inj (fun i hi => by omega) with e | e
      · rw [e]; exact Int.dvd_refl _
      · rw [e]; exact Int.dvd_neg.mpr (Int.dvd_refl _)
    · have : ∃ i j, i < j ∧ j < n ∧ s i = s j := Classical.byContradiction fun no => inj fun i j hi hj e => by
        rcases Nat.lt_trichotomy i j with z | z | z
        · exact absurd ⟨i, j, z, hj, e⟩ no
        · exact z
        · exact absurd ⟨j, i, z, hi, e.symm⟩ no
      obtain ⟨i, j, h1, h2, e⟩ := this
      rw [gd_eq (A := fun i => A (s i)) h1 h2 fun k _ => by show A (s i) k = A (s j) k; rw [e]]
      exact Int.dvd_zero _
  | m + 1, s, hm, hs => by
    have hp : n - (m + 1) < n := by omega
    obtain ⟨p, hpe⟩ : ∃ p, n - (m + 1) = p := ⟨_, rfl⟩
    rw [hpe] at hp ⊢
    obtain ⟨c, hc⟩ := h p hp
    have e : gd n (fun i => if i < p then A (s i) else A' i) = gd n (put (fun i => if i < p then A (s i) else A' i) p fun j => sm n fun t => c t * A t j) := gd_congr fun i j hi hj => by
      unfold put
      by_cases z : i = p
      · rw [if_pos z]
        show (if i < p then A (s i) else A' i) j = _
        rw [if_neg (by omega), z]
        exact hc j hj
      · rw [if_neg z]
    rw [e, gd_sum hp]
    refine dvd_sm fun t ht => ?_
    have ih := gd_span h m (fun i => if i = p then t else s i) (by omega) fun i hi => by
      show (if i = p then t else s i) < n
      split
      · exact ht
      · exact hs i hi
    have e2 : gd n (put (fun i => if i < p then A (s i) else A' i) p (A t)) = gd n fun i => if i < n - m then A (if i = p then t else s i) else A' i := gd_congr fun i j hi hj => by
      unfold put
      by_cases z : i = p
      · rw [if_pos z]
        show _ = (if i < n - m then A (if i = p then t else s i) else A' i) j
        rw [if_pos (by omega), if_pos z]
      · rw [if_neg z]
        show (if i < p then A (s i) else A' i) j = (if i < n - m then A (if i = p then t else s i) else A' i) j
        by_cases z2 : i < p
        · rw [if_pos z2, if_pos (by omega), if_neg z]
        · rw [if_neg z2, if_neg (by omega)]
    rw [e2]
    exact Int.dvd_mul_of_dvd_right ih
theorem gd_dvd {n : Nat} {A A' : Mt} (h : ∀ i, i < n → ∃ c : Nat → Int, ∀ j, j < n → A' i j = sm n fun t => c t * A t j) : gd n A ∣ gd n A' := by
  have := gd_span h n id (Nat.le_refl n) fun i hi => hi
  have e0 : gd n (fun i => if i < n - n then A (id i) else A' i) = gd n A' := gd_congr fun i j hi _ => by
    show (if i < n - n then A (id i) else A' i) j = A' i j
    rw [if_neg (by omega)]
  rw [e0] at this
  exact this
end Gd

open Rk
namespace Gd
/-! ### a table of the simplex method in whole numbers: what an exchange does -/
/-- the table of the columns C over the basis B: T k j is the determinant with C j in place of row k, and D the determinant itself -/
structure Tb (n : Nat) (B : Mt) (C : Nat → Nat → Int) (T : Nat → Nat → Int) (D : Int) : Prop where
  d : D = gd n B
  p : 0 < D
  t : ∀ k j, k < n → T k j = gd n (put B k (C j))
  c : ∀ j i, i < n → D * C j i = sm n fun k => T k j * B k i
theorem Tb.key {n : Nat} {B : Mt} {C : Nat → Nat → Int} {T : Nat → Nat → Int} {D : Int} (h : Tb n B C T D) {r c k : Nat} (hr : r < n) (hk : k < n) (ne : k ≠ r) (j : Nat) :
    D * gd n (put (put B r (C c)) k (C j)) = T r c * T k j - T k c * T r j := by
  have e1 : D * gd n (put (put B r (C c)) k (C j)) = gd n (put (put B r (C c)) k fun i => sm n fun l => T l j * B l i) := by
    have := gd_lin (A := put B r (C c)) (u := C j) (v := fun _ => 0) (a := D) (b := 0) hk
    simp only [Int.zero_mul, Int.mul_zero, Int.add_zero] at this
    rw [← this]
    refine gd_congr fun i m hi hm => ?_
    unfold put
    by_cases q : i = k
    · rw [if_pos q, if_pos q, ← h.c j m hm]
    · rw [if_neg q, if_neg q]
  rw [e1, gd_sum hk, sm_two (a := k) (b := r) hk hr ne fun l hl l1 l2 => ?_]
  · have e2 : put (put B r (C c)) k (B k) = put B r (C c) := by
      rw [put_comm fun z => ne z.symm, put_self]
    have e3 : gd n (put (put B r (C c)) k (B r)) = - T k c := by
      rw [h.t k c hk]
      rcases Nat.lt_or_gt_of_ne ne with q | q
      · rw [put_comm fun z => ne z.symm, gd_swap q hr, put_comm ne, put_self]
      · rw [gd_swap q hk, put_self]
    rw [e2, e3, ← h.t r c hr, Int.mul_comm (T k j), Int.mul_neg, Int.mul_comm (T r j)]
    rfl
  · have z : gd n (put (put B r (C c)) k (B l)) = 0 := by
      rcases Nat.lt_or_gt_of_ne l1 with q | q
      · refine gd_eq q hk fun i _ => ?_
        unfold put
        rw [if_neg l1, if_neg l2, if_pos rfl]
      · refine gd_eq q hl fun i _ => ?_
        unfold put
        rw [if_neg l1, if_neg l2, if_pos rfl]
    rw [z, Int.mul_zero]
/-- the table after an exchange -/
def exch (T : Nat → Nat → Int) (D : Int) (r c : Nat) : Nat → Nat → Int := fun k j => if k = r then T r j else (T r c * T k j - T k c * T r j) / D
theorem Tb.exch_mul {n : Nat} {B : Mt} {C : Nat → Nat → Int} {T : Nat → Nat → Int} {D : Int} (h : Tb n B C T D) {r c k : Nat} (hr : r < n) (hk : k < n) (ne : k ≠ r) (j : Nat) : D * exch T D r c k j = T r c * T k j - T k c * T r j := by
  unfold exch
  rw [if_neg ne, ← h.key hr hk ne j, Int.mul_ediv_cancel_left _ (by have := h.p; omega)]
theorem Tb.exact {n : Nat} {B : Mt} {C : Nat → Nat → Int} {T : Nat → Nat → Int} {D : Int} (h : Tb n B C T D) {r c k : Nat} (hr : r < n) (hk : k < n) (ne : k ≠ r) (j : Nat) : D ∣ T r c * T k j - T k c * T r j := ⟨_, (h.key hr hk ne j).symm⟩
theorem Tb.exchange {n : Nat} {B : Mt} {C : Nat → Nat → Int} {T : Nat → Nat → Int} {D : Int} (h : Tb n B C T D) {r c : Nat} (hr : r < n) (hp : 0 < T r c) : Tb n (put B r (C c)) C (exch T D r c) (T r c) := by
  refine ⟨h.t r c hr, hp, fun k j hk => ?_, fun j i hi => ?_⟩
  · by_cases e : k = r
    · subst e
      unfold exch
      rw [if_pos rfl, put_put, h.t k j hk]
    · have := (h.exch_mul (c := c) hr hk e j).trans (h.key hr hk e j).symm
      exact Int.eq_of_mul_eq_mul_left (by have := h.p; omega) this
  · refine Int.eq_of_mul_eq_mul_left (a := D) (by have := h.p; omega) ?_
    have e1 : D * (T r c * C j i) = T r c * sm n fun k => T k j * B k i := by
      rw [← h.c j i hi, Int.mul_left_comm]
    have e2 : D * (sm n fun k => exch T D r c k j * put B r (C c) k i) = sm n fun k => T r c * (T k j * B k i) + (- T r j) * (T k c * B k i) + (if k = r then T r j * (D * C c i) else 0) := by
      rw [← sm_mul]
      refine sm_congr fun k hk => ?_
      by_cases e : k = r
      · subst e
        unfold exch put
        rw [if_pos rfl, if_pos rfl, if_pos rfl]
        have a1 : D * (T k j * C c i) = T k j * (D * C c i) := Int.mul_left_comm _ _ _
        have a2 : T k c * (T k j * B k i) = T k j * (T k c * B k i) := Int.mul_left_comm _ _ _
        rw [a1, a2, Int.neg_mul]
        omega
      · have hx := h.exch_mul (c := c) hr hk e j
        rw [if_neg e, Int.add_zero, ← Int.mul_assoc, hx]
        unfold put
        rw [if_neg e, Int.sub_mul, Int.mul_assoc, Int.neg_mul, ← Int.mul_assoc (T r j), Int.mul_comm (T k c) (T r j)]
        omega
    have e3 : (sm n fun k => if k = r then T r j * (D * C c i) else 0) = T r j * (D * C c i) := by
      rw [sm_one (k := r) hr fun k _ kn => if_neg kn, if_pos rfl]
    rw [e1, e2, sm_add, sm_add, sm_mul, sm_mul, e3, ← h.c c i hi, Int.neg_mul]
    omega
end Gd

open Rk
namespace Gd
/-! ### Bland's rule: two tables of one system -/
/-- a table with m rows and its row of costs: the basis is the columns bs, and the last unit vector below -/
structure Tc (m : Nat) (C : Nat → Nat → Int) (bs : Nat → Nat) (T : Nat → Nat → Int) (D : Int) : Prop where
  b : ∃ B : Mt, Tb (m + 1) B C T D ∧ (∀ k, k < m → B k = C (bs k)) ∧ B m = fun i => if i = m then 1 else 0
/-- the costs of one table by another's column -/
theorem Tc.cross {m : Nat} {C : Nat → Nat → Int} {b1 b2 : Nat → Nat} {T1 T2 : Nat → Nat → Int} {D1 D2 : Int} (h1 : Tc m C b1 T1 D1) (h2 : Tc m C b2 T2 D2) (s : Nat) :
    D1 * T2 m s = (sm m fun k => T1 k s * T2 m (b1 k)) + T1 m s * D2 := by
  obtain ⟨B1, t1, e1, l1⟩ := h1.b
  obtain ⟨B2, t2, e2, l2⟩ := h2.b
  have hm : m < m + 1 := Nat.lt_succ_self m
  have e : D1 * gd (m + 1) (put B2 m (C s)) = gd (m + 1) (put B2 m fun i => sm (m + 1) fun k => T1 k s * B1 k i) := by
    have := gd_lin (A := B2) (u := C s) (v := fun _ => 0) (a := D1) (b := 0) hm
    simp only [Int.zero_mul, Int.mul_zero, Int.add_zero] at this
    rw [← this]
    refine gd_congr fun i j hi hj => ?_
    unfold put
    by_cases q : i = m
    · rw [if_pos q, if_pos q, ← t1.c s j hj]
    · rw [if_neg q, if_neg q]
  rw [t2.t m s hm, e, gd_sum hm]
  show (sm m fun k => T1 k s * gd (m + 1) (put B2 m (B1 k))) + T1 m s * gd (m + 1) (put B2 m (B1 m)) = _
  rw [l1, ← l2, put_self, ← t2.d]
  congr 1
  refine sm_congr fun k hk => ?_
  rw [e1 k hk, t2.t m _ hm]
/-- a basis column has a unit column -/
theorem Tc.unit {m : Nat} {C : Nat → Nat → Int} {bs : Nat → Nat} {T : Nat → Nat → Int} {D : Int} (h : Tc m C bs T D) {k l : Nat} (hk : k < m) (hl : l < m + 1) : T l (bs k) = if l = k then D else 0 := by
  obtain ⟨B, t, e, lb⟩ := h.b
  rw [t.t l _ hl, ← e k hk]
  by_cases c : l = k
  · subst c
    rw [if_pos rfl, put_self, t.d]
  · rw [if_neg c]
    rcases Nat.lt_or_gt_of_ne c with q | q
    · refine gd_eq q (by omega) fun i _ => ?_
      unfold put
      rw [if_pos rfl, if_neg fun z => c z.symm]
    · refine gd_eq q hl fun i _ => ?_
      unfold put
      rw [if_pos rfl, if_neg fun z => c z.symm]
theorem Tc.exchange {m : Nat} {C : Nat → Nat → Int} {bs : Nat → Nat} {T : Nat → Nat → Int} {D : Int} (h : Tc m C bs T D) {r c : Nat} (hr : r < m) (hp : 0 < T r c) : Tc m C (fun k => if k = r then c else bs k) (exch T D r c) (T r c) := by
  obtain ⟨B, t, e, lb⟩ := h.b
  refine ⟨put B r (C c), t.exchange (by omega) hp, fun k hk => ?_, ?_⟩
  · unfold put
    by_cases q : k = r
    · rw [if_pos q, if_pos q]
    · rw [if_neg q, if_neg q, e k hk]
  · unfold put
    rw [if_neg (by omega), lb]
/-- the clash of Bland's proof: s enters the first table where t leaves it, and t enters the second -/
theorem bland_clash {m : Nat} {C : Nat → Nat → Int} {b1 b2 : Nat → Nat} {T1 T2 : Nat → Nat → Int} {D1 D2 : Int} (h1 : Tc m C b1 T1 D1) (h2 : Tc m C b2 T2 D2) {s : Nat} (neg : T1 m s < 0) (pos : 0 ≤ T2 m s) : ∃ k, k < m ∧ 0 < T1 k s * T2 m (b1 k) := by
  refine Classical.byContradiction fun no => ?_
  have x := h1.cross h2 s
  obtain ⟨B1, t1, _⟩ := h1.b
  obtain ⟨B2, t2, _⟩ := h2.b
  have a1 : 0 ≤ D1 * T2 m s := Int.mul_nonneg (Int.le_of_lt t1.p) pos
  have a2 : T1 m s * D2 < 0 := Int.mul_neg_of_neg_of_pos neg t2.p
  have a3 : ∀ n, n ≤ m → (sm n fun k => T1 k s * T2 m (b1 k)) ≤ 0 := fun n => by
    induction n with
    | zero => exact fun _ => Int.le_refl _
    | succ n ih =>
      intro hn
      have h4 : ¬ 0 < T1 n s * T2 m (b1 n) := fun z => no ⟨n, by omega, z⟩
      show (sm n fun k => T1 k s * T2 m (b1 k)) + T1 n s * T2 m (b1 n) ≤ 0
      have := ih (by omega)
      omega
  have := a3 m (Nat.le_refl m)
  omega
end Gd

open Rk
namespace Gd
/-! ### Bland's rule: no basis comes twice -/
/-- an exchange by Bland's rule: column c enters (columns from z to N), row r leaves -/
structure Bl (m z N : Nat) (bs : Nat → Nat) (T : Nat → Nat → Int) (r c : Nat) : Prop where
  c1 : z ≤ c
  c2 : c < N
  cn : T m c < 0
  cl : ∀ j, z ≤ j → j < c → 0 ≤ T m j
  rm : r < m
  rp : 0 < T r c
  rl : ∀ k, k < m → 0 < T k c → T r N * T k c ≤ T k N * T r c
  rt : ∀ k, k < m → 0 < T k c → T r N * T k c = T k N * T r c → bs r ≤ bs k
/-- a run of such exchanges from p to q -/
structure Run (m z N : Nat) (C : Nat → Nat → Int) (bs : Nat → Nat → Nat) (T : Nat → Nat → Nat → Int) (D : Nat → Int) (r c : Nat → Nat) (p q : Nat) : Prop where
  tc : ∀ i, p ≤ i → i ≤ q → Tc m C (bs i) (T i) (D i)
  nn : ∀ i, p ≤ i → i ≤ q → ∀ k, k < m → 0 ≤ T i k N
  st : ∀ i, p ≤ i → i < q → Bl m z N (bs i) (T i) (r i) (c i)
  nb : ∀ i, p ≤ i → i < q → bs (i + 1) = fun k => if k = r i then c i else bs i k
  nt : ∀ i, p ≤ i → i < q → T (i + 1) = exch (T i) (D i) (r i) (c i)
  nd : ∀ i, p ≤ i → i < q → D (i + 1) = T i (r i) (c i)
theorem Tc.pos {m : Nat} {C : Nat → Nat → Int} {bs : Nat → Nat} {T : Nat → Nat → Int} {D : Int} (h : Tc m C bs T D) : 0 < D := by
  obtain ⟨_, t, _⟩ := h.b
  exact t.p
theorem Tc.mul {m : Nat} {C : Nat → Nat → Int} {bs : Nat → Nat} {T : Nat → Nat → Int} {D : Int} (h : Tc m C bs T D) {r c k : Nat} (hr : r < m) (hk : k < m + 1) (ne : k ≠ r) (j : Nat) : D * exch T D r c k j = T r c * T k j - T k c * T r j := by
  obtain ⟨_, t, _⟩ := h.b
  exact t.exch_mul (by omega) hk ne j
theorem fr_tr {a b c d e f : Int} (hb : 0 < b) (hd : 0 < d) (hf : 0 < f) (h1 : a * d ≤ c * b) (h2 : c * f ≤ e * d) : a * f ≤ e * b := by
  have h3 : a * d * f ≤ c * b * f := Int.mul_le_mul_of_nonneg_right h1 (Int.le_of_lt hf)
  have h4 : c * f * b ≤ e * d * b := Int.mul_le_mul_of_nonneg_right h2 (Int.le_of_lt hb)
  have e1 : c * b * f = c * f * b := by rw [Int.mul_assoc, Int.mul_comm b f, ← Int.mul_assoc]
  have e2 : a * d * f = d * (a * f) := by rw [Int.mul_comm a d, Int.mul_assoc]
  have e3 : e * d * b = d * (e * b) := by rw [Int.mul_comm e d, Int.mul_assoc]
  exact Int.le_of_mul_le_mul_left (by omega) hd
section
variable {m z N : Nat} {C : Nat → Nat → Int} {bs : Nat → Nat → Nat} {T : Nat → Nat → Nat → Int} {D : Nat → Int} {r c : Nat → Nat} {p q : Nat}
def Bas (m : Nat) (bs : Nat → Nat) (j : Nat) : Prop := ∃ k, k < m ∧ bs k = j
/-- what is basic costs nothing -/
theorem Run.cost0 (R : Run m z N C bs T D r c p q) {i j : Nat} (h1 : p ≤ i) (h2 : i ≤ q) (h : Bas m (bs i) j) : T i m j = 0 := by
  obtain ⟨k, hk, rfl⟩ := h
  rw [(R.tc i h1 h2).unit hk (Nat.lt_succ_self m), if_neg (by omega)]
theorem Run.enters (R : Run m z N C bs T D r c p q) {i : Nat} (h1 : p ≤ i) (h2 : i < q) : ¬ Bas m (bs i) (c i) := fun h => by
  have := R.cost0 h1 (Nat.le_of_lt h2) h
  have := (R.st i h1 h2).cn
  omega
theorem Run.entered (R : Run m z N C bs T D r c p q) {i : Nat} (h1 : p ≤ i) (h2 : i < q) : Bas m (bs (i + 1)) (c i) :=
  ⟨r i, (R.st i h1 h2).rm, by rw [R.nb i h1 h2]; exact if_pos rfl⟩
/-- what does not leave stays -/
theorem Run.stays (R : Run m z N C bs T D r c p q) {j : Nat} (no : ∀ i, p ≤ i → i < q → bs i (r i) ≠ j) {a : Nat} (ha : p ≤ a) (h : Bas m (bs a) j) : ∀ b, a ≤ b → b ≤ q → Bas m (bs b) j := by
  intro b
  induction b with
  | zero =>
    intro h1 _
    have : a = 0 := by omega
    exact this ▸ h
  | succ b ih =>
    intro h1 h2
    by_cases e : a = b + 1
    · exact e ▸ h
    · obtain ⟨k, hk, e2⟩ := ih (by omega) (by omega)
      refine ⟨k, hk, ?_⟩
      rw [R.nb b (by omega) (by omega)]
      by_cases e3 : k = r b
      · subst e3
        exact absurd e2 (no b (by omega) (by omega))
      · exact (if_neg e3).trans e2
/-- what does not enter stays away -/
theorem Run.away (R : Run m z N C bs T D r c p q) {j : Nat} (no : ∀ i, p ≤ i → i < q → c i ≠ j) {a : Nat} (ha : p ≤ a) (h : ¬ Bas m (bs a) j) : ∀ b, a ≤ b → b ≤ q → ¬ Bas m (bs b) j := by
  intro b
  induction b with
  | zero =>
    intro h1 _
    have : a = 0 := by omega
    exact this ▸ h
  | succ b ih =>
    intro h1 h2
    by_cases e : a = b + 1
    · exact e ▸ h
    · rintro ⟨k, hk, e2⟩
      rw [R.nb b (by omega) (by omega)] at e2
      by_cases e3 : k = r b
      · exact no b (by omega) (by omega) ((if_pos e3).symm.trans e2)
      · exact ih (by omega) (by omega) ⟨k, hk, (if_neg e3).symm.trans e2⟩
/-- the value grows -/
theorem Run.step (R : Run m z N C bs T D r c p q) {i : Nat} (h1 : p ≤ i) (h2 : i < q) : D i * T (i + 1) m N = T i m N * D (i + 1) + (- T i m (c i)) * T i (r i) N := by
  have S := R.st i h1 h2
  rw [R.nt i h1 h2, (R.tc i h1 (Nat.le_of_lt h2)).mul S.rm (Nat.lt_succ_self m) (by have := S.rm; omega) N, R.nd i h1 h2, Int.neg_mul, Int.mul_comm (T i m N)]
  rfl
theorem Run.mono (R : Run m z N C bs T D r c p q) {a : Nat} (ha : p ≤ a) : ∀ b, a ≤ b → b ≤ q → T a m N * D b ≤ T b m N * D a := by
  intro b
  induction b with
  | zero =>
    intro h1 _
    have : a = 0 := by omega
    subst this
    exact Int.le_refl _
  | succ b ih =>
    intro h1 h2
    by_cases e : a = b + 1
    · subst e
      exact Int.le_refl _
    · have hb : p ≤ b := by omega
      have x := ih (by omega) (by omega)
      have y := R.step hb (by omega)
      have S := R.st b hb (by omega)
      have n := Int.mul_nonneg (show 0 ≤ - T b m (c b) by have := S.cn; omega) (R.nn b hb (by omega) (r b) S.rm)
      refine fr_tr (R.tc a ha (by omega)).pos (R.tc b hb (by omega)).pos (R.tc (b + 1) (by omega) h2).pos x ?_
      rw [Int.mul_comm (T (b + 1) m N)]
      omega
/-- where the basis comes again, each exchange is of value 0 -/
theorem Run.flat (R : Run m z N C bs T D r c p q) (pq : p < q) (same : ∀ j, Bas m (bs p) j ↔ Bas m (bs q) j) {i : Nat} (h1 : p ≤ i) (h2 : i < q) : T i (r i) N = 0 := by
  have S := R.st i h1 h2
  have hp := R.tc p (Nat.le_refl p) (Nat.le_of_lt pq)
  have hq := R.tc q (Nat.le_of_lt pq) (Nat.le_refl q)
  have e : D p * T q m N = T p m N * D q := by
    rw [hp.cross hq N, sm_zero fun k hk => ?_, Int.zero_add]
    rw [R.cost0 (Nat.le_of_lt pq) (Nat.le_refl q) ((same _).mp ⟨k, hk, rfl⟩), Int.mul_zero]
  have m1 := R.mono (Nat.le_refl p) i h1 (Nat.le_of_lt h2)
  have m2 := R.mono (a := i + 1) (by omega) q (by omega) (Nat.le_refl q)
  have d0 := hp.pos
  have d1 := (R.tc i h1 (Nat.le_of_lt h2)).pos
  have d2 := (R.tc (i + 1) (by omega) (by omega)).pos
  have d3 := hq.pos
  -- T (i+1) / D (i+1) ≤ T q / D q = T p / D p ≤ T i / D i
  have m3 : T (i + 1) m N * D p ≤ T p m N * D (i + 1) := fr_tr (c := T q m N) (d := D q) d2 d3 d0 m2 (by rw [Int.mul_comm (T q m N)]; omega)
  have m4 : T (i + 1) m N * D i ≤ T i m N * D (i + 1) := fr_tr (c := T p m N) (d := D p) d2 d0 d1 m3 m1
  have y := R.step h1 h2
  have n := Int.mul_nonneg (show 0 ≤ - T i m (c i) by have := S.cn; omega) (R.nn i h1 (by omega) (r i) S.rm)
  rw [Int.mul_comm (T (i + 1) m N)] at m4
  have z0 : (- T i m (c i)) * T i (r i) N = 0 := by omega
  rcases Int.mul_eq_zero.mp z0 with h | h
  · have := S.cn
    omega
  · exact h
/-- what is 0 stays 0 -/
def Zr (m N : Nat) (bs : Nat → Nat) (T : Nat → Nat → Int) (j : Nat) : Prop := ∀ k, k < m → bs k = j → T k N = 0
theorem Run.zero1 (R : Run m z N C bs T D r c p q) (fl : ∀ i, p ≤ i → i < q → T i (r i) N = 0) {i : Nat} (h1 : p ≤ i) (h2 : i < q) (j : Nat) : Zr m N (bs i) (T i) j ↔ Zr m N (bs (i + 1)) (T (i + 1)) j := by
  have S := R.st i h1 h2
  have tc := R.tc i h1 (Nat.le_of_lt h2)
  have d1 := tc.pos
  have f0 := fl i h1 h2
  have val : ∀ k, k < m → k ≠ r i → (T (i + 1) k N = 0 ↔ T i k N = 0) := fun k hk ne => by
    have x := tc.mul (c := c i) S.rm (by omega : k < m + 1) ne N
    rw [f0, Int.mul_zero, Int.sub_zero, ← R.nt i h1 h2] at x
    constructor
    · intro h
      rw [h, Int.mul_zero] at x
      rcases Int.mul_eq_zero.mp x.symm with h | h
      · have := S.rp
        omega
      · exact h
    · intro h
      rw [h, Int.mul_zero] at x
      rcases Int.mul_eq_zero.mp x with h | h
      · omega
      · exact h
  constructor
  · intro h k hk e
    rw [R.nb i h1 h2] at e
    by_cases ne : k = r i
    · subst ne
      rw [R.nt i h1 h2]
      exact (if_pos rfl).trans f0
    · exact (val k hk ne).mpr (h k hk ((if_neg ne).symm.trans e))
  · intro h k hk e
    by_cases ne : k = r i
    · subst ne
      exact f0
    · exact (val k hk ne).mp (h k hk (by rw [R.nb i h1 h2]; exact (if_neg ne).trans e))
theorem Run.zero (R : Run m z N C bs T D r c p q) (fl : ∀ i, p ≤ i → i < q → T i (r i) N = 0) (j : Nat) : ∀ b, p ≤ b → b ≤ q → (Zr m N (bs p) (T p) j ↔ Zr m N (bs b) (T b) j) := by
  intro b
  induction b with
  | zero =>
    intro h1 _
    have : p = 0 := by omega
    subst this
    exact Iff.rfl
  | succ b ih =>
    intro h1 h2
    by_cases e : p = b + 1
    · subst e
      exact Iff.rfl
    · exact (ih (by omega) (by omega)).trans (R.zero1 fl (by omega) (by omega) j)
/-- the greatest that enters -/
theorem max_in (c : Nat → Nat) (p : Nat) : ∀ n, ∃ b, p ≤ b ∧ b < p + n + 1 ∧ ∀ i, p ≤ i → i < p + n + 1 → c i ≤ c b
  | 0 => ⟨p, Nat.le_refl p, by omega, fun i h1 h2 => by
    have : i = p := by omega
    subst this
    exact Nat.le_refl _⟩
  | n + 1 => by
    obtain ⟨b, h1, h2, h3⟩ := max_in c p n
    by_cases e : c b ≤ c (p + n + 1)
    · refine ⟨p + n + 1, by omega, by omega, fun i g1 g2 => ?_⟩
      by_cases e2 : i = p + n + 1
      · subst e2
        exact Nat.le_refl _
      · exact Nat.le_trans (h3 i g1 (by omega)) e
    · refine ⟨b, h1, by omega, fun i g1 g2 => ?_⟩
      by_cases e2 : i = p + n + 1
      · subst e2
        omega
      · exact h3 i g1 (by omega)
/-- no basis comes twice -/
theorem Run.once (R : Run m z N C bs T D r c p q) (pq : p < q) (same : ∀ j, Bas m (bs p) j ↔ Bas m (bs q) j) : False := by
  have fl := fun i h1 h2 => R.flat pq same (i := i) h1 h2
  obtain ⟨b, b1, b2, bmax⟩ := max_in c p (q - p - 1)
  have b2 : b < q := by omega
  have bmax : ∀ i, p ≤ i → i < q → c i ≤ c b := fun i h1 h2 => bmax i h1 (by omega)
  have Sb := R.st b b1 b2
  -- c b leaves somewhere
  obtain ⟨a, a1, a2, ea⟩ : ∃ a, p ≤ a ∧ a < q ∧ bs a (r a) = c b := by
    refine Classical.byContradiction fun no => ?_
    have no' : ∀ i, p ≤ i → i < q → bs i (r i) ≠ c b := fun i h1 h2 e => no ⟨i, h1, h2, e⟩
    have h1 := R.stays no' (a := b + 1) (by omega) (R.entered b1 b2) q (by omega) (Nat.le_refl q)
    exact R.enters b1 b2 (R.stays no' (Nat.le_refl p) ((same _).mpr h1) b b1 (by omega))
  have Sa := R.st a a1 a2
  have sb : c a ≤ c b := bmax a a1 a2
  have sne : c a ≠ c b := fun e => R.enters a1 a2 ⟨r a, Sa.rm, by rw [ea, e]⟩
  obtain ⟨k, hk, pk⟩ := bland_clash (R.tc a a1 (by omega)) (R.tc b b1 (by omega)) Sa.cn (Sb.cl (c a) Sa.c1 (by omega))
  -- the column of row k enters somewhere
  obtain ⟨e, e1, e2, ee⟩ : ∃ e, p ≤ e ∧ e < q ∧ c e = bs a k := by
    refine Classical.byContradiction fun no => ?_
    have no' : ∀ i, p ≤ i → i < q → c i ≠ bs a k := fun i h1 h2 e => no ⟨i, h1, h2, e⟩
    have nb : ¬ Bas m (bs b) (bs a k) := fun h => by
      rw [R.cost0 b1 (by omega) h, Int.mul_zero] at pk
      omega
    by_cases ab : b ≤ a
    · exact R.away no' b1 nb a ab (by omega) ⟨k, hk, rfl⟩
    · have h1 := R.away no' b1 nb q (by omega) (Nat.le_refl q)
      exact R.away no' (Nat.le_refl p) (fun h => h1 ((same _).mp h)) a a1 (by omega) ⟨k, hk, rfl⟩
  have ule : bs a k ≤ c b := ee ▸ bmax e e1 e2
  have uz : z ≤ bs a k := ee ▸ (R.st e e1 e2).c1
  by_cases ut : bs a k = c b
  · -- the leaving row itself
    have kr : k = r a := Classical.byContradiction fun ne => by
      have h1 := (R.tc a a1 (by omega)).unit hk (l := r a) (by have := Sa.rm; omega)
      have h2 := (R.tc a a1 (by omega)).unit Sa.rm (l := r a) (by have := Sa.rm; omega)
      rw [if_neg fun z => ne z.symm, ut] at h1
      rw [if_pos rfl, ea, h1] at h2
      have := (R.tc a a1 (by omega)).pos
      omega
    rw [kr, ea] at pk
    have h1 := Int.mul_neg_of_pos_of_neg Sa.rp Sb.cn
    omega
  · have c0 := Sb.cl (bs a k) uz (by omega)
    have tk : 0 < T a k (c a) := Classical.byContradiction fun ne => by
      have := Int.mul_nonpos_of_nonpos_of_nonneg (show T a k (c a) ≤ 0 by omega) c0
      omega
    have ze : Zr m N (bs e) (T e) (c e) := fun k' hk' h => absurd ⟨k', hk', h⟩ (R.enters e1 e2)
    have za := (R.zero fl (c e) a a1 (by omega)).mp ((R.zero fl (c e) e e1 (by omega)).mpr ze)
    have vk := za k hk ee.symm
    have := Sa.rt k hk tk (by rw [fl a a1 a2, vk, Int.zero_mul, Int.zero_mul])
    rw [ea] at this
    omega
end
end Gd

open Rk
namespace Gd
/-! ### Bland's rule: how long a run is -/
def mk2 (P : Nat → Prop) [DecidablePred P] : Nat → Nat
  | 0 => 0
  | n + 1 => mk2 P n + if P n then 2 ^ n else 0
theorem mk2_lt (P : Nat → Prop) [DecidablePred P] : ∀ n, mk2 P n < 2 ^ n
  | 0 => Nat.one_pos
  | n + 1 => by
    have := mk2_lt P n
    rw [Nat.pow_succ]
    show mk2 P n + (if P n then 2 ^ n else 0) < _
    split <;> omega
theorem mk2_inj {P Q : Nat → Prop} [DecidablePred P] [DecidablePred Q] : ∀ (n : Nat), mk2 P n = mk2 Q n → ∀ j, j < n → (P j ↔ Q j)
  | 0, _, j, h => absurd h (Nat.not_lt_zero j)
  | n + 1, e, j, h => by
    have e : mk2 P n + (if P n then 2 ^ n else 0) = mk2 Q n + (if Q n then 2 ^ n else 0) := e
    have h1 := mk2_lt P n
    have h2 := mk2_lt Q n
    by_cases a : P n
    · by_cases b : Q n
      · rw [if_pos a, if_pos b] at e
        by_cases c : j = n
        · subst c
          exact ⟨fun _ => b, fun _ => a⟩
        · exact mk2_inj n (by omega) j (by omega)
      · rw [if_pos a, if_neg b] at e
        omega
    · by_cases b : Q n
      · rw [if_neg a, if_pos b] at e
        omega
      · rw [if_neg a, if_neg b] at e
        by_cases c : j = n
        · subst c
          exact ⟨fun x => absurd x a, fun x => absurd x b⟩
        · exact mk2_inj n (by omega) j (by omega)
theorem Run.sub {m z N : Nat} {C : Nat → Nat → Int} {bs : Nat → Nat → Nat} {T : Nat → Nat → Nat → Int} {D : Nat → Int} {r c : Nat → Nat} {p q p' q' : Nat} (R : Run m z N C bs T D r c p q) (h1 : p ≤ p') (h2 : q' ≤ q) : Run m z N C bs T D r c p' q' :=
  ⟨fun i a b => R.tc i (by omega) (by omega), fun i a b => R.nn i (by omega) (by omega), fun i a b => R.st i (by omega) (by omega), fun i a b => R.nb i (by omega) (by omega), fun i a b => R.nt i (by omega) (by omega), fun i a b => R.nd i (by omega) (by omega)⟩
/-- a run from the start has fewer exchanges than there are sets of columns -/
theorem Run.short {m z N q : Nat} {C : Nat → Nat → Int} {bs : Nat → Nat → Nat} {T : Nat → Nat → Nat → Int} {D : Nat → Int} {r c : Nat → Nat} (R : Run m z N C bs T D r c 0 q) (lt : ∀ i, i ≤ q → ∀ k, k < m → bs i k < N) : q < 2 ^ N := by
  classical
  refine Classical.byContradiction fun no => ?_
  let L : List Nat := (List.range (q + 1)).map fun i => mk2 (Bas m (bs i)) N
  have nd : L.Nodup := by
    refine List.pairwise_map.mpr (List.Pairwise.imp_of_mem (fun {a b} ha hb hab e => ?_) (List.pairwise_lt_range (n := q + 1)))
    have ha := List.mem_range.mp ha
    have hb := List.mem_range.mp hb
    refine (R.sub (p' := a) (q' := b) (Nat.zero_le a) (by omega)).once hab fun j => ?_
    by_cases hj : j < N
    · exact mk2_inj N e j hj
    · refine ⟨fun ⟨k, hk, h⟩ => ?_, fun ⟨k, hk, h⟩ => ?_⟩
      · have := lt a (by omega) k hk
        omega
      · have := lt b (by omega) k hk
        omega
  have := nodup_len L (List.range (2 ^ N)) nd fun y hy => by
    obtain ⟨i, _, rfl⟩ := List.mem_map.mp hy
    exact List.mem_range.mpr (mk2_lt _ _)
  rw [List.length_range, List.length_map, List.length_range] at this
  omega
/-- a run goes on -/
theorem Run.more {m z N q : Nat} {C : Nat → Nat → Int} {bs : Nat → Nat → Nat} {T : Nat → Nat → Nat → Int} {D : Nat → Int} {r c : Nat → Nat} (R : Run m z N C bs T D r c 0 q) {r1 c1 : Nat} (S : Bl m z N (bs q) (T q) r1 c1) :
    ∃ (bs' : Nat → Nat → Nat) (T' : Nat → Nat → Nat → Int) (D' : Nat → Int) (r' c' : Nat → Nat), Run m z N C bs' T' D' r' c' 0 (q + 1) ∧ (bs' (q + 1) = fun k => if k = r1 then c1 else bs q k) ∧ T' (q + 1) = exch (T q) (D q) r1 c1 ∧ D' (q + 1) = T q r1 c1 ∧ ∀ i, i ≤ q → bs' i = bs i := by
  have tcq := R.tc q (Nat.zero_le q) (Nat.le_refl q)
  have tc1 := tcq.exchange S.rm S.rp
  have nq := R.nn q (Nat.zero_le q) (Nat.le_refl q)
  have dq := tcq.pos
  refine ⟨fun i => if i ≤ q then bs i else fun k => if k = r1 then c1 else bs q k, fun i => if i ≤ q then T i else exch (T q) (D q) r1 c1, fun i => if i ≤ q then D i else T q r1 c1, fun i => if i < q then r i else r1, fun i => if i < q then c i else c1, ⟨fun i _ h => ?_, fun i _ h k hk => ?_, fun i _ h => ?_, fun i _ h => ?_, fun i _ h => ?_, fun i _ h => ?_⟩, ?_, ?_, ?_, fun i h => if_pos h⟩
  · show Tc m C (if i ≤ q then bs i else _) (if i ≤ q then T i else _) (if i ≤ q then D i else _)
    by_cases e : i ≤ q
    · rw [if_pos e, if_pos e, if_pos e]
      exact R.tc i (Nat.zero_le i) e
    · rw [if_neg e, if_neg e, if_neg e]
      exact tc1
  · show 0 ≤ (if i ≤ q then T i else exch (T q) (D q) r1 c1) k N
    by_cases e : i ≤ q
    · rw [if_pos e]
      exact R.nn i (Nat.zero_le i) e k hk
    · rw [if_neg e]
      by_cases kr : k = r1
      · subst kr
        unfold exch
        rw [if_pos rfl]
        exact nq k hk
      · have x := tcq.mul (c := c1) S.rm (by omega : k < m + 1) kr N
        refine Classical.byContradiction fun ng => ?_
        have y : D q * exch (T q) (D q) r1 c1 k N < 0 := Int.mul_neg_of_pos_of_neg dq (by omega)
        have n1 := Int.mul_nonneg (Int.le_of_lt S.rp) (nq k hk)
        by_cases tk : 0 < T q k c1
        · have := S.rl k hk tk
          rw [Int.mul_comm (T q k N), Int.mul_comm (T q r1 N)] at this
          omega
        · have := Int.mul_nonpos_of_nonpos_of_nonneg (show T q k c1 ≤ 0 by omega) (nq r1 S.rm)
          omega
  · show Bl m z N (if i ≤ q then bs i else _) (if i ≤ q then T i else _) (if i < q then r i else r1) (if i < q then c i else c1)
    rw [if_pos (by omega), if_pos (by omega)]
    by_cases e : i < q
    · rw [if_pos e, if_pos e]
      exact R.st i (Nat.zero_le i) e
    · rw [if_neg e, if_neg e]
      have : i = q := by omega
      subst this
      exact S
  · show (if i + 1 ≤ q then bs (i + 1) else _) = fun k => if k = (if i < q then r i else r1) then (if i < q then c i else c1) else (if i ≤ q then bs i else _) k
    by_cases e : i < q
    · rw [if_pos (by omega), if_pos e, if_pos e, if_pos (by omega)]
      exact R.nb i (Nat.zero_le i) e
    · have : i = q := by omega
      subst this
      rw [if_neg (by omega), if_neg e, if_neg e, if_pos (Nat.le_refl i)]
  · show (if i + 1 ≤ q then T (i + 1) else _) = exch (if i ≤ q then T i else _) (if i ≤ q then D i else _) (if i < q then r i else r1) (if i < q then c i else c1)
    by_cases e : i < q
    · rw [if_pos (by omega), if_pos (by omega), if_pos (by omega), if_pos e, if_pos e]
      exact R.nt i (Nat.zero_le i) e
    · have : i = q := by omega
      subst this
      rw [if_neg (by omega), if_pos (Nat.le_refl i), if_pos (Nat.le_refl i), if_neg e, if_neg e]
  · show (if i + 1 ≤ q then D (i + 1) else _) = (if i ≤ q then T i else _) (if i < q then r i else r1) (if i < q then c i else c1)
    by_cases e : i < q
    · rw [if_pos (by omega), if_pos (by omega), if_pos e, if_pos e]
      exact R.nd i (Nat.zero_le i) e
    · have : i = q := by omega
      subst this
      rw [if_neg (by omega), if_pos (Nat.le_refl i), if_neg e, if_neg e]
  · exact if_neg (by omega)
  · exact if_neg (by omega)
  · exact if_neg (by omega)
end Gd

open Rk
namespace Gd
/-! ### the first table, the leaving row, and what the last table tells -/
def Id : Mt := fun i j => if j = i then 1 else 0
theorem gd_id : ∀ n, gd n Id = 1
  | 0 => rfl
  | n + 1 => by
    rw [gd_tri fun i _ => ?_]
    · have e : gd n (fun i j => Id (i + 1) (j + 1)) = gd n Id := gd_congr fun i j _ _ => by
        unfold Id
        by_cases c : j = i
        · rw [if_pos (by omega), if_pos c]
        · rw [if_neg (by omega), if_neg c]
      rw [e, gd_id n]
      rfl
    · exact if_neg (by omega)
theorem sm_id {n i : Nat} {f : Nat → Int} (hi : i < n) : (sm n fun k => f k * Id k i) = f i := by
  rw [sm_one (k := i) hi fun k _ kn => by
    unfold Id
    rw [if_neg fun z => kn z.symm, Int.mul_zero]]
  unfold Id
  rw [if_pos rfl, Int.mul_one]
theorem put_id {n k : Nat} {A : Mt} {u : Nat → Int} (hk : k < n) : gd n (put A k u) = sm n fun t => u t * gd n (put A k (Id t)) := by
  rw [← gd_sum hk]
  refine gd_congr fun i j hi hj => ?_
  unfold put
  by_cases c : i = k
  · rw [if_pos c, if_pos c, sm_id hj]
  · rw [if_neg c, if_neg c]
theorem Tb.first (n : Nat) (C : Nat → Nat → Int) : Tb n Id C (fun k j => C j k) 1 := by
  refine ⟨(gd_id n).symm, by decide, fun k j hk => ?_, fun j i hi => ?_⟩
  · rw [put_id hk, sm_one (k := k) hk fun t ht tk => ?_, put_self, gd_id, Int.mul_one]
    have z : gd n (put Id k (Id t)) = 0 := by
      rcases Nat.lt_or_gt_of_ne tk with q | q
      · refine gd_eq q hk fun i _ => ?_
        unfold put
        rw [if_neg tk, if_pos rfl]
      · refine gd_eq q ht fun i _ => ?_
        unfold put
        rw [if_neg tk, if_pos rfl]
    rw [z, Int.mul_zero]
  · rw [Int.one_mul, sm_id hi]
theorem Tc.first {m : Nat} {C : Nat → Nat → Int} (h : ∀ j, j < m → C j = Id j) : Tc m C (fun k => k) (fun k j => C j k) 1 :=
  ⟨Id, Tb.first (m + 1) C, fun k hk => (h k hk).symm, rfl⟩
/-- a column of cost below 0 has an entry above 0 -/
theorem Tc.leave {m : Nat} {C : Nat → Nat → Int} {bs : Nat → Nat} {T : Nat → Nat → Int} {D : Int} (h : Tc m C bs T D) (ph : ∀ k, k < m → 0 ≤ sm (m + 1) (C (bs k))) {c : Nat} (p0 : sm (m + 1) (C c) = 0) (neg : T m c < 0) : ∃ k, k < m ∧ 0 < T k c := by
  obtain ⟨B, t, e, lb⟩ := h.b
  refine Classical.byContradiction fun no => ?_
  have x : (sm (m + 1) fun i => D * C c i) = sm (m + 1) fun k => T k c * sm (m + 1) (B k) := by
    rw [sm_congr fun i hi => t.c c i hi, sm_swap]
    exact sm_congr fun k _ => sm_mul
  rw [sm_mul, p0, Int.mul_zero] at x
  have l1 : sm (m + 1) (B m) = 1 := by
    rw [lb, sm_one (k := m) (Nat.lt_succ_self m) fun j _ jn => if_neg jn, if_pos rfl]
  have le : ∀ n, n ≤ m → (sm n fun k => T k c * sm (m + 1) (B k)) ≤ 0 := fun n => by
    induction n with
    | zero => exact fun _ => Int.le_refl _
    | succ n ih =>
      intro hn
      have h1 : T n c ≤ 0 := Classical.byContradiction fun z => no ⟨n, by omega, by omega⟩
      have h2 := Int.mul_nonpos_of_nonpos_of_nonneg h1 (ph n (by omega))
      rw [← e n (by omega)] at h2
      have := ih (by omega)
      show (sm n fun k => T k c * sm (m + 1) (B k)) + T n c * sm (m + 1) (B n) ≤ 0
      omega
  have y : (0 : Int) = (sm m fun k => T k c * sm (m + 1) (B k)) + T m c * sm (m + 1) (B m) := x
  rw [l1, Int.mul_one] at y
  have := le m (Nat.le_refl m)
  omega
/-- the costs by what they are at the helpers -/
theorem Tc.dual {m : Nat} {C : Nat → Nat → Int} {bs : Nat → Nat} {T : Nat → Nat → Int} {D : Int} (h : Tc m C bs T D) (hC : ∀ j, j < m → C j = Id j) {j : Nat} (cj : C j m = - sm m (C j)) : T m j = sm m fun i => C j i * (T m i - D) := by
  obtain ⟨B, t, e, lb⟩ := h.b
  have hm := Nat.lt_succ_self m
  rw [t.t m j hm, put_id hm]
  show (sm m fun i => C j i * gd (m + 1) (put B m (Id i))) + C j m * gd (m + 1) (put B m (Id m)) = _
  have e1 : put B m (Id m) = B := by
    have : Id m = B m := by rw [lb]; rfl
    rw [this, put_self]
  rw [e1, ← t.d, cj, Int.neg_mul]
  have e2 : (sm m fun i => C j i * gd (m + 1) (put B m (Id i))) = sm m fun i => C j i * T m i := sm_congr fun i hi => by rw [t.t m i hm, hC i hi]
  have e3 : (sm m fun i => C j i * (T m i - D)) = (sm m fun i => C j i * T m i) - sm m fun i => D * C j i := by
    rw [← sm_sub]
    refine sm_congr fun i _ => ?_
    rw [Int.mul_sub, Int.mul_comm D]
  rw [e2, e3, sm_mul, Int.mul_comm D]
  rfl
/-- where the costs come to 0, the helpers have value 0 -/
theorem Tc.yes {m N : Nat} {C : Nat → Nat → Int} {bs : Nat → Nat} {T : Nat → Nat → Int} {D : Int} (h : Tc m C bs T D) (nn : ∀ k, k < m → 0 ≤ T k N) (ph : ∀ k, k < m → 0 ≤ sm (m + 1) (C (bs k))) (p0 : sm (m + 1) (C N) = 0) (c0 : T m N = 0) : ∀ k, k < m → T k N * sm (m + 1) (C (bs k)) = 0 := by
  obtain ⟨B, t, e, lb⟩ := h.b
  have x : (sm (m + 1) fun i => D * C N i) = sm (m + 1) fun k => T k N * sm (m + 1) (B k) := by
    rw [sm_congr fun i hi => t.c N i hi, sm_swap]
    exact sm_congr fun k _ => sm_mul
  rw [sm_mul, p0, Int.mul_zero] at x
  have y : (0 : Int) = (sm m fun k => T k N * sm (m + 1) (B k)) + T m N * sm (m + 1) (B m) := x
  rw [c0, Int.zero_mul, Int.add_zero] at y
  have key : ∀ n, n ≤ m → 0 ≤ (sm n fun k => T k N * sm (m + 1) (B k)) ∧ ((sm n fun k => T k N * sm (m + 1) (B k)) = 0 → ∀ k, k < n → T k N * sm (m + 1) (B k) = 0) := fun n => by
    induction n with
    | zero => exact fun _ => ⟨Int.le_refl _, fun _ k hk => absurd hk (Nat.not_lt_zero k)⟩
    | succ n ih =>
      intro hn
      obtain ⟨i1, i2⟩ := ih (by omega)
      have h2 := Int.mul_nonneg (nn n (by omega)) (ph n (by omega))
      rw [← e n (by omega)] at h2
      refine ⟨show 0 ≤ (sm n fun k => T k N * sm (m + 1) (B k)) + T n N * sm (m + 1) (B n) by omega, fun z k hk => ?_⟩
      have z : (sm n fun k => T k N * sm (m + 1) (B k)) + T n N * sm (m + 1) (B n) = 0 := z
      by_cases c : k = n
      · subst c
        omega
      · exact i2 (by omega) k (by omega)
  intro k hk
  rw [← e k hk]
  exact (key m (Nat.le_refl m)).2 y.symm k hk
end Gd

open Rk
namespace Gd
/-! ### how great a determinant and a table are -/
def fc : Nat → Nat
  | 0 => 1
  | n + 1 => (n + 1) * fc n
theorem gd_big : ∀ (n : Nat) (A : Mt) (M : Nat), (∀ i j, i < n → j < n → (A i j).natAbs ≤ M) → (gd n A).natAbs ≤ fc n * M ^ n
  | 0, A, M, _ => by
    show (1 : Int).natAbs ≤ 1 * M ^ 0
    rw [Nat.pow_zero]
    decide
  | n + 1, A, M, h => by
    rw [gd_split]
    have h1 := sm_lim (f := fun k => A 0 k * Pm n (fun i => A (i + 1)) k) (C := M * (fc n * M ^ n)) (n := n + 1) fun j hj => by
      rw [Int.natAbs_mul]
      refine Nat.mul_le_mul (h 0 j (by omega) hj) ?_
      unfold Pm
      have hg := gd_big n (fun i l => A (i + 1) (skp j l)) M fun i l hi hl => h (i + 1) _ (by omega) (skp_lt hl)
      rcases sg_ne j with e | e
      · rw [e, Int.one_mul]
        exact hg
      · rw [e, Int.neg_mul, Int.one_mul, Int.natAbs_neg]
        exact hg
    refine Nat.le_trans h1 (Nat.le_of_eq ?_)
    show (n + 1) * (M * (fc n * M ^ n)) = (n + 1) * fc n * M ^ (n + 1)
    rw [Nat.pow_succ, Nat.mul_comm (M ^ n) M, Nat.mul_assoc, Nat.mul_left_comm (fc n) M]
/-- each entry of a table is small -/
theorem Tc.big {m : Nat} {C : Nat → Nat → Int} {bs : Nat → Nat} {T : Nat → Nat → Int} {D : Int} (h : Tc m C bs T D) {M : Nat} (m1 : 1 ≤ M) (hb : ∀ k i, k < m → i < m + 1 → (C (bs k) i).natAbs ≤ M) : D.natAbs ≤ fc (m + 1) * M ^ (m + 1) ∧ ∀ k j, k < m + 1 → (∀ i, i < m + 1 → (C j i).natAbs ≤ M) → (T k j).natAbs ≤ fc (m + 1) * M ^ (m + 1) := by
  obtain ⟨B, t, e, lb⟩ := h.b
  have hB : ∀ k i, k < m + 1 → i < m + 1 → (B k i).natAbs ≤ M := fun k i hk hi => by
    by_cases c : k = m
    · subst c
      rw [lb]
      show (if i = k then (1 : Int) else 0).natAbs ≤ M
      split
      · exact m1
      · exact Nat.zero_le _
    · rw [e k (by omega)]
      exact hb k i (by omega) hi
  refine ⟨t.d ▸ gd_big _ _ _ hB, fun k j hk hj => ?_⟩
  rw [t.t k j hk]
  refine gd_big _ _ _ fun i l hi hl => ?_
  unfold put
  by_cases c : i = k
  · rw [if_pos c]
    exact hj l hl
  · rw [if_neg c]
    exact hB i l hi hl
end Gd

open Rk
/-! ### the class Table -/
def tf (n m : Int) (S R Cc B : Addr) (D : Int) : List (Str × V) := [("size", .int n), ("many", .int m), ("signs", .ref S), ("rows", .ref R), ("costs", .ref Cc), ("basis", .ref B), ("divisor", .int D)]
structure TCls (K : PySem.W.Frag) (C : Addr) : Prop where
  cl : Cls K C
  nS : NoAttr K C "size"
  nM : NoAttr K C "many"
  nG : NoAttr K C "signs"
  nR : NoAttr K C "rows"
  nC : NoAttr K C "costs"
  nB : NoAttr K C "basis"
  nD : NoAttr K C "divisor"
/-- the table at p: sizes, signs, rows, costs, basis, divisor -/
def TO (C : Addr) (H : Hp) (p : Addr) (n m : Nat) (ss : List Int) (rows : List (List Int)) (costs basis : List Int) (D : Int) : Prop := ∃ (dx S R Cc B : Addr) (rs : List Addr), H p = some (.ins C dx (tf n m S R Cc B D)) ∧ H S = some (.lst (ss.map V.int)) ∧ H R = some (.lst (rs.map V.ref)) ∧ rs.length = rows.length ∧
  (∀ (i : Nat) (r : Addr), rs[i]? = some r → ∃ v, rows[i]? = some v ∧ H r = some (.lst (v.map V.int))) ∧ H Cc = some (.lst (costs.map V.int)) ∧ H B = some (.lst (basis.map V.int))
theorem atI_en {xs : List Int} {j : Nat} (h : j < xs.length) : atI (xs.map V.int) (j : Int) = some (.int (en xs j)) := atI_nat (by
  rw [List.getElem?_map, List.getElem?_eq_getElem h]
  show some (V.int xs[j]) = some (V.int (xs.getD j 0))
  rw [List.getD_eq_getElem?_getD, List.getElem?_eq_getElem h]
  rfl)
abbrev s_Table_entering : Stmt := inClass (topS 15) 2
theorem sc_Table_entering : FnScope ["self", "column"] ["self"] (defScope s_Table_entering) := ⟨rfl, rfl, rfl, by decide +kernel, rfl, by decide +kernel, by decide +kernel⟩
def spEnt (C : Addr) : Sp := fun vs H Q _ => ∃ (p : Addr) (n m : Nat) (ss : List Int) (rows : List (List Int)) (costs basis : List Int) (D : Int), vs = [.ref p] ∧ TO C H p n m ss rows costs basis D ∧ costs.length = n + m + 1 ∧ n + m ≤ 500 ∧
  (∀ j, n ≤ j → j < n + m → en costs j < 0 → (∀ i, n ≤ i → i < j → 0 ≤ en costs i) → Q (.int (j : Int)) H) ∧ ((∀ j, n ≤ j → j < n + m → 0 ≤ en costs j) → Q .non H)
theorem ok_ent {f C : Addr} {fd : FuncData} {k : Nat} (F : Fun K "entering" "Table.entering" s_Table_entering f fd) (Z : Glb mg) (T : TCls K C) : FnOk P w K mg base CX0 (k + 1) f fd ["self"] (spEnt C) := by
  refine F.ok sc_Table_entering (fun vs H Q E h => ?_) (fun cdv A outer s H vs Q E hr h => ?_)
  · obtain ⟨p, n, m, ss, rows, costs, basis, D, rfl, _⟩ := h
    rfl
  · obtain ⟨p, n, m, ss, rows, costs, basis, D, rfl, ⟨dx, S, R, Cc, B, rs, ep, eS, eR, lR, gR, eC, eB⟩, lc, nm, q1, q2⟩ := h
    refine ⟨_, (pss_cons (ps_for PassesOwn.never rfl (pi_range2 rfl Z.m_range (pa_cons (pe_fld (pv 0) rfl) (pa_cons (pe_op op_add (pe_fld (pv 0) rfl) (pe_fld (pv 0) rfl)) pa_nil))) (pg_name (i := 1) sc_Table_entering.nd rfl (.inl rfl)) (pss_one (ps_if (pt_cmpR op_lt (pe_ix (r := rIxL K) ix_list (pe_fld (pv 0) rfl) (pv 1) (fun _ _ => rfl)) pe_int (nomark _)) (pss_one (ps_ret (pv 1))) pss_nil)))
      (pss_one (ps_ret pe_non))), ?_⟩
    have f1 : (tf n m S R Cc B D).lookup ("size" : Str) = some (.int n) := rfl
    have f2 : (tf n m S R Cc B D).lookup ("many" : Str) = some (.int m) := rfl
    have f5 : (tf n m S R Cc B D).lookup ("costs" : Str) = some (.ref Cc) := rfl
    refine ⟨_, rfl, p, C, dx, _, _, rfl, ep, T.cl, T.nS, f1, _, rfl, p, C, dx, _, _, rfl, ep, T.cl, T.nS, f1, _, rfl, p, C, dx, _, _, rfl, ep, T.cl, T.nM, f2, _, _, rfl, rfl, _, _, rfl, ⟨by omega, by omega, by omega, by omega⟩, ?_⟩
    rw [show ((n : Int) + (m : Int) - (n : Int)).toNat = m by omega]
    refine for_range (lo := (n : Int)) (n := m) (fun i σ H' => H' = H ∧ (∃ y, σ = [some (.ref p), y]) ∧ ∀ j, n ≤ j → j < n + i → 0 ≤ en costs j) ⟨rfl, ⟨_, rfl⟩, fun j h1 h2 => by omega⟩ (fun i σ H' hi hP => ?_) (fun σ H' hP => ?_)
    · obtain ⟨rfl, ⟨y, rfl⟩, hj⟩ := hP
      rw [show (n : Int) + (i : Int) = ((n + i : Nat) : Int) from rfl]
      refine ⟨_, rfl, p, C, dx, _, _, rfl, ep, T.cl, T.nC, f5, _, rfl, Cc, _, ((n + i : Nat) : Int), _, rfl, rfl, SqL.of eC, atI_en (by omega), _, _, rfl, rfl, _, rfl, ite2 (fun c => ?_) (fun c => ?_)⟩
      · exact ⟨_, rfl, q1 (n + i) (by omega) (by omega) (of_decide_eq_true c) fun j h1 h2 => hj j h1 h2⟩
      · refine ⟨rfl, ⟨_, rfl⟩, fun j h1 h2 => ?_⟩
        by_cases e : j = n + i
        · subst e
          have : ¬ en costs (n + i) < 0 := fun z => c (decide_eq_true z)
          omega
        · exact hj j h1 (by omega)
    · obtain ⟨rfl, ⟨y, rfl⟩, hj⟩ := hP
      exact q2 hj
abbrev s_Table_comes_first : Stmt := inClass (topS 15) 4
theorem sc_Table_comes_first : FnScope ["self", "at", "best", "column", "bound", "least"] ["self", "at", "best", "column"] (defScope s_Table_comes_first) := ⟨rfl, rfl, rfl, by decide +kernel, rfl, by decide +kernel, by decide +kernel⟩
def spCf (C : Addr) : Sp := fun vs H Q _ => ∃ (p : Addr) (n m : Nat) (ss : List Int) (rows : List (List Int)) (costs basis : List Int) (D : Int) (a b c : Nat) (M : Nat), vs = [.ref p, .int (a : Int), .int (b : Int), .int (c : Int)] ∧ TO C H p n m ss rows costs basis D ∧ a < rows.length ∧ b < rows.length ∧ basis.length = rows.length ∧ (∀ v ∈ rows, v.length = n + m + 1) ∧ c < n + m + 1 ∧ (∀ v ∈ rows, ∀ x ∈ v, x.natAbs < 2 ^ 1200) ∧
  ∀ t : Bool, (t = true ↔ (en (rows.getD a []) (n + m) * en (rows.getD b []) c < en (rows.getD b []) (n + m) * en (rows.getD a []) c ∨ (en (rows.getD a []) (n + m) * en (rows.getD b []) c = en (rows.getD b []) (n + m) * en (rows.getD a []) c ∧ en basis a < en basis b))) → Q (.bl t) H
theorem ok_cf {f C : Addr} {fd : FuncData} {k : Nat} (F : Fun K "comes_first" "Table.comes_first" s_Table_comes_first f fd) (Z : Glb mg) (T : TCls K C) : FnOk P w K mg base CX0 (k + 1) f fd ["self", "at", "best", "column"] (spCf C) := by
  refine F.ok sc_Table_comes_first (fun vs H Q E h => ?_) (fun cdv A outer s H vs Q E hr h => ?_)
  · obtain ⟨p, n, m, ss, rows, costs, basis, D, a, b, c, M, rfl, _⟩ := h
    rfl
  · obtain ⟨p, n, m, ss, rows, costs, basis, D, a, b, c, M, rfl, ⟨dx, S, R, Cc, B, rs, ep, eS, eR, lR, gR, eC, eB⟩, ha, hb, lb, lw, hc, big, q⟩ := h
    refine ⟨_, (pss_cons (ps_set (i := 4) sc_Table_comes_first.nd rfl (.inl rfl) (pe_op op_mulW (pe_ix (r := rIxL K) ix_list (pe_ix (r := rIxL K) ix_list (pe_fld (pv 0) rfl) (pv 1) (fun _ _ => rfl)) (pe_un un_neg pe_int) (fun _ _ => rfl)) (pe_ix (r := rIxL K) ix_list (pe_ix (r := rIxL K) ix_list (pe_fld (pv 0) rfl) (pv 2) (fun _ _ => rfl)) (pv 3) (fun _ _ => rfl))))
      (pss_cons (ps_set (i := 5) sc_Table_comes_first.nd rfl (.inl rfl) (pe_op op_mulW (pe_ix (r := rIxL K) ix_list (pe_ix (r := rIxL K) ix_list (pe_fld (pv 0) rfl) (pv 2) (fun _ _ => rfl)) (pe_un un_neg pe_int) (fun _ _ => rfl)) (pe_ix (r := rIxL K) ix_list (pe_ix (r := rIxL K) ix_list (pe_fld (pv 0) rfl) (pv 1) (fun _ _ => rfl)) (pv 3) (fun _ _ => rfl))))
      (pss_one (ps_ret (pe_or (pe_cmpR op_lt (pv 4) (pv 5) (nomark _)) (pe_one (pe_and (pe_cmpR op_eq (pv 4) (pv 5) (nomark _)) (pe_one (pe_cmpR op_lt (pe_ix (r := rIxL K) ix_list (pe_fld (pv 0) rfl) (pv 1) (fun _ _ => rfl)) (pe_ix (r := rIxL K) ix_list (pe_fld (pv 0) rfl) (pv 2) (fun _ _ => rfl)) (nomark _)))))))))), ?_⟩
    have f4 : (tf n m S R Cc B D).lookup ("rows" : Str) = some (.ref R) := rfl
    have f6 : (tf n m S R Cc B D).lookup ("basis" : Str) = some (.ref B) := rfl
    have row : ∀ j, j < rows.length → ∃ r, (rs.map V.ref)[j]? = some (.ref r) ∧ H r = some (.lst ((rows.getD j []).map V.int)) ∧ (rows.getD j []).length = n + m + 1 ∧ ∀ i, (en (rows.getD j []) i).natAbs < 2 ^ 1200 := fun j hj => by
      have hr : rs[j]? = some (rs[j]'(by omega)) := List.getElem?_eq_getElem _
      obtain ⟨v, h1, h2⟩ := gR j _ hr
      have e : rows.getD j [] = v := by rw [List.getD_eq_getElem?_getD, h1]; rfl
      have mv := List.mem_of_getElem? h1
      refine ⟨_, get_ref hr, e ▸ h2, e ▸ lw v mv, fun i => ?_⟩
      rw [e]
      show (v.getD i 0).natAbs < _
      rw [List.getD_eq_getElem?_getD]
      cases hi : v[i]? with
      | none => exact Nat.two_pow_pos 1200
      | some x => exact big v mv x (List.mem_of_getElem? hi)
    obtain ⟨ra, ga, ea, la, ba⟩ := row a ha
    obtain ⟨rb, gb, eb, lb', bb⟩ := row b hb
    have last : ∀ v : List Int, v.length = n + m + 1 → atI (v.map V.int) (-1) = some (.int (en v (n + m))) := fun v hv => by
      have ne : v ≠ [] := fun z => by rw [z] at hv; cases hv
      have hi : n + m < v.length := by omega
      have en1 : en v (n + m) = v.getLast ne := by
        show v.getD (n + m) 0 = _
        rw [List.getD_eq_getElem?_getD, List.getElem?_eq_getElem hi, List.getLast_eq_getElem]
        show v[n + m] = _
        congr 1
        omega
      have e : v.dropLast ++ [en v (n + m)] = v := by rw [en1, List.dropLast_concat_getLast]
      have h := atI_last (v.dropLast.map V.int) (V.int (en v (n + m)))
      rw [show v.dropLast.map V.int ++ [V.int (en v (n + m))] = (v.dropLast ++ [en v (n + m)]).map V.int by rw [List.map_append]; rfl, e] at h
      exact h
    have two : ∀ {x y : Int}, x.natAbs < 2 ^ 1200 → y.natAbs < 2 ^ 1200 → CMulW x y := fun h1 h2 => cmul (a := 1200) (b := 1200) h1 h2
    have ca := atI_en (xs := rows.getD a []) (j := c) (by omega)
    have cb := atI_en (xs := rows.getD b []) (j := c) (by omega)
    refine ⟨_, rfl, p, C, dx, _, _, rfl, ep, T.cl, T.nR, f4, _, rfl, R, _, (a : Int), _, rfl, rfl, SqL.of eR, atI_nat ga, _, rfl, ra, _, (-1), _, rfl, rfl, SqL.of ea, last _ la, ?_⟩
    refine ⟨_, rfl, p, C, dx, _, _, rfl, ep, T.cl, T.nR, f4, _, rfl, R, _, (b : Int), _, rfl, rfl, SqL.of eR, atI_nat gb, _, rfl, rb, _, (c : Int), _, rfl, rfl, SqL.of eb, cb, _, _, rfl, rfl, two (ba _) (bb _), ?_⟩
    refine ⟨_, rfl, p, C, dx, _, _, rfl, ep, T.cl, T.nR, f4, _, rfl, R, _, (b : Int), _, rfl, rfl, SqL.of eR, atI_nat gb, _, rfl, rb, _, (-1), _, rfl, rfl, SqL.of eb, last _ lb', ?_⟩
    refine ⟨_, rfl, p, C, dx, _, _, rfl, ep, T.cl, T.nR, f4, _, rfl, R, _, (a : Int), _, rfl, rfl, SqL.of eR, atI_nat ga, _, rfl, ra, _, (c : Int), _, rfl, rfl, SqL.of ea, ca, _, _, rfl, rfl, two (bb _) (ba _), ?_⟩
    refine ⟨_, rfl, _, rfl, _, _, rfl, rfl, _, rfl, ite2 (fun c1 => ?_) (fun c1 => ?_)⟩
    · exact q true ⟨fun _ => .inl (of_decide_eq_true c1), fun _ => rfl⟩
    have c1 : ¬ _ := fun z => c1 (decide_eq_true z)
    refine ⟨_, rfl, _, rfl, rfl, _, rfl, ite2 (fun c2 => ?_) (fun c2 => ?_)⟩
    · have c2 := V.int.inj (of_decide_eq_true c2)
      refine ⟨_, rfl, p, C, dx, _, _, rfl, ep, T.cl, T.nB, f6, _, rfl, B, _, (a : Int), _, rfl, rfl, SqL.of eB, atI_en (by omega), ?_⟩
      refine ⟨_, rfl, p, C, dx, _, _, rfl, ep, T.cl, T.nB, f6, _, rfl, B, _, (b : Int), _, rfl, rfl, SqL.of eB, atI_en (by omega), _, _, rfl, rfl, q _ ?_⟩
      rw [decide_eq_true_iff]
      exact ⟨fun h => .inr ⟨c2, h⟩, fun h => h.elim (fun h => absurd h c1) fun h => h.2⟩
    · have c2 : ¬ _ := fun z => c2 (decide_eq_true (congrArg V.int z))
      exact q false ⟨fun z => (nomatch z), fun h => (h.elim c1 fun h => c2 h.1).elim⟩
/-- a field within a comprehension -/
theorem pe_fldK {X : Cx} {K : PySem.W.Frag} {e : PySem.Expr} {f : Str} {pos : Pos} {ta : TE} (h : PE X e ta) (hb : attributeBase e f X.env (eval e X.env) = eval e X.env) (hK : X.K = K := by rfl) : PE X (e.Attribute f pos) (tFld K ta f) := hK ▸ pe_fld h hb
/-- a row cleared, and divided -/
def clrD (v l : List Int) (c : Nat) (D : Int) : List Int := (v.zip l).map fun p => (en l c * p.1 - en v c * p.2) / D
abbrev s_Table_cleared : Stmt := inClass (topS 15) 6
theorem sc_Table_cleared : FnScope ["self", "row", "lead", "column", "factor", "a", "b"] ["self", "row", "lead", "column"] (defScope s_Table_cleared) := ⟨rfl, rfl, rfl, by decide +kernel, rfl, by decide +kernel, by decide +kernel⟩
def spClrT (C : Addr) : Sp := fun vs H Q _ => ∃ (p a b : Addr) (n m : Nat) (ss : List Int) (rows : List (List Int)) (costs basis : List Int) (D : Int) (v l : List Int) (c : Nat), vs = [.ref p, .ref a, .ref b, .int (c : Int)] ∧ TO C H p n m ss rows costs basis D ∧ H a = some (.lst (v.map V.int)) ∧ H b = some (.lst (l.map V.int)) ∧ v.length = l.length ∧ c < v.length ∧ v.length ≤ 500 ∧ 0 < D ∧ D.natAbs < 2 ^ 1200 ∧ (∀ x ∈ v, x.natAbs < 2 ^ 1200) ∧ (∀ x ∈ l, x.natAbs < 2 ^ 1200) ∧
  ∀ (H' : Hp) (r : Addr), Same H H' → H' r = some (.lst ((clrD v l c D).map V.int)) → H r = none → Q (.ref r) H'
theorem ok_clrT {f C : Addr} {fd : FuncData} {k : Nat} (F : Fun K "cleared" "Table.cleared" s_Table_cleared f fd) (Z : Glb mg) (T : TCls K C) : FnOk P w K mg base CX0 (k + 1) f fd ["self", "row", "lead", "column"] (spClrT C) := by
  refine F.ok sc_Table_cleared (fun vs H Q E h => ?_) (fun cdv A outer s H vs Q E hr h => ?_)
  · obtain ⟨p, a, b, n, m, ss, rows, costs, basis, D, v, l, c, rfl, _⟩ := h
    rfl
  · obtain ⟨p, a, b, n, m, ss, rows, costs, basis, D, v, l, c, rfl, ⟨dx, S, R, Cc, B, rs, ep, _⟩, ea, eb, hvl, hc, l500, D0, hD, hv, hl, q⟩ := h
    refine ⟨_, (pss_cons (ps_set (i := 4) sc_Table_cleared.nd rfl (.inr rfl) (pe_ix (r := rIxL K) ix_list (pv 1) (pv 3) (fun _ _ => rfl)))
      (pss_one (ps_ret (pe_lc (own := [("a", 5), ("b", 6)]) (g := gTup K 2 (gCons (gName 5) (gCons (gName 6) gNil))) (tt := tYes) (by rfl) sc_Table_cleared.nd (pi_zipA (by rfl) Z.m_zip (pa_cons (pv 1) (pa_cons (pv 2) pa_nil))) (blkOk_by (own := [("a", 5), ("b", 6)]) (N := ["self", "row", "lead", "column", "factor", "a", "b"]) (sc := defScope s_Table_cleared) (by first | decide +kernel | kernel_rfl)) (fun _ _ _ _ _ => (pg_tup rfl (pgs_cons (pg_name (i := 5) sc_Table_cleared.nd rfl (.inl rfl)) (pgs_cons (pg_name (i := 6) sc_Table_cleared.nd rfl (.inl rfl)) pgs_nil)))) (fun _ _ _ _ _ => pts_nil) (fun _ _ _ _ _ => (pe_op op_fdivW (pe_op op_sub (pe_op op_mulW (pe_ix (r := rIxL K) ix_list (pv 2) (pv 3) (fun _ _ => rfl)) (pv 5)) (pe_op op_mulW (pv 4) (pv 6))) (pe_fldK (K := K) (pv 0) rfl))))))), ?_⟩
    have f7 : (tf n m S R Cc B D).lookup ("divisor" : Str) = some (.int D) := rfl
    have eV : ∀ i, (en v i).natAbs < 2 ^ 1200 := fun i => by
      show (v.getD i 0).natAbs < _
      rw [List.getD_eq_getElem?_getD]
      cases hi : v[i]? with
      | none => exact Nat.two_pow_pos 1200
      | some x => exact hv x (List.mem_of_getElem? hi)
    have eL : ∀ i, (en l i).natAbs < 2 ^ 1200 := fun i => by
      show (l.getD i 0).natAbs < _
      rw [List.getD_eq_getElem?_getD]
      cases hi : l[i]? with
      | none => exact Nat.two_pow_pos 1200
      | some x => exact hl x (List.mem_of_getElem? hi)
    have cl : (clrD v l c D).length = v.length := by
      unfold clrD
      rw [List.length_map, List.length_zip, hvl, Nat.min_self]
    have cg : ∀ i x y, v[i]? = some x → l[i]? = some y → (clrD v l c D)[i]? = some ((en l c * x - en v c * y) / D) := fun i x y h1 h2 => by
      unfold clrD
      rw [List.getElem?_map, List.getElem?_zip_eq_some (z := (x, y)) |>.mpr ⟨h1, h2⟩]
      rfl
    refine ⟨_, rfl, _, rfl, a, _, (c : Int), _, rfl, rfl, SqL.of ea, atI_en hc, ?_⟩
    refine ⟨_, rfl, _, rfl, a, b, v.map V.int, l.map V.int, rfl, .inl ⟨SqL.of ea, SqL.of eb, fun E2 nE => ?_⟩⟩
    refine lc_it (walk_zip (xs := v.map V.int) (ys := l.map V.int) (n := v.length) (by rw [List.length_map, List.length_map, hvl, Nat.min_self])) (fun i H' => Same H H' ∧ H' E2 = some (.lst (((clrD v l c D).take i).map V.int))) ⟨same_upd nE, upd_same⟩ (fun i H' _ hP => ⟨SqL.of (hP.1 _ _ ea), SqL.of (hP.1 _ _ eb)⟩) (fun i x H' H'' hi hP hY => ?_) (fun H' hP => ?_)
    · obtain ⟨s0, eE⟩ := hP
      obtain ⟨W, x1, y1, rfl, nW, rfl, hx, hy⟩ := hY
      obtain ⟨x, hn, rfl⟩ := map_get hx
      obtain ⟨y, hm', rfl⟩ := map_get hy
      refine ⟨W, [.int x, .int y], rfl, SqT.of upd_same, rfl, _, _, rfl, _, _, rfl, rfl, rfl, ?_⟩
      unfold tYes
      refine iteT ?_
      have hT : E2 ≠ W := ne_of_none eE nW
      have s1 : Same H (upd H' W (.tup [.int x, .int y])) := s0.trans (same_upd nW)
      have b1 := eL c
      have b2 := eV c
      have b3 := hv x (List.mem_of_getElem? hn)
      have b4 := hl y (List.mem_of_getElem? hm')
      refine ⟨_, rfl, _, rfl, b, _, (c : Int), _, rfl, rfl, SqL.of (s1 _ _ eb), atI_en (by omega), _, rfl, _, _, rfl, rfl, cmul (a := 1200) (b := 1200) b1 b3, _, rfl, _, rfl, _, _, rfl, rfl, cmul (a := 1200) (b := 1200) b2 b4, _, _, rfl, rfl, ?_⟩
      refine ⟨_, rfl, p, C, dx, _, _, rfl, s1 _ _ ep, T.cl, T.nD, f7, _, _, rfl, rfl, ?_⟩
      refine ⟨⟨D0, (Nat.log2_lt (by omega)).mpr (Nat.lt_of_lt_of_le hD (Nat.pow_le_pow_right (by decide) (by decide)))⟩, _, (by rw [upd_ne hT]; exact eE), ?_, fun z o hz => ?_, ?_⟩
      · rw [List.length_map, List.length_take]
        exact Nat.lt_of_le_of_lt (Nat.min_le_right _ _) (small1000 (by omega))
      · rw [upd_ne (ne_of_none hz nE)]
        exact s1 _ _ hz
      · rw [upd_same, take_get (cg i x y hn hm'), List.map_append]
        rfl
    · obtain ⟨s0, eE⟩ := hP
      rw [← cl, List.take_length] at eE
      exact q _ _ s0 eE nE
theorem fr_tr' {a b c d e f : Int} (hb : 0 < b) (hd : 0 < d) (hf : 0 < f) (h1 : a * d ≤ c * b) (h2 : c * f ≤ e * d) : a * f ≤ e * b ∧ (a * f = e * b → a * d = c * b ∧ c * f = e * d) := by
  have h3 : a * d * f ≤ c * b * f := Int.mul_le_mul_of_nonneg_right h1 (Int.le_of_lt hf)
  have h4 : c * f * b ≤ e * d * b := Int.mul_le_mul_of_nonneg_right h2 (Int.le_of_lt hb)
  have e1 : c * b * f = c * f * b := by rw [Int.mul_assoc, Int.mul_comm b f, ← Int.mul_assoc]
  have e2 : a * d * f = d * (a * f) := by rw [Int.mul_comm a d, Int.mul_assoc]
  have e3 : e * d * b = d * (e * b) := by rw [Int.mul_comm e d, Int.mul_assoc]
  refine ⟨Int.le_of_mul_le_mul_left (by omega) hd, fun h => ?_⟩
  rw [h] at e2
  exact ⟨Int.eq_of_mul_eq_mul_right (a := f) (by omega) (by omega), Int.eq_of_mul_eq_mul_right (a := b) (by omega) (by omega)⟩
abbrev s_Table_leaving : Stmt := inClass (topS 15) 3
theorem sc_Table_leaving : FnScope ["self", "column", "best", "k"] ["self", "column"] (defScope s_Table_leaving) := ⟨rfl, rfl, rfl, by decide +kernel, rfl, by decide +kernel, by decide +kernel⟩
/-- row b is the one to leave among the first i -/
def Lv (n m : Nat) (rows : List (List Int)) (basis : List Int) (c i b : Nat) : Prop := 0 < en (rows.getD b []) c ∧ ∀ k, k < i → 0 < en (rows.getD k []) c → en (rows.getD b []) (n + m) * en (rows.getD k []) c ≤ en (rows.getD k []) (n + m) * en (rows.getD b []) c ∧ (en (rows.getD b []) (n + m) * en (rows.getD k []) c = en (rows.getD k []) (n + m) * en (rows.getD b []) c → en basis b ≤ en basis k)
def spLv (C : Addr) : Sp := fun vs H Q _ => ∃ (p : Addr) (n m : Nat) (ss : List Int) (rows : List (List Int)) (costs basis : List Int) (D : Int) (c : Nat), vs = [.ref p, .int (c : Int)] ∧ TO C H p n m ss rows costs basis D ∧ rows.length = n ∧ n ≤ 500 ∧ basis.length = rows.length ∧ (∀ v ∈ rows, v.length = n + m + 1) ∧ c < n + m + 1 ∧ (∀ v ∈ rows, ∀ x ∈ v, x.natAbs < 2 ^ 1200) ∧ (∃ k, k < n ∧ 0 < en (rows.getD k []) c) ∧
  ∀ b : Nat, b < n → Lv n m rows basis c n b → Q (.int (b : Int)) H
theorem ok_lv {f C : Addr} {fd : FuncData} {k : Nat} (F : Fun K "leaving" "Table.leaving" s_Table_leaving f fd) (Z : Glb mg) (T : TCls K C) (Mcomes_first : MCall P w K mg base k C "comes_first" ["self", "at", "best", "column"] (spCf C)) : FnOk P w K mg base CX0 (k + 1) f fd ["self", "column"] (spLv C) := by
  refine F.ok sc_Table_leaving (fun vs H Q E h => ?_) (fun cdv A outer s H vs Q E hr h => ?_)
  · obtain ⟨p, n, m, ss, rows, costs, basis, D, c, rfl, _⟩ := h
    rfl
  · obtain ⟨p, n, m, ss, rows, costs, basis, D, c, rfl, TT, ln, n5, lb, lw, hc, big, ex, q⟩ := h
    obtain ⟨dx, S, R, Cc, B, rs, ep, eS, eR, lR, gR, eC, eB⟩ := id TT
    refine ⟨_, (pss_cons (ps_set (i := 2) sc_Table_leaving.nd rfl (.inl rfl) pe_non)
      (pss_cons (ps_for PassesOwn.never rfl (pi_range1 rfl Z.m_range (pa_cons (pe_fld (pv 0) rfl) pa_nil)) (pg_name (i := 3) sc_Table_leaving.nd rfl (.inl rfl)) (pss_one (ps_if (PW.pt (pw_and (pt_cmpR op_gt (pe_ix (r := rIxL K) ix_list (pe_ix (r := rIxL K) ix_list (pe_fld (pv 0) rfl) (pv 3) (fun _ _ => rfl)) (pv 1) (fun _ _ => rfl)) pe_int (nomark _)) (pw_and1 (PW.pt (pw_or (pt_cmp (pc_isN (pv 2))) (pw_or1 (pt_val (pe_meth (pv 0) Mcomes_first.cl Mcomes_first.m Mcomes_first.G hr Mcomes_first.b .nil pass0 (pa_cons (pv 3) (pa_cons (pv 2) (pa_cons (pv 1) pa_nil))))))))))) (pss_one (ps_set (i := 2) sc_Table_leaving.nd rfl (.inl rfl) (pv 3))) pss_nil)))
      (pss_one (ps_ret (pv 2))))), ?_⟩
    have f1 : (tf n m S R Cc B D).lookup ("size" : Str) = some (.int n) := rfl
    have f4 : (tf n m S R Cc B D).lookup ("rows" : Str) = some (.ref R) := rfl
    have row : ∀ j, j < rows.length → ∃ r, (rs.map V.ref)[j]? = some (.ref r) ∧ H r = some (.lst ((rows.getD j []).map V.int)) ∧ (rows.getD j []).length = n + m + 1 := fun j hj => by
      have hr : rs[j]? = some (rs[j]'(by omega)) := List.getElem?_eq_getElem _
      obtain ⟨v, h1, h2⟩ := gR j _ hr
      have e : rows.getD j [] = v := by rw [List.getD_eq_getElem?_getD, h1]; rfl
      exact ⟨_, get_ref hr, e ▸ h2, e ▸ lw v (List.mem_of_getElem? h1)⟩
    refine ⟨_, rfl, p, C, dx, _, _, rfl, ep, T.cl, T.nS, f1, n, rfl, by omega, by omega, ?_⟩
    refine for_range (lo := 0) (n := n) (fun i σ H' => H' = H ∧ ∃ (y : Option V), (σ = [some (.ref p), some (.int (c : Int)), some .non, y] ∧ ∀ k, k < i → ¬ 0 < en (rows.getD k []) c) ∨ ∃ b : Nat, b < i ∧ σ = [some (.ref p), some (.int (c : Int)), some (.int (b : Int)), y] ∧ Lv n m rows basis c i b) ⟨rfl, _, .inl ⟨rfl, fun k hk => absurd hk (Nat.not_lt_zero k)⟩⟩ (fun i σ H' hi hP => ?_) (fun σ H' hP => ?_)
    · obtain ⟨rfl, y, hP⟩ := hP
      rw [show (0 : Int) + (i : Int) = ((i : Nat) : Int) from Int.zero_add _]
      obtain ⟨ri, gi, ei, li⟩ := row i (by omega)
      have ci := atI_en (xs := rows.getD i []) (j := c) (by omega)
      rcases hP with ⟨rfl, no⟩ | ⟨b, hb, rfl, L⟩
      · refine ⟨_, rfl, p, C, dx, _, _, rfl, ep, T.cl, T.nR, f4, _, rfl, R, _, (i : Int), _, rfl, rfl, SqL.of eR, atI_nat gi, _, rfl, ri, _, (c : Int), _, rfl, rfl, SqL.of ei, ci, _, _, rfl, rfl, _, rfl, ite2 (fun c1 => ?_) (fun c1 => ?_)⟩
        · have c1 := of_decide_eq_true c1
          refine ⟨_, rfl, _, rfl, iteT ⟨_, rfl, rfl, _, .inr ⟨i, by omega, rfl, c1, fun k hk pk => ?_⟩⟩⟩
          by_cases e : k = i
          · subst e
            exact ⟨Int.le_refl _, fun _ => Int.le_refl _⟩
          · exact absurd pk (no k (by omega))
        · refine ⟨rfl, _, .inl ⟨rfl, fun k hk => ?_⟩⟩
          by_cases e : k = i
          · subst e
            exact fun z => c1 (decide_eq_true z)
          · exact no k (by omega)
      · refine ⟨_, rfl, p, C, dx, _, _, rfl, ep, T.cl, T.nR, f4, _, rfl, R, _, (i : Int), _, rfl, rfl, SqL.of eR, atI_nat gi, _, rfl, ri, _, (c : Int), _, rfl, rfl, SqL.of ei, ci, _, _, rfl, rfl, _, rfl, ite2 (fun c1 => ?_) (fun c1 => ?_)⟩
        · have c1 := of_decide_eq_true c1
          refine ⟨_, rfl, _, rfl, iteF ?_⟩
          refine ⟨_, rfl, p, dx, _, rfl, ep, rfl, _, rfl, _, rfl, _, rfl, p, n, m, ss, rows, costs, basis, D, i, b, c, 0, rfl, TT, by omega, by omega, lb, lw, hc, big, fun t ht => ⟨_, rfl, ?_⟩⟩
          cases t with
          | true =>
            have ht := ht.mp rfl
            refine iteT ⟨_, rfl, rfl, _, .inr ⟨i, by omega, rfl, c1, fun k hk pk => ?_⟩⟩
            by_cases e : k = i
            · subst e
              exact ⟨Int.le_refl _, fun _ => Int.le_refl _⟩
            · obtain ⟨l1, l2⟩ := L.2 k (by omega) pk
              have le : en (rows.getD i []) (n + m) * en (rows.getD b []) c ≤ en (rows.getD b []) (n + m) * en (rows.getD i []) c := by
                rcases ht with h | h <;> omega
              obtain ⟨x1, x2⟩ := fr_tr' c1 L.1 pk le l1
              refine ⟨x1, fun z => ?_⟩
              obtain ⟨z1, z2⟩ := x2 z
              have := l2 z2
              rcases ht with h | h <;> omega
          | false =>
            have ht : ¬ _ := fun z => nomatch ht.mpr z
            refine iteF ⟨rfl, _, .inr ⟨b, by omega, rfl, L.1, fun k hk pk => ?_⟩⟩
            by_cases e : k = i
            · subst e
              exact ⟨by omega, fun z => by omega⟩
            · exact L.2 k (by omega) pk
        · refine ⟨rfl, _, .inr ⟨b, by omega, rfl, L.1, fun k hk pk => ?_⟩⟩
          by_cases e : k = i
          · subst e
            exact absurd (decide_eq_true pk) c1
          · exact L.2 k (by omega) pk
    · obtain ⟨rfl, y, hP⟩ := hP
      rcases hP with ⟨rfl, no⟩ | ⟨b, hb, rfl, L⟩
      · obtain ⟨k, hk, pk⟩ := ex
        exact absurd pk (no k hk)
      · exact ⟨_, rfl, q b hb L⟩
abbrev s_Table_parting : Stmt := inClass (topS 15) 8
theorem sc_Table_parting : FnScope ["self", "turn", "cost"] ["self"] (defScope s_Table_parting) := ⟨rfl, rfl, rfl, by decide +kernel, rfl, by decide +kernel, by decide +kernel⟩
def partD (ss costs : List Int) (D : Int) : List Int := (ss.zip costs).map fun q => q.1 * (q.2 - D)
def spPart (C : Addr) : Sp := fun vs H Q _ => ∃ (p : Addr) (n m : Nat) (ss : List Int) (rows : List (List Int)) (costs basis : List Int) (D : Int), vs = [.ref p] ∧ TO C H p n m ss rows costs basis D ∧ ss.length ≤ costs.length ∧ ss.length ≤ 500 ∧ D.natAbs < 2 ^ 1200 ∧ (∀ x ∈ ss, x.natAbs ≤ 1) ∧ (∀ x ∈ costs, x.natAbs < 2 ^ 1200) ∧
  ∀ (H' : Hp) (r : Addr), Same H H' → Vc H' r (partD ss costs D) → Q (.ref r) H'
theorem ok_part {f C : Addr} {fd : FuncData} {k : Nat} (F : Fun K "parting" "Table.parting" s_Table_parting f fd) (Z : Glb mg) (T : TCls K C) : FnOk P w K mg base CX0 (k + 1) f fd ["self"] (spPart C) := by
  refine F.ok sc_Table_parting (fun vs H Q E h => ?_) (fun cdv A outer s H vs Q E hr h => ?_)
  · obtain ⟨p, n, m, ss, rows, costs, basis, D, rfl, _⟩ := h
    rfl
  · obtain ⟨p, n, m, ss, rows, costs, basis, D, rfl, ⟨dx, S, R, Cc, B, rs, ep, eS, eR, lR, gR, eC, eB⟩, lsc, l5, hD, hs, hc, q⟩ := h
    refine ⟨_, (pss_one (ps_ret (pe_callTy call_tuple_of (by rfl) Z.m_tuple (by decide +kernel) (pa_cons (pe_lc (own := [("turn", 1), ("cost", 2)]) (g := gTup K 2 (gCons (gName 1) (gCons (gName 2) gNil))) (tt := tYes) (by rfl) sc_Table_parting.nd (pi_zipA (by rfl) Z.m_zip (pa_cons (pe_fld (pv 0) rfl) (pa_cons (pe_fld (pv 0) rfl) pa_nil))) (blkOk_by (own := [("turn", 1), ("cost", 2)]) (N := ["self", "turn", "cost"]) (sc := defScope s_Table_parting) (by first | decide +kernel | kernel_rfl)) (fun _ _ _ _ _ => (pg_tup rfl (pgs_cons (pg_name (i := 1) sc_Table_parting.nd rfl (.inl rfl)) (pgs_cons (pg_name (i := 2) sc_Table_parting.nd rfl (.inl rfl)) pgs_nil)))) (fun _ _ _ _ _ => pts_nil) (fun _ _ _ _ _ => (pe_op op_mulW (pv 1) (pe_op op_sub (pv 2) (pe_fldK (K := K) (pv 0) rfl))))) pa_nil)))), ?_⟩
    have f3 : (tf n m S R Cc B D).lookup ("signs" : Str) = some (.ref S) := rfl
    have f5 : (tf n m S R Cc B D).lookup ("costs" : Str) = some (.ref Cc) := rfl
    have f7 : (tf n m S R Cc B D).lookup ("divisor" : Str) = some (.int D) := rfl
    have cl : (partD ss costs D).length = ss.length := by
      unfold partD
      rw [List.length_map, List.length_zip]
      omega
    refine ⟨_, rfl, p, C, dx, _, _, rfl, ep, T.cl, T.nG, f3, _, rfl, p, C, dx, _, _, rfl, ep, T.cl, T.nC, f5, S, Cc, ss.map V.int, costs.map V.int, rfl, .inl ⟨SqL.of eS, SqL.of eC, fun E2 nE => ?_⟩⟩
    refine lc_it (walk_zip (xs := ss.map V.int) (ys := costs.map V.int) (n := ss.length) (by rw [List.length_map, List.length_map]; omega)) (fun i H' => Same H H' ∧ H' E2 = some (.lst (((partD ss costs D).take i).map V.int))) ⟨same_upd nE, upd_same⟩ (fun i H' _ hP => ⟨SqL.of (hP.1 _ _ eS), SqL.of (hP.1 _ _ eC)⟩) (fun i x H' H'' hi hP hY => ?_) (fun H' hP => ?_)
    · obtain ⟨s0, eE⟩ := hP
      obtain ⟨W, x1, y1, rfl, nW, rfl, hx, hy⟩ := hY
      obtain ⟨x, hn, rfl⟩ := map_get hx
      obtain ⟨y, hm', rfl⟩ := map_get hy
      refine ⟨W, [.int x, .int y], rfl, SqT.of upd_same, rfl, _, _, rfl, _, _, rfl, rfl, rfl, ?_⟩
      unfold tYes
      refine iteT ?_
      have hT : E2 ≠ W := ne_of_none eE nW
      have s1 : Same H (upd H' W (.tup [.int x, .int y])) := s0.trans (same_upd nW)
      have b3 := hs x (List.mem_of_getElem? hn)
      have b4 := hc y (List.mem_of_getElem? hm')
      have b5 : (y - D).natAbs < 2 ^ 1201 := by
        have : 2 ^ 1201 = 2 ^ 1200 + 2 ^ 1200 := by decide +kernel
        omega
      refine ⟨_, rfl, _, rfl, _, rfl, p, C, dx, _, _, rfl, s1 _ _ ep, T.cl, T.nD, f7, _, _, rfl, rfl, _, _, rfl, rfl, cmul (a := 1) (b := 1201) (Nat.lt_of_le_of_lt b3 (by decide)) b5, _, (by rw [upd_ne hT]; exact eE), ?_, fun z o hz => ?_, ?_⟩
      · rw [List.length_map, List.length_take]
        exact Nat.lt_of_le_of_lt (Nat.min_le_right _ _) (small1000 (by omega))
      · rw [upd_ne (ne_of_none hz nE)]
        exact s1 _ _ hz
      · rw [upd_same, take_get (x := x * (y - D)) (by unfold partD; rw [List.getElem?_map, List.getElem?_zip_eq_some (z := (x, y)) |>.mpr ⟨hn, hm'⟩]; rfl), List.map_append]
        rfl
    · obtain ⟨s0, eE⟩ := hP
      rw [← cl, List.take_length] at eE
      refine ⟨E2, _, rfl, .inl ⟨SqL.of eE, fun l nl => ?_⟩⟩
      exact q _ _ (s0.trans (same_upd nl)) upd_same
theorem en_last {v : List Int} {k : Nat} (hv : v.length = k + 1) : atI (v.map V.int) (-1) = some (.int (en v k)) := by
  have ne : v ≠ [] := fun z => by rw [z] at hv; cases hv
  have hi : k < v.length := by omega
  have en1 : en v k = v.getLast ne := by
    show v.getD k 0 = _
    rw [List.getD_eq_getElem?_getD, List.getElem?_eq_getElem hi, List.getLast_eq_getElem]
    show v[k] = _
    congr 1
    omega
  have e : v.dropLast ++ [en v k] = v := by rw [en1, List.dropLast_concat_getLast]
  have h := atI_last (v.dropLast.map V.int) (V.int (en v k))
  rw [show v.dropLast.map V.int ++ [V.int (en v k)] = (v.dropLast ++ [en v k]).map V.int by rw [List.map_append]; rfl, e] at h
  exact h
theorem ixNs {n j : Nat} (hj : j < n) : ixN n (j : Int) = some j := by
  unfold ixN
  rw [if_pos (by omega), if_pos (by omega)]
  rfl
abbrev s_Table_weights : Stmt := inClass (topS 15) 7
theorem sc_Table_weights : FnScope ["self", "found", "k", "column"] ["self"] (defScope s_Table_weights) := ⟨rfl, rfl, rfl, by decide +kernel, rfl, by decide +kernel, by decide +kernel⟩
/-- the weights after the first i rows -/
def Wts (n m : Nat) (rows : List (List Int)) (basis : List Int) (i : Nat) (w : List Int) : Prop := w.length = m ∧ ∀ j, j < m → (∃ k, k < i ∧ en basis k = (n : Int) + (j : Int) ∧ en w j = en (rows.getD k []) (n + m)) ∨ ((∀ k, k < i → en basis k ≠ (n : Int) + (j : Int)) ∧ en w j = 0)
def spWts (C : Addr) : Sp := fun vs H Q _ => ∃ (p : Addr) (n m : Nat) (ss : List Int) (rows : List (List Int)) (costs basis : List Int) (D : Int), vs = [.ref p] ∧ TO C H p n m ss rows costs basis D ∧ rows.length = n ∧ m ≤ 500 ∧ n ≤ 500 ∧ basis.length = rows.length ∧ (∀ v ∈ rows, v.length = n + m + 1) ∧ (∀ x ∈ basis, 0 ≤ x ∧ x < (n : Int) + (m : Int)) ∧
  ∀ (H' : Hp) (r : Addr) (w : List Int), Same H H' → Wts n m rows basis n w → Vc H' r w → Q (.ref r) H'
theorem ok_wts {f C : Addr} {fd : FuncData} {k : Nat} (F : Fun K "weights" "Table.weights" s_Table_weights f fd) (Z : Glb mg) (T : TCls K C) : FnOk P w K mg base CX0 (k + 1) f fd ["self"] (spWts C) := by
  refine F.ok sc_Table_weights (fun vs H Q E h => ?_) (fun cdv A outer s H vs Q E hr h => ?_)
  · obtain ⟨p, n, m, ss, rows, costs, basis, D, rfl, _⟩ := h
    rfl
  · obtain ⟨p, n, m, ss, rows, costs, basis, D, rfl, ⟨dx, S, R, Cc, B, rs, ep, eS, eR, lR, gR, eC, eB⟩, ln, m5, n5, lb, lw, hbas, q⟩ := h
    refine ⟨_, (pss_cut (ps_set (i := 1) sc_Table_weights.nd rfl (.inl rfl) (pe_op op_rep (pe_lst (pa_cons pe_int pa_nil)) (pe_fld (pv 0) rfl)))
      (pss_cut (ps_for PassesOwn.never rfl (pi_enum (by rfl) Z.m_enumerate (pa_cons (pe_fld (pv 0) rfl) pa_nil)) (pg_tup rfl (pgs_cons (pg_name (i := 2) sc_Table_weights.nd rfl (.inl rfl)) (pgs_cons (pg_name (i := 3) sc_Table_weights.nd rfl (.inl rfl)) pgs_nil))) (pss_one (ps_if (pt_cmpR op_ge (pv 3) (pe_fld (pv 0) rfl) (nomark _)) (pss_one (ps_asg (pe_ix (r := rIxL K) ix_list (pe_ix (r := rIxL K) ix_list (pe_fld (pv 0) rfl) (pv 2) (fun _ _ => rfl)) (pe_un un_neg pe_int) (fun _ _ => rfl)) (pg_sub (pv 1) (pe_op op_sub (pv 3) (pe_fld (pv 0) rfl)) set_list))) pss_nil)))
      (pss_one (ps_ret (pe_callTy call_tuple_of (by rfl) Z.m_tuple (by decide +kernel) (pa_cons (pv 1) pa_nil)))))), ?_⟩
    have f1 : (tf n m S R Cc B D).lookup ("size" : Str) = some (.int n) := rfl
    have f2 : (tf n m S R Cc B D).lookup ("many" : Str) = some (.int m) := rfl
    have f4 : (tf n m S R Cc B D).lookup ("rows" : Str) = some (.ref R) := rfl
    have f6 : (tf n m S R Cc B D).lookup ("basis" : Str) = some (.ref B) := rfl
    have en0 : ∀ j, en (List.replicate m (0 : Int)) j = 0 := fun j => by
      show (List.replicate m (0 : Int)).getD j 0 = 0
      rw [List.getD_eq_getElem?_getD, List.getElem?_replicate]
      split <;> rfl
    refine ⟨fun σ H' => ∃ u : Addr, σ = [some (.ref p), some (.ref u), none, none] ∧ Same H H' ∧ H u = none ∧ H' u = some (.lst ((List.replicate m (0 : Int)).map V.int)), ?_, ?_⟩
    · refine ⟨(show 1 ≤ sizeLine by decide), fun z nz => ?_⟩
      have sz := same_upd (o := .lst [V.int 0]) nz
      refine ⟨_, rfl, p, C, dx, _, _, rfl, sz _ _ ep, T.cl, T.nM, f2, z, _, _, rfl, rfl, upd_same, by omega, by omega, ?_, fun u nu => ?_⟩
      · exact Nat.le_of_lt (small1000 (by show 1 * _ ≤ 1000; omega))
      refine ⟨u, rfl, sz.trans (same_upd nu), sz.free nu, ?_⟩
      rw [upd_same]
      have : ∀ m : Nat, (List.replicate m [V.int 0]).flatten = (List.replicate m (0 : Int)).map V.int := fun m => by
        induction m with
        | zero => rfl
        | succ m ih =>
          rw [List.replicate_succ, List.replicate_succ, List.flatten_cons, ih]
          rfl
      exact congrArg (fun l => some (HO.lst l)) (this m)
    rintro σ H1 ⟨u, rfl, s1, nu, eu⟩
    refine ⟨fun σ H' => ∃ (y2 y3 : Option V) (w : List Int), σ = [some (.ref p), some (.ref u), y2, y3] ∧ Same H H' ∧ H' u = some (.lst (w.map V.int)) ∧ Wts n m rows basis n w, ?_, ?_⟩
    · refine ⟨_, rfl, p, C, dx, _, _, rfl, s1 _ _ ep, T.cl, T.nB, f6, B, _, rfl, SqL.of (s1 _ _ eB), ?_⟩
      refine for_it (walk_enum (xs := basis.map V.int)) (fun i σ H' => ∃ (y2 y3 : Option V) (w : List Int), σ = [some (.ref p), some (.ref u), y2, y3] ∧ Same H H' ∧ H' u = some (.lst (w.map V.int)) ∧ Wts n m rows basis i w) ⟨none, none, _, rfl, s1, eu, by rw [List.length_replicate], fun j _ => .inr ⟨fun k hk => absurd hk (Nat.not_lt_zero k), en0 j⟩⟩ (fun i σ H' _ hP => ?_) (fun i x σ H' H'' hi hP hY => ?_) (fun σ H' hP => ?_)
      · obtain ⟨_, _, _, _, s, _⟩ := hP
        exact SqL.of (s _ _ eB)
      · obtain ⟨y2, y3, w, rfl, s2, ew, lw', hw⟩ := hP
        obtain ⟨W, x1, y1, rfl, nW, rfl, hx, hy⟩ := hY
        obtain ⟨b, hb1, rfl⟩ := map_get hy
        cases hx
        have hil := lt_of_get hb1
        have eb : en basis i = b := by
          show basis.getD i 0 = b
          rw [List.getD_eq_getElem?_getD, hb1]
          rfl
        obtain ⟨b0, b1⟩ := hbas b (List.mem_of_getElem? hb1)
        have sW := same_upd (o := .tup [.int (i : Int), .int b]) nW
        have sT := s2.trans sW
        have ew2 := sW _ _ ew
        refine ⟨W, _, rfl, SqT.of upd_same, rfl, _, _, rfl, _, _, rfl, rfl, ?_⟩
        refine ⟨_, rfl, _, rfl, p, C, dx, _, _, rfl, sT _ _ ep, T.cl, T.nS, f1, _, _, rfl, rfl, _, rfl, ite2 (fun c => ?_) (fun c => ?_)⟩
        · have c := of_decide_eq_true c
          obtain ⟨j, hj⟩ : ∃ j : Nat, b = (n : Int) + (j : Int) := ⟨(b - n).toNat, by omega⟩
          have hr : rs[i]? = some (rs[i]'(by omega)) := List.getElem?_eq_getElem _
          obtain ⟨v, h1, h2⟩ := gR i _ hr
          have ev : rows.getD i [] = v := by rw [List.getD_eq_getElem?_getD, h1]; rfl
          refine ⟨_, rfl, p, C, dx, _, _, rfl, sT _ _ ep, T.cl, T.nR, f4, _, rfl, R, _, (i : Int), _, rfl, rfl, SqL.of (sT _ _ eR), atI_nat (get_ref hr), _, rfl, _, _, (-1), _, rfl, rfl, SqL.of (sT _ _ h2), en_last (lw v (List.mem_of_getElem? h1)), ?_⟩
          refine ⟨_, rfl, _, rfl, _, rfl, p, C, dx, _, _, rfl, sT _ _ ep, T.cl, T.nS, f1, _, _, rfl, rfl, u, _, _, j, rfl, rfl, ew2, ?_, ?_⟩
          · rw [hj, show (n : Int) + (j : Int) - (n : Int) = (j : Int) by omega]
            exact ixNs (by rw [List.length_map]; omega)
          refine ⟨_, _, w.set j (en v (n + m)), rfl, fun y o hy => ?_, ?_, by rw [List.length_set]; exact lw', fun l hl => ?_⟩
          · by_cases yu : y = u
            · rw [yu, nu] at hy
              cases hy
            · rw [upd_ne yu]
              exact sT _ _ hy
          · rw [upd_same, List.map_set]
          · have es : en (w.set j (en v (n + m))) l = if j = l then en v (n + m) else en w l := by
              show (w.set j (en v (n + m))).getD l 0 = if j = l then en v (n + m) else w.getD l 0
              rw [List.getD_eq_getElem?_getD, List.getD_eq_getElem?_getD, List.getElem?_set]
              by_cases e : j = l
              · rw [if_pos e, if_pos (by omega), if_pos e]
                rfl
              · rw [if_neg e, if_neg e]
            by_cases e : j = l
            · subst e
              exact .inl ⟨i, by omega, eb.trans hj, by rw [es, if_pos rfl, ev]⟩
            · rw [es, if_neg e]
              rcases hw l hl with ⟨k', h1, h2, h3⟩ | ⟨h1, h2⟩
              · exact .inl ⟨k', by omega, h2, h3⟩
              · refine .inr ⟨fun k' hk => ?_, h2⟩
                by_cases ek : k' = i
                · subst ek
                  rw [eb, hj]
                  omega
                · exact h1 k' (by omega)
        · have c : ¬ (n : Int) ≤ b := fun z => c (decide_eq_true z)
          refine ⟨_, _, w, rfl, sT, ew2, lw', fun l hl => ?_⟩
          rcases hw l hl with ⟨k', h1, h2, h3⟩ | ⟨h1, h2⟩
          · exact .inl ⟨k', by omega, h2, h3⟩
          · refine .inr ⟨fun k' hk => ?_, h2⟩
            by_cases ek : k' = i
            · subst ek
              rw [eb]
              omega
            · exact h1 k' (by omega)
      · obtain ⟨y2, y3, w, rfl, s2, ew, hw⟩ := hP
        rw [List.length_map, lb, ln] at hw
        exact ⟨_, _, w, rfl, s2, ew, hw⟩
    rintro σ H2 ⟨y2, y3, w, rfl, s2, ew, hw⟩
    refine ⟨_, rfl, u, _, rfl, .inl ⟨SqL.of ew, fun l nl => ?_⟩⟩
    exact q _ _ w (s2.trans (same_upd nl)) hw upd_same

open Rk
/-! ### Table.exchange -/
/-- rows told as lists -/
def LLr (H : Hp) (rs : List Addr) (rows : List (List Int)) : Prop := rs.length = rows.length ∧ ∀ (i : Nat) (r : Addr), rs[i]? = some r → ∃ v, rows[i]? = some v ∧ H r = some (.lst (v.map V.int))
theorem LLr.keep {H H' : Hp} {rs : List Addr} {rows : List (List Int)} (h : LLr H rs rows) (k : ∀ r ∈ rs, ∀ o, H r = some o → H' r = some o) : LLr H' rs rows :=
  ⟨h.1, fun i r hr => by
    obtain ⟨v, h1, h2⟩ := h.2 i r hr
    exact ⟨v, h1, k r (List.mem_of_getElem? hr) _ h2⟩⟩
theorem LLr.push {H : Hp} {rs : List Addr} {rows : List (List Int)} (h : LLr H rs rows) {r : Addr} {v : List Int} (hr : H r = some (.lst (v.map V.int))) : LLr H (rs ++ [r]) (rows ++ [v]) := by
  refine ⟨by rw [List.length_append, List.length_append, h.1]; rfl, fun i t ht => ?_⟩
  by_cases hi : i < rs.length
  · rw [List.getElem?_append_left hi] at ht
    rw [List.getElem?_append_left (by have := h.1; omega)]
    exact h.2 i t ht
  · rw [List.getElem?_append_right (by omega)] at ht
    have hl := lt_of_get ht
    rw [List.length_singleton] at hl
    rw [List.getElem?_append_right (by have := h.1; omega), ← h.1]
    rw [show i - rs.length = 0 by omega] at ht ⊢
    cases ht
    exact ⟨v, rfl, hr⟩
/-- the table at p with its basis at B, apart from the rest -/
def TOb (C : Addr) (H : Hp) (p B : Addr) (n m : Nat) (ss : List Int) (rows : List (List Int)) (costs basis : List Int) (D : Int) : Prop := ∃ (dx S R Cc : Addr) (rs : List Addr), H p = some (.ins C dx (tf n m S R Cc B D)) ∧ H S = some (.lst (ss.map V.int)) ∧ H R = some (.lst (rs.map V.ref)) ∧ LLr H rs rows ∧ H Cc = some (.lst (costs.map V.int)) ∧ H B = some (.lst (basis.map V.int)) ∧ S ≠ B ∧ R ≠ B ∧ Cc ≠ B ∧ ∀ r ∈ rs, r ≠ B
theorem TOb.to {C : Addr} {H : Hp} {p B : Addr} {n m : Nat} {ss : List Int} {rows : List (List Int)} {costs basis : List Int} {D : Int} (h : TOb C H p B n m ss rows costs basis D) : TO C H p n m ss rows costs basis D := by
  obtain ⟨dx, S, R, Cc, rs, e1, e2, e3, e4, e5, e6, _⟩ := h
  exact ⟨dx, S, R, Cc, B, rs, e1, e2, e3, e4.1, e4.2, e5, e6⟩
theorem TOb.same {C : Addr} {H H' : Hp} {p B : Addr} {n m : Nat} {ss : List Int} {rows : List (List Int)} {costs basis : List Int} {D : Int} (h : TOb C H p B n m ss rows costs basis D) (s : Same H H') : TOb C H' p B n m ss rows costs basis D := by
  obtain ⟨dx, S, R, Cc, rs, e1, e2, e3, e4, e5, e6, n1, n2, n3, n4⟩ := h
  exact ⟨dx, S, R, Cc, rs, s _ _ e1, s _ _ e2, s _ _ e3, e4.keep fun r _ o ho => s _ _ ho, s _ _ e5, s _ _ e6, n1, n2, n3, n4⟩
/-- what stays but for two objects -/
def Kp2 (p B : Addr) (H H' : Hp) : Prop := ∀ x o, x ≠ p → x ≠ B → H x = some o → H' x = some o
def exR (rows : List (List Int)) (a c : Nat) (D : Int) : List (List Int) := (List.range rows.length).map fun k => if k = a then rows.getD k [] else clrD (rows.getD k []) (rows.getD a []) c D
abbrev s_Table_exchange : Stmt := inClass (topS 15) 5
theorem sc_Table_exchange : FnScope ["self", "at", "column", "lead", "k", "row"] ["self", "at", "column"] (defScope s_Table_exchange) := ⟨rfl, rfl, rfl, by decide +kernel, rfl, by decide +kernel, by decide +kernel⟩
def spExch (C : Addr) : Sp := fun vs H Q _ => ∃ (p B : Addr) (n m : Nat) (ss : List Int) (rows : List (List Int)) (costs basis : List Int) (D : Int) (a c : Nat), vs = [.ref p, .int (a : Int), .int (c : Int)] ∧ TOb C H p B n m ss rows costs basis D ∧ a < rows.length ∧ rows.length ≤ 500 ∧ basis.length = rows.length ∧ n + m + 1 ≤ 500 ∧ (∀ v ∈ rows, v.length = n + m + 1) ∧ costs.length = n + m + 1 ∧ c < n + m + 1 ∧ 0 < D ∧ D.natAbs < 2 ^ 1200 ∧ (∀ v ∈ rows, ∀ x ∈ v, x.natAbs < 2 ^ 1200) ∧ (∀ x ∈ costs, x.natAbs < 2 ^ 1200) ∧
  ∀ H' : Hp, Kp2 p B H H' → TOb C H' p B n m ss (exR rows a c D) (clrD costs (rows.getD a []) c D) (basis.set a (c : Int)) (en (rows.getD a []) c) → Q .non H'
theorem ok_exch {f C : Addr} {fd : FuncData} {k : Nat} (F : Fun K "exchange" "Table.exchange" s_Table_exchange f fd) (Z : Glb mg) (T : TCls K C) (Mcleared : MCall P w K mg base k C "cleared" ["self", "row", "lead", "column"] (spClrT C)) : FnOk P w K mg base CX0 (k + 1) f fd ["self", "at", "column"] (spExch C) := by
  refine F.ok sc_Table_exchange (fun vs H Q E h => ?_) (fun cdv A outer s H vs Q E hr h => ?_)
  · obtain ⟨p, B, n, m, ss, rows, costs, basis, D, a, c, rfl, _⟩ := h
    rfl
  · obtain ⟨p, B, n, m, ss, rows, costs, basis, D, a, c, rfl, TT, ha, r5, lb, nm, lw, lc, hc, D0, hD, big, bigc, q⟩ := h
    obtain ⟨dx, S, R, Cc, rs, ep, eS, eR, hL, eC, eB, nS, nR, nC, nr⟩ := id TT
    have lR := hL.1
    have lr0 : rows.getD a [] ∈ rows := by
      rw [List.getD_eq_getElem?_getD, List.getElem?_eq_getElem ha]
      exact List.getElem_mem _
    have ll := lw _ lr0
    have hra : rs[a]? = some (rs[a]'(by omega)) := List.getElem?_eq_getElem _
    obtain ⟨la, hla⟩ : ∃ la, rs[a]? = some la := ⟨_, hra⟩
    have ela : H la = some (.lst ((rows.getD a []).map V.int)) := by
      obtain ⟨v, h1, h2⟩ := hL.2 a la hla
      rw [show rows.getD a [] = v by rw [List.getD_eq_getElem?_getD, h1]; rfl]
      exact h2
    have nep : ∀ {x : Addr} {xs : List V}, H x = some (.lst xs) → x ≠ p := fun {x xs} h z => by
      rw [z, ep] at h
      cases h
    refine ⟨_, (pss_cut (ps_set (i := 3) sc_Table_exchange.nd rfl (.inr rfl) (pe_ix (r := rIxL K) ix_list (pe_fld (pv 0) rfl) (pv 1) (fun _ _ => rfl)))
      (pss_cut (ps_fld (pv 0) (pe_lc (own := [("k", 4), ("row", 5)]) (g := gTup K 2 (gCons (gName 4) (gCons (gName 5) gNil))) (tt := tYes) (by rfl) sc_Table_exchange.nd (pi_enum (by rfl) Z.m_enumerate (pa_cons (pe_fld (pv 0) rfl) pa_nil)) (blkOk_by (own := [("k", 4), ("row", 5)]) (N := ["self", "at", "column", "lead", "k", "row"]) (sc := defScope s_Table_exchange) (by first | decide +kernel | kernel_rfl)) (fun _ _ _ _ _ => (pg_tup rfl (pgs_cons (pg_name (i := 4) sc_Table_exchange.nd rfl (.inl rfl)) (pgs_cons (pg_name (i := 5) sc_Table_exchange.nd rfl (.inl rfl)) pgs_nil)))) (fun _ _ _ _ _ => pts_nil) (fun _ _ _ _ _ => (pe_ifExp (pt_cmpR op_eq (pv 4) (pv 1) (nomark _)) (pv 5) (pe_meth (pv 0) Mcleared.cl Mcleared.m Mcleared.G hr Mcleared.b .nil pass0 (pa_cons (pv 5) (pa_cons (pv 3) (pa_cons (pv 2) pa_nil))))))) rfl)
      (pss_cut (ps_fld (pv 0) (pe_meth (pv 0) Mcleared.cl Mcleared.m Mcleared.G hr Mcleared.b .nil pass0 (pa_cons (pe_fld (pv 0) rfl) (pa_cons (pv 3) (pa_cons (pv 2) pa_nil)))) rfl)
      (pss_cut (ps_asg (pv 2) (pg_sub (pe_fld (pv 0) rfl) (pv 1) set_list))
      (pss_one (ps_fld (pv 0) (pe_ix (r := rIxL K) ix_list (pv 3) (pv 2) (fun _ _ => rfl)) rfl)))))), ?_⟩
    have f4 : (tf n m S R Cc B D).lookup ("rows" : Str) = some (.ref R) := rfl
    -- lead
    refine ⟨fun σ H' => σ = [some (.ref p), some (.int (a : Int)), some (.int (c : Int)), some (.ref la), none, none] ∧ H' = H, ⟨_, rfl, p, C, dx, _, _, rfl, ep, T.cl, T.nR, f4, _, rfl, R, _, (a : Int), _, rfl, rfl, SqL.of eR, atI_nat (get_ref hla), rfl, rfl⟩, ?_⟩
    rintro σ H1 ⟨rfl, rfl⟩
    -- rows
    refine ⟨fun σ H' => ∃ (E2 : Addr) (qs : List Addr) (H2 : Hp), σ = [some (.ref p), some (.int (a : Int)), some (.int (c : Int)), some (.ref la), none, none] ∧ Same H1 H2 ∧ H1 E2 = none ∧ H2 E2 = some (.lst (qs.map V.ref)) ∧ LLr H2 qs (exR rows a c D) ∧ (∀ r ∈ qs, r ≠ B ∧ r ≠ p) ∧ H' = upd H2 p (.ins C dx (tf n m S E2 Cc B D)), ?_, ?_⟩
    · refine ⟨_, rfl, p, C, dx, _, _, rfl, ep, T.cl, T.nR, f4, R, _, rfl, SqL.of eR, fun E2 nE => ?_⟩
      refine lc_it (walk_enum (xs := rs.map V.ref)) (fun i H' => Same H1 H' ∧ ∃ qs : List Addr, H' E2 = some (.lst (qs.map V.ref)) ∧ LLr H' qs ((exR rows a c D).take i) ∧ ∀ r ∈ qs, r ≠ B ∧ r ≠ p ∧ r ≠ E2) ⟨same_upd nE, [], upd_same, ⟨rfl, fun i r hr => nomatch hr⟩, fun r h => nomatch h⟩ (fun i H' _ hP => SqL.of (hP.1 _ _ eR)) (fun i x H' H'' hi hP hY => ?_) (fun H' hP => ?_)
      · obtain ⟨s0, qs, eQ, hQ, nq⟩ := hP
        obtain ⟨W, x1, y1, rfl, nW, rfl, hx, hy⟩ := hY
        obtain ⟨r, hr1, rfl⟩ := ref_get hy
        cases hx
        obtain ⟨v, ev, hv⟩ := hL.2 _ _ hr1
        have hil := lt_of_get ev
        have mv := List.mem_of_getElem? ev
        have gv : rows.getD i [] = v := by rw [List.getD_eq_getElem?_getD, ev]; rfl
        have sW := same_upd (o := .tup [.int (i : Int), .ref r]) nW
        have sT := s0.trans sW
        have eQ2 := sW _ _ eQ
        have lq : qs.length < sizeLine := by
          rw [hQ.1, List.length_take]
          exact Nat.lt_of_le_of_lt (Nat.min_le_left _ _) (small1000 (by omega))
        have gx : (exR rows a c D)[i]? = some (if i = a then rows.getD i [] else clrD (rows.getD i []) (rows.getD a []) c D) := by
          unfold exR
          rw [List.getElem?_map, List.getElem?_range hil]
          rfl
        refine ⟨W, _, rfl, SqT.of upd_same, rfl, _, _, rfl, _, _, rfl, rfl, rfl, ?_⟩
        unfold tYes
        refine iteT ?_
        generalize upd H' W (.tup [.int (i : Int), .ref r]) = H6 at *
        have hQ6 : LLr H6 qs ((exR rows a c D).take i) := hQ.keep fun r _ o ho => sW _ _ ho
        refine ⟨_, rfl, _, rfl, rfl, _, rfl, ite2 (fun c1 => ?_) (fun c1 => ?_)⟩
        · have c1 : i = a := by
            have := V.int.inj (of_decide_eq_true c1)
            omega
          have nrE : r ≠ E2 := fun z => by
            rw [z, nE] at hv
            cases hv
          refine ⟨_, rfl, _, eQ2, by rw [List.length_map]; exact lq, fun y o hy => ?_, qs ++ [r], by rw [upd_same, List.map_append]; rfl, ?_, fun t ht => ?_⟩
          · rw [upd_ne (ne_of_none hy nE)]
            exact sT _ _ hy
          · rw [take_get gx, if_pos c1, gv]
            exact (hQ6.keep fun t ht o ho => by rw [upd_ne (nq t ht).2.2]; exact ho).push (by rw [upd_ne nrE]; exact sT _ _ hv)
          · rcases List.mem_append.mp ht with ht | ht
            · exact nq t ht
            · rw [List.mem_singleton.mp ht]
              exact ⟨nr r (List.mem_of_getElem? hr1), nep hv, nrE⟩
        · have c1 : ¬ i = a := fun z => c1 (decide_eq_true (by rw [z]))
          refine ⟨_, rfl, p, dx, _, rfl, sT _ _ ep, rfl, _, rfl, _, rfl, _, rfl, p, r, la, n, m, ss, rows, costs, basis, D, v, rows.getD a [], c, rfl, (TT.same sT).to, sT _ _ hv, sT _ _ ela, by rw [lw v mv, ll], by rw [lw v mv]; exact hc, by rw [lw v mv]; exact nm, D0, hD, big v mv, big _ lr0, fun H7 r7 s7 e7 n7 => ?_⟩
          have n7E : r7 ≠ E2 := fun z => by
            rw [z, eQ2] at n7
            cases n7
          have n7B : r7 ≠ B := fun z => by
            rw [z, sT _ _ eB] at n7
            cases n7
          have n7p : r7 ≠ p := fun z => by
            rw [z, sT _ _ ep] at n7
            cases n7
          refine ⟨_, s7 _ _ eQ2, by rw [List.length_map]; exact lq, fun y o hy => ?_, qs ++ [r7], by rw [upd_same, List.map_append]; rfl, ?_, fun t ht => ?_⟩
          · rw [upd_ne (ne_of_none hy nE)]
            exact s7 _ _ (sT _ _ hy)
          · rw [take_get gx, if_neg c1, gv]
            exact (hQ6.keep fun t ht o ho => by rw [upd_ne (nq t ht).2.2]; exact s7 _ _ ho).push (by rw [upd_ne n7E]; exact e7)
          · rcases List.mem_append.mp ht with ht | ht
            · exact nq t ht
            · rw [List.mem_singleton.mp ht]
              exact ⟨n7B, n7p, n7E⟩
      · obtain ⟨s0, qs, eQ, hQ, nq⟩ := hP
        have le : (exR rows a c D).length = (rs.map V.ref).length := by
          unfold exR
          rw [List.length_map, List.length_map, List.length_range, lR]
        rw [← le, List.take_length] at hQ
        refine ⟨_, rfl, p, C, dx, _, rfl, s0 _ _ ep, T.cl, T.nR, (by show 7 < 1000; decide), ?_⟩
        exact ⟨E2, qs, H', rfl, s0, nE, eQ, hQ, fun r hr => ⟨(nq r hr).1, (nq r hr).2.1⟩, rfl⟩
    rintro σ H3 ⟨E2, qs, H2, rfl, s2, nE, eE, hQ, nq, rfl⟩
    have nEB : E2 ≠ B := fun z => by
      rw [z, eB] at nE
      cases nE
    have nEp : E2 ≠ p := fun z => by
      rw [z, ep] at nE
      cases nE
    have up : ∀ {x : Addr} {xs : List V}, H1 x = some (.lst xs) → upd H2 p (.ins C dx (tf n m S E2 Cc B D)) x = some (.lst xs) := fun {x xs} h => by
      rw [upd_ne (nep h)]
      exact s2 _ _ h
    have T3 : TOb C (upd H2 p (.ins C dx (tf n m S E2 Cc B D))) p B n m ss (exR rows a c D) costs basis D :=
      ⟨dx, S, E2, Cc, qs, upd_same, up eS, by rw [upd_ne nEp]; exact eE, hQ.keep fun r hr o ho => by rw [upd_ne (nq r hr).2]; exact ho, up eC, up eB, nS, nEB, nC, fun r hr => (nq r hr).1⟩
    have ela3 := up ela
    have eC3 := up eC
    have e3 : upd H2 p (.ins C dx (tf n m S E2 Cc B D)) p = some (.ins C dx (tf n m S E2 Cc B D)) := upd_same
    have k3 : ∀ x o, x ≠ p → x ≠ B → H1 x = some o → upd H2 p (.ins C dx (tf n m S E2 Cc B D)) x = some o := fun x o h1 _ h3 => by
      rw [upd_ne h1]
      exact s2 _ _ h3
    have eS3 := up eS
    have eB3 := up eB
    have eE3 : upd H2 p (.ins C dx (tf n m S E2 Cc B D)) E2 = some (.lst (qs.map V.ref)) := by rw [upd_ne nEp]; exact eE
    have hQ3 : LLr (upd H2 p (.ins C dx (tf n m S E2 Cc B D))) qs (exR rows a c D) := hQ.keep fun r hr o ho => by rw [upd_ne (nq r hr).2]; exact ho
    generalize upd H2 p (.ins C dx (tf n m S E2 Cc B D)) = H3 at *
    -- costs
    have f5 : (tf n m S E2 Cc B D).lookup ("costs" : Str) = some (.ref Cc) := rfl
    refine ⟨fun σ H' => ∃ (C2 : Addr) (H4 : Hp), σ = [some (.ref p), some (.int (a : Int)), some (.int (c : Int)), some (.ref la), none, none] ∧ Same H3 H4 ∧ H3 C2 = none ∧ H4 C2 = some (.lst ((clrD costs (rows.getD a []) c D).map V.int)) ∧ H' = upd H4 p (.ins C dx (tf n m S E2 C2 B D)), ?_, ?_⟩
    · refine ⟨_, rfl, p, dx, _, rfl, e3, rfl, _, rfl, p, C, dx, _, _, rfl, e3, T.cl, T.nC, f5, _, rfl, _, rfl, p, Cc, la, n, m, ss, exR rows a c D, costs, basis, D, costs, rows.getD a [], c, rfl, T3.to, eC3, ela3, by rw [lc, ll], by omega, by omega, D0, hD, bigc, big _ lr0, fun H5 r5 s5 e5 n5 => ?_⟩
      exact ⟨_, rfl, p, C, dx, _, rfl, s5 _ _ e3, T.cl, T.nC, (by show 7 < 1000; decide), r5, H5, rfl, s5, n5, e5, rfl⟩
    rintro σ H5 ⟨C2, H4, rfl, s4, nC2, eC2, rfl⟩
    have nCp : C2 ≠ p := fun z => by
      rw [z, e3] at nC2
      cases nC2
    have nCB : C2 ≠ B := fun z => by
      rw [z, eB3] at nC2
      cases nC2
    have nBp : B ≠ p := nep eB
    -- basis
    have f6 : (tf n m S E2 C2 B D).lookup ("basis" : Str) = some (.ref B) := rfl
    have e5 : upd H4 p (.ins C dx (tf n m S E2 C2 B D)) p = some (.ins C dx (tf n m S E2 C2 B D)) := upd_same
    have k5 : ∀ x o, x ≠ p → H3 x = some o → upd H4 p (.ins C dx (tf n m S E2 C2 B D)) x = some o := fun x o h1 h3 => by
      rw [upd_ne h1]
      exact s4 _ _ h3
    have eC5 : upd H4 p (.ins C dx (tf n m S E2 C2 B D)) C2 = some (.lst ((clrD costs (rows.getD a []) c D).map V.int)) := by rw [upd_ne nCp]; exact eC2
    generalize upd H4 p (.ins C dx (tf n m S E2 C2 B D)) = H5 at *
    refine ⟨fun σ H' => σ = [some (.ref p), some (.int (a : Int)), some (.int (c : Int)), some (.ref la), none, none] ∧ H' = upd H5 B (.lst ((basis.set a (c : Int)).map V.int)), ?_, ?_⟩
    · refine ⟨_, rfl, _, rfl, p, C, dx, _, _, rfl, e5, T.cl, T.nB, f6, _, rfl, B, _, _, a, rfl, rfl, k5 _ _ nBp eB3, ixNs (by rw [List.length_map]; omega), rfl, ?_⟩
      rw [List.map_set]
    rintro σ H6 ⟨rfl, rfl⟩
    -- divisor
    have laB : la ≠ B := nr la (List.mem_of_getElem? hla)
    have lap : la ≠ p := nep ela
    have e6 : upd H5 B (.lst ((basis.set a (c : Int)).map V.int)) p = some (.ins C dx (tf n m S E2 C2 B D)) := by
      rw [upd_ne fun z => nBp z.symm]
      exact e5
    have eB6 : upd H5 B (.lst ((basis.set a (c : Int)).map V.int)) B = some (.lst ((basis.set a (c : Int)).map V.int)) := upd_same
    have k6 : ∀ x o, x ≠ p → x ≠ B → H3 x = some o → upd H5 B (.lst ((basis.set a (c : Int)).map V.int)) x = some o := fun x o h1 h2 h3 => by
      rw [upd_ne h2]
      exact k5 x o h1 h3
    have eC6 : upd H5 B (.lst ((basis.set a (c : Int)).map V.int)) C2 = some (.lst ((clrD costs (rows.getD a []) c D).map V.int)) := by rw [upd_ne nCB]; exact eC5
    generalize upd H5 B (.lst ((basis.set a (c : Int)).map V.int)) = H6 at *
    refine ⟨_, rfl, _, rfl, la, _, (c : Int), _, rfl, rfl, SqL.of (k6 _ _ lap laB ela3), atI_en (by omega), _, rfl, p, C, dx, _, rfl, e6, T.cl, T.nD, (by show 7 < 1000; decide), ?_⟩
    refine q _ (fun x o h1 h2 h3 => ?_) ⟨dx, S, E2, C2, qs, upd_same, ?_, ?_, hQ3.keep fun r hr o ho => ?_, ?_, ?_, nS, nEB, nCB, fun r hr => (nq r hr).1⟩
    · rw [upd_ne h1]
      exact k6 x o h1 h2 (k3 x o h1 h2 h3)
    · rw [upd_ne (nep eS)]
      exact k6 _ _ (nep eS) nS eS3
    · rw [upd_ne nEp]
      exact k6 _ _ nEp nEB eE3
    · rw [upd_ne (nq r hr).2]
      exact k6 _ _ (nq r hr).2 (nq r hr).1 ho
    · rw [upd_ne nCp]
      exact eC6
    · rw [upd_ne nBp]
      exact eB6

open Rk
/-! ### Table.first_row and Table.__init__ -/
abbrev s_Table_first_row : Stmt := inClass (topS 15) 1
theorem sc_Table_first_row : FnScope ["self", "vectors", "target", "at", "turn", "helpers", "k", "vector"] ["self", "vectors", "target", "at"] (defScope s_Table_first_row) := ⟨rfl, rfl, rfl, by decide +kernel, rfl, by decide +kernel, by decide +kernel⟩
def unitN (n a : Nat) : List Int := (List.range n).map fun k => if k = a then 1 else 0
def frow (n : Nat) (vs : List (List Int)) (t : List Int) (s : Int) (a : Nat) : List Int := unitN n a ++ vs.map (fun v => s * en v a) ++ [s * en t a]
def spFrw (C : Addr) : Sp := fun vs H Q _ => ∃ (p va ta dx S : Addr) (fs : List (Str × V)) (n a : Nat) (ss : List Int) (us : List (List Int)) (t : List Int), vs = [.ref p, .ref va, .ref ta, .int (a : Int)] ∧ H p = some (.ins C dx fs) ∧ fs.lookup ("size" : Str) = some (.int (n : Int)) ∧ fs.lookup ("signs" : Str) = some (.ref S) ∧ H S = some (.lst (ss.map V.int)) ∧ VL H va us ∧ Vc H ta t ∧ a < n ∧ ss.length = n ∧ t.length = n ∧ n ≤ 200 ∧ us.length ≤ 200 ∧ (∀ u ∈ us, u.length = n) ∧ (∀ x ∈ ss, x.natAbs ≤ 1) ∧ (∀ u ∈ us, ∀ x ∈ u, x.natAbs < 2 ^ 200) ∧ (∀ x ∈ t, x.natAbs < 2 ^ 200) ∧
  ∀ (H' : Hp) (r : Addr), Same H H' → H r = none → H' r = some (.lst ((frow n us t (en ss a) a).map V.int)) → Q (.ref r) H'
theorem ok_frw {f C : Addr} {fd : FuncData} {k : Nat} (F : Fun K "first_row" "Table.first_row" s_Table_first_row f fd) (Z : Glb mg) (T : TCls K C) : FnOk P w K mg base CX0 (k + 1) f fd ["self", "vectors", "target", "at"] (spFrw C) := by
  refine F.ok sc_Table_first_row (fun vs H Q E h => ?_) (fun cdv A outer s H vs Q E hr h => ?_)
  · obtain ⟨p, va, ta, dx, S, fs, n, a, ss, us, t, rfl, _⟩ := h
    rfl
  · obtain ⟨p, va, ta, dx, S, fs, n, a, ss, us, t, rfl, ep, f1, f3, eS, hV, hT, ha, lss, lt, n2, u2, lu, bs, bu, bt, q⟩ := h
    refine ⟨_, (pss_cut (ps_set (i := 4) sc_Table_first_row.nd rfl (.inr rfl) (pe_ix (r := rIxL K) ix_list (pe_fld (pv 0) rfl) (pv 3) (fun _ _ => rfl)))
      (pss_cut (ps_setLc (i := 5) (own := [("k", 6)]) (g := gName 6) (tt := tYes) (by rfl) sc_Table_first_row.nd rfl rfl (sw_true rfl rfl rfl (by decide +kernel)) (pi_range1 rfl Z.m_range (pa_cons (pe_fld (pv 0) rfl) pa_nil)) (blkOk_by (own := [("k", 6)]) (N := ["self", "vectors", "target", "at", "turn", "helpers", "k", "vector"]) (sc := defScope s_Table_first_row) (by first | decide +kernel | kernel_rfl)) (fun _ _ _ _ _ => (pg_name (i := 6) sc_Table_first_row.nd rfl (.inl rfl))) (fun _ _ _ _ _ => pts_nil) (fun _ _ _ _ _ => (pe_ifExp (pt_cmpR op_eq (pv 6) (pv 3) (nomark _)) pe_int pe_int)))
      (pss_one (ps_ret (pe_op op_cat (pe_op op_cat (pv 5) (pe_lc (own := [("vector", 7)]) (g := gName 7) (tt := tYes) (by rfl) sc_Table_first_row.nd (pi_list (pv 1)) (blkOk_by (own := [("vector", 7)]) (N := ["self", "vectors", "target", "at", "turn", "helpers", "k", "vector"]) (sc := defScope s_Table_first_row) (by first | decide +kernel | kernel_rfl)) (fun _ _ _ _ _ => (pg_name (i := 7) sc_Table_first_row.nd rfl (.inl rfl))) (fun _ _ _ _ _ => pts_nil) (fun _ _ _ _ _ => (pe_op op_mulW (pv 4) (pe_ix (r := rIxT K) ix_tup (pv 7) (pv 3) (fun _ _ => rfl)))))) (pe_lst (pa_cons (pe_op op_mulW (pv 4) (pe_ix (r := rIxT K) ix_tup (pv 2) (pv 3) (fun _ _ => rfl))) pa_nil))))))), ?_⟩
    have b1 : ∀ {l : List Int} {M : Nat}, (∀ x ∈ l, x.natAbs < M) → 0 < M → ∀ i, (en l i).natAbs < M := fun {l M} h h0 i => by
      show (l.getD i 0).natAbs < M
      rw [List.getD_eq_getElem?_getD]
      cases hi : l[i]? with
      | none => exact h0
      | some x => exact h x (List.mem_of_getElem? hi)
    have bs1 : (en ss a).natAbs < 2 ^ 1 := b1 (fun x hx => Nat.lt_of_le_of_lt (bs x hx) (by decide)) (by decide) a
    have p200 : 0 < 2 ^ 200 := Nat.two_pow_pos 200
    -- turn
    refine ⟨fun σ H' => H' = H ∧ σ = [some (.ref p), some (.ref va), some (.ref ta), some (.int (a : Int)), some (.int (en ss a)), none, none, none], ⟨_, rfl, p, C, dx, _, _, rfl, ep, T.cl, T.nG, f3, _, rfl, S, _, (a : Int), _, rfl, rfl, SqL.of eS, atI_en (by omega), rfl, rfl⟩, ?_⟩
    rintro σ H1 ⟨rfl, rfl⟩
    -- helpers
    refine ⟨fun σ H' => ∃ ha : Addr, Same H1 H' ∧ H' ha = some (.lst ((unitN n a).map V.int)) ∧ σ = [some (.ref p), some (.ref va), some (.ref ta), some (.int (a : Int)), some (.int (en ss a)), some (.ref ha), none, none], ?_, ?_⟩
    · refine ⟨_, rfl, p, C, dx, _, _, rfl, ep, T.cl, T.nS, f1, n, rfl, by omega, by omega, fun E1 nE => ?_⟩
      refine lc_range (lo := 0) (n := n) (fun i H' => Same H1 H' ∧ H' E1 = some (.lst (((List.range i).map fun k => if k = a then (1 : Int) else 0).map V.int))) ⟨same_upd nE, upd_same⟩ (fun i H' hi hP => ?_) (fun H' hP => ?_)
      · rw [show (0 : Int) + (i : Int) = ((i : Nat) : Int) from Int.zero_add _]
        refine ⟨rfl, ?_⟩
        unfold tYes
        refine iteT ?_
        have fin : ∀ z : Int, z = (if i = a then (1 : Int) else 0) → ∃ acc, H' E1 = some (.lst acc) ∧ acc.length < sizeLine ∧ Same H1 (upd H' E1 (.lst (acc ++ [.int z]))) ∧ (upd H' E1 (.lst (acc ++ [.int z]))) E1 = some (.lst (((List.range (i + 1)).map fun k => if k = a then (1 : Int) else 0).map V.int)) := fun z hz => by
          refine ⟨_, hP.2, by rw [List.length_map, List.length_map, List.length_range]; exact small1000 (by omega), fun y o hy => ?_, ?_⟩
          · rw [upd_ne (ne_of_none hy nE)]
            exact hP.1 _ _ hy
          · rw [upd_same, List.range_succ, List.map_append, List.map_append, hz]
            rfl
        refine ⟨_, rfl, _, rfl, rfl, _, rfl, ite2 (fun c => ?_) (fun c => ?_)⟩
        · have c : i = a := by
            have := V.int.inj (of_decide_eq_true c)
            omega
          exact fin 1 (if_pos c).symm
        · exact fin 0 (if_neg fun z => c (decide_eq_true (by rw [z]))).symm
      · exact ⟨E1, hP.1, hP.2, rfl⟩
    rintro σ H2 ⟨ha', s2, eh, rfl⟩
    have V2 := hV.same s2
    have T2 := hT.same s2
    obtain ⟨rs, eva, rl, rg⟩ := id V2
    -- the row
    refine ⟨_, rfl, _, rfl, va, rfl, ⟨_, SqL.of eva⟩, fun E3 nE3 => ?_⟩
    refine lc_list (xs := rs.map V.ref) (fun i H' => Same H2 H' ∧ H' E3 = some (.lst (((us.take i).map fun v => en ss a * en v a).map V.int))) ⟨same_upd nE3, upd_same⟩ (fun i H' _ hP => SqL.of (hP.1 _ _ eva)) (fun i x H' hx hP => ?_) (fun H' hP => ?_)
    · obtain ⟨r, hr1, rfl⟩ := ref_get hx
      obtain ⟨v, ev, hv⟩ := rg _ _ hr1
      have mv := List.mem_of_getElem? ev
      have hil := lt_of_get ev
      refine ⟨rfl, ?_⟩
      unfold tYes
      refine iteT ?_
      refine ⟨_, rfl, _, rfl, _, rfl, r, _, (a : Int), _, rfl, rfl, SqT.of (hP.1 _ _ hv), atI_en (by rw [lu v mv]; exact ha), _, _, rfl, rfl, cmul (a := 1) (b := 200) bs1 (b1 (bu v mv) p200 a), _, hP.2, ?_, fun y o hy => ?_, ?_⟩
      · rw [List.length_map, List.length_map, List.length_take]
        exact Nat.lt_of_le_of_lt (Nat.min_le_right _ _) (small1000 (by omega))
      · rw [upd_ne (ne_of_none hy nE3)]
        exact hP.1 _ _ hy
      · rw [upd_same, take_get ev, List.map_append, List.map_append]
        rfl
    obtain ⟨s3, e3⟩ := hP
    rw [List.length_map, rl, List.take_length] at e3
    refine ⟨ha', E3, _, _, rfl, rfl, s3 _ _ eh, e3, ?_, fun c1 nc1 => ?_⟩
    · unfold unitN
      rw [List.length_map, List.length_map, List.length_range, List.length_map, List.length_map]
      exact Nat.le_of_lt (small1000 (by omega))
    have s4 := same_upd (o := .lst ((unitN n a).map V.int ++ (us.map fun v => en ss a * en v a).map V.int)) nc1
    have e4 : (upd H' c1 (.lst ((unitN n a).map V.int ++ (us.map fun v => en ss a * en v a).map V.int))) c1 = some (.lst ((unitN n a).map V.int ++ (us.map fun v => en ss a * en v a).map V.int)) := upd_same
    generalize upd H' c1 (.lst ((unitN n a).map V.int ++ (us.map fun v => en ss a * en v a).map V.int)) = H4 at *
    have s04 := s2.trans (s3.trans s4)
    refine ⟨_, rfl, _, rfl, _, rfl, ta, _, (a : Int), _, rfl, rfl, SqT.of ((s3.trans s4) _ _ T2), atI_en (by omega), _, _, rfl, rfl, cmul (a := 1) (b := 200) bs1 (b1 bt p200 a), (show 1 ≤ sizeLine by decide), fun c2 nc2 => ?_⟩
    have s5 := same_upd (o := .lst [V.int (en ss a * en t a)]) nc2
    refine ⟨c1, c2, _, _, rfl, rfl, s5 _ _ e4, upd_same, ?_, fun c3 nc3 => ?_⟩
    · unfold unitN
      rw [List.length_append, List.length_map, List.length_map, List.length_range, List.length_map, List.length_map]
      exact Nat.le_of_lt (small1000 (by show n + us.length + 1 ≤ 1000; omega))
    have s05 := s04.trans s5
    refine q _ _ (s05.trans (same_upd nc3)) (s05.free nc3) ?_
    rw [upd_same]
    unfold frow
    rw [List.map_append, List.map_append]
    rfl

open Rk
abbrev s_Table___init__ : Stmt := inClass (topS 15) 0
theorem sc_Table___init__ : FnScope ["self", "vectors", "target", "sums", "entry", "k", "row"] ["self", "vectors", "target"] (defScope s_Table___init__) := ⟨rfl, rfl, rfl, by decide +kernel, rfl, by decide +kernel, by decide +kernel⟩
def sgl (t : List Int) : List Int := t.map fun e => if e < 0 then (-1 : Int) else 1
def rws (n : Nat) (us : List (List Int)) (t : List Int) : List (List Int) := (List.range n).map fun k => frow n us t (en (sgl t) k) k
def sms (n m : Nat) (rows : List (List Int)) : List Int := (List.range (m + 1)).map fun j => -((rows.map fun r => en r (n + j)).sum)
theorem VL.kpI {H H' : Hp} {a p C dx : Addr} {fs : List (Str × V)} {vs : List (List Int)} (h : VL H a vs) (hp : H p = some (.ins C dx fs)) (s : Keep p H H') : VL H' a vs := by
  obtain ⟨rs, e, l, g⟩ := h
  refine ⟨rs, s _ _ (fun z => by rw [z, hp] at e; cases e) e, l, fun i r hr => by
    obtain ⟨v, h1, h2⟩ := g i r hr
    exact ⟨v, h1, s _ _ (fun z => by unfold Vc at h2; rw [z, hp] at h2; cases h2) h2⟩⟩
theorem Vc.kpI {H H' : Hp} {a p C dx : Addr} {fs : List (Str × V)} {v : List Int} (h : Vc H a v) (hp : H p = some (.ins C dx fs)) (s : Keep p H H') : Vc H' a v :=
  s _ _ (fun z => by unfold Vc at h; rw [z, hp] at h; cases h) h
theorem en_lim {l : List Int} {M : Nat} (h : ∀ x ∈ l, x.natAbs < M) (h0 : 0 < M) (i : Nat) : (en l i).natAbs < M := by
  show (l.getD i 0).natAbs < M
  rw [List.getD_eq_getElem?_getD]
  cases hi : l[i]? with
  | none => exact h0
  | some x => exact h x (List.mem_of_getElem? hi)
theorem frow_lim {us : List (List Int)} {t : List Int} {b : Nat} (bu : ∀ u ∈ us, ∀ x ∈ u, x.natAbs < 2 ^ b) (bt : ∀ x ∈ t, x.natAbs < 2 ^ b) : ∀ v ∈ rws t.length us t, ∀ x ∈ v, x.natAbs < 2 ^ (b + 1) := fun v hv x hx => by
  unfold rws at hv
  obtain ⟨k, _, rfl⟩ := List.mem_map.mp hv
  have p := Nat.two_pow_pos b
  have e : 2 ^ (b + 1) = 2 ^ b + 2 ^ b := by rw [Nat.pow_succ]; omega
  have sg : ∀ i, (en (sgl t) i).natAbs ≤ 1 := fun i => by
    have := en_lim (l := sgl t) (M := 2) (fun x hx => by
      obtain ⟨e, _, rfl⟩ := List.mem_map.mp hx
      split <;> decide) (by decide) i
    omega
  have ml : ∀ y : Int, y.natAbs < 2 ^ b → (en (sgl t) k * y).natAbs < 2 ^ (b + 1) := fun y hy => by
    rw [Int.natAbs_mul]
    have := Nat.mul_le_mul_right y.natAbs (sg k)
    omega
  unfold frow unitN at hx
  rcases List.mem_append.mp hx with hx | hx
  · rcases List.mem_append.mp hx with hx | hx
    · obtain ⟨j, _, rfl⟩ := List.mem_map.mp hx
      have : (if j = k then (1 : Int) else 0).natAbs ≤ 1 := by split <;> decide
      omega
    · obtain ⟨u, hu, rfl⟩ := List.mem_map.mp hx
      exact ml _ (en_lim (bu u hu) p k)
  · rw [List.mem_singleton.mp hx]
    exact ml _ (en_lim bt p k)
def spTI (C : Addr) : Sp := fun vs H Q _ => ∃ (p va ta dx : Addr) (us : List (List Int)) (t : List Int), vs = [.ref p, .ref va, .ref ta] ∧ H p = some (.ins C dx []) ∧ VL H va us ∧ Vc H ta t ∧ t.length ≤ 200 ∧ us.length ≤ 200 ∧ (∀ u ∈ us, u.length = t.length) ∧ (∀ u ∈ us, ∀ x ∈ u, x.natAbs < 2 ^ 200) ∧ (∀ x ∈ t, x.natAbs < 2 ^ 200) ∧
  ∀ (H' : Hp) (B : Addr), Keep p H H' → H B = none → TOb C H' p B t.length us.length (sgl t) (rws t.length us t) (List.replicate t.length 0 ++ sms t.length us.length (rws t.length us t)) ((List.range t.length).map fun k : Nat => (k : Int)) 1 → Q .non H'
theorem ok_ti {f C : Addr} {fd : FuncData} {k : Nat} (F : Fun K "__init__" "Table.__init__" s_Table___init__ f fd) (Z : Glb mg) (T : TCls K C) (Mfirst_row : MCall P w K mg base k C "first_row" ["self", "vectors", "target", "at"] (spFrw C)) : FnOk P w K mg base CX0 (k + 1) f fd ["self", "vectors", "target"] (spTI C) := by
  refine F.ok sc_Table___init__ (fun vs H Q E h => ?_) (fun cdv A outer s H vs Q E hr h => ?_)
  · obtain ⟨p, va, ta, dx, us, t, rfl, _⟩ := h
    rfl
  · obtain ⟨p, va, ta, dx, us, t, rfl, ep, hV, hT, lt, lu, wu, bu, bt, q⟩ := h
    refine ⟨_, (pss_cut (ps_fld (pv 0) (pe_callB call_len_seq (by rfl) Z.m_len PySem.boot_len (pa_cons (pv 2) pa_nil)) rfl)
      (pss_cut (ps_fld (pv 0) (pe_callB call_len_seq (by rfl) Z.m_len PySem.boot_len (pa_cons (pv 1) pa_nil)) rfl)
      (pss_cut (ps_fld (pv 0) (pe_lc (own := [("entry", 4)]) (g := gName 4) (tt := tYes) (by rfl) sc_Table___init__.nd (pi_tup (pv 2)) (blkOk_by (own := [("entry", 4)]) (N := ["self", "vectors", "target", "sums", "entry", "k", "row"]) (sc := defScope s_Table___init__) (by first | decide +kernel | kernel_rfl)) (fun _ _ _ _ _ => (pg_name (i := 4) sc_Table___init__.nd rfl (.inl rfl))) (fun _ _ _ _ _ => pts_nil) (fun _ _ _ _ _ => (pe_ifExp (pt_cmpR op_lt (pv 4) pe_int (nomark _)) (pe_un un_neg pe_int) pe_int))) rfl)
      (pss_cut (ps_fld (pv 0) (pe_lc (own := [("k", 5)]) (g := gName 5) (tt := tYes) (by rfl) sc_Table___init__.nd (pi_range1 rfl Z.m_range (pa_cons (pe_fld (pv 0) rfl) pa_nil)) (blkOk_by (own := [("k", 5)]) (N := ["self", "vectors", "target", "sums", "entry", "k", "row"]) (sc := defScope s_Table___init__) (by first | decide +kernel | kernel_rfl)) (fun _ _ _ _ _ => (pg_name (i := 5) sc_Table___init__.nd rfl (.inl rfl))) (fun _ _ _ _ _ => pts_nil) (fun _ _ _ _ _ => (pe_meth (pv 0) Mfirst_row.cl Mfirst_row.m Mfirst_row.G hr Mfirst_row.b .nil pass0 (pa_cons (pv 1) (pa_cons (pv 2) (pa_cons (pv 5) pa_nil)))))) rfl)
      (pss_cut (ps_setLc (i := 3) (own := [("k", 5)]) (g := gName 5) (tt := tYes) (by rfl) sc_Table___init__.nd rfl rfl (sw_true rfl rfl rfl (by decide +kernel)) (pi_range2 rfl Z.m_range (pa_cons (pe_fld (pv 0) rfl) (pa_cons (pe_op op_add (pe_op op_add (pe_fld (pv 0) rfl) (pe_fld (pv 0) rfl)) pe_int) pa_nil))) (blkOk_by (own := [("k", 5)]) (N := ["self", "vectors", "target", "sums", "entry", "k", "row"]) (sc := defScope s_Table___init__) (by first | decide +kernel | kernel_rfl)) (fun _ _ _ _ _ => (pg_name (i := 5) sc_Table___init__.nd rfl (.inr rfl))) (fun _ _ _ _ _ => pts_nil) (fun _ _ _ _ _ => (pe_un un_neg (pe_callB (id := "sum") (r := rSum K) (cr_sum rfl) (by rfl) Z.m_sum (by decide +kernel) (pa_cons (pe_lc (own := [("row", 6)]) (wi := (iList K (tFld K (tVar 0) "rows"))) (g := gName 6) (tt := tYes) (by rfl) sc_Table___init__.nd (pi_list (pe_fldK (K := K) (pv 0) rfl)) (blkOk_by (own := [("row", 6)]) (N := ["self", "vectors", "target", "sums", "entry", "k", "row"]) (by first | decide +kernel | kernel_rfl)) (fun _ _ _ _ _ => (pg_name (i := 6) sc_Table___init__.nd rfl (.inl rfl))) (fun _ _ _ _ _ => pts_nil) (fun _ _ _ _ _ => (pe_ix (r := rIxL K) ix_list (pv 6) (pv 5) (fun _ _ => rfl)))) pa_nil)))))
      (pss_cut (ps_fld (pv 0) (pe_op op_cat (pe_op op_rep (pe_lst (pa_cons pe_int pa_nil)) (pe_fld (pv 0) rfl)) (pv 3)) rfl)
      (pss_cut (ps_fld (pv 0) (pe_listRg rfl (by rfl) Z.m_list (prg_1 (by rfl) Z.m_range (pe_fld (pv 0) rfl))) rfl)
      (pss_one (ps_fld (pv 0) pe_int rfl))))))))), ?_⟩
    obtain ⟨rs0, eva, rl0, rg0⟩ := id hV
    -- what stays
    have kst : ∀ {Hx : Hp} {o : HO}, Keep p H Hx → Keep p H (upd Hx p o) := fun h x o n e => by
      rw [upd_ne n]
      exact h x o n e
    have nep : ∀ {Hx : Hp} {fs : List (Str × V)} {x : Addr}, Hx p = some (.ins C dx fs) → Hx x = none → x ≠ p := fun h n z => by
      rw [z, h] at n
      cases n
    have nH : ∀ {Hx : Hp} {x : Addr}, Keep p H Hx → Hx x = none → x ≠ p → H x = none := fun h n np => by
      rename_i Hx x
      cases e : H x with
      | none => rfl
      | some o =>
        have := h x o np e
        rw [this] at n
        cases n
    -- size
    refine ⟨fun σ H' => σ = [some (.ref p), some (.ref va), some (.ref ta), none, none, none, none] ∧ Keep p H H' ∧ H' p = some (.ins C dx [("size", .int (t.length : Int))]), ?_, ?_⟩
    · refine ⟨_, rfl, _, _, rfl, .inr (SqT.of hT), _, rfl, p, C, dx, _, rfl, ep, T.cl, T.nS, (by show 0 < 1000; decide), rfl, kst fun x o _ e => e, ?_⟩
      rw [upd_same, List.length_map]
      rfl
    rintro σ H1 ⟨rfl, k1, e1⟩
    -- many
    refine ⟨fun σ H' => σ = [some (.ref p), some (.ref va), some (.ref ta), none, none, none, none] ∧ Keep p H H' ∧ H' p = some (.ins C dx [("size", .int (t.length : Int)), ("many", .int (us.length : Int))]), ?_, ?_⟩
    · obtain ⟨rs1, eva1, rl1, rg1⟩ := hV.kpI ep k1
      refine ⟨_, rfl, _, _, rfl, .inl (SqL.of eva1), _, rfl, p, C, dx, _, rfl, e1, T.cl, T.nM, (by show 1 < 1000; decide), rfl, kst k1, ?_⟩
      rw [upd_same, List.length_map, rl1]
      rfl
    rintro σ H2 ⟨rfl, k2, e2⟩
    -- signs
    refine ⟨fun σ H' => ∃ S, σ = [some (.ref p), some (.ref va), some (.ref ta), none, none, none, none] ∧ Keep p H H' ∧ S ≠ p ∧ H S = none ∧ H' S = some (.lst ((sgl t).map V.int)) ∧ H' p = some (.ins C dx [("size", .int (t.length : Int)), ("many", .int (us.length : Int)), ("signs", .ref S)]), ?_, ?_⟩
    · have hT2 := hT.kpI ep k2
      refine ⟨_, rfl, ta, rfl, ⟨_, SqT.of hT2⟩, fun S nS => ?_⟩
      refine lc_tup (xs := t.map V.int) (fun i H' => Same H2 H' ∧ H' S = some (.lst (((sgl t).take i).map V.int))) ⟨same_upd nS, upd_same⟩ (fun i H' _ hP => SqT.of (hP.1 _ _ hT2)) (fun i x H' hx hP => ?_) (fun H' hP => ?_)
      · obtain ⟨e, he, rfl⟩ := map_get hx
        refine ⟨rfl, ?_⟩
        unfold tYes
        refine iteT ?_
        have fin : ∀ z : Int, z = (if e < 0 then (-1 : Int) else 1) → ∃ acc, H' S = some (.lst acc) ∧ acc.length < sizeLine ∧ Same H2 (upd H' S (.lst (acc ++ [.int z]))) ∧ (upd H' S (.lst (acc ++ [.int z]))) S = some (.lst (((sgl t).take (i + 1)).map V.int)) := fun z hz => by
          refine ⟨_, hP.2, ?_, fun y o hy => ?_, ?_⟩
          · rw [List.length_map, List.length_take]
            refine Nat.lt_of_le_of_lt (Nat.min_le_right _ _) (small1000 ?_)
            unfold sgl
            rw [List.length_map]
            omega
          · rw [upd_ne (ne_of_none hy nS)]
            exact hP.1 _ _ hy
          · rw [upd_same, take_get (x := z) (by unfold sgl; rw [List.getElem?_map, he, hz]; rfl), List.map_append]
            rfl
        refine ⟨_, rfl, _, _, rfl, rfl, _, rfl, ite2 (fun c => ?_) (fun c => ?_)⟩
        · exact ⟨_, rfl, fin (-1) (if_pos (of_decide_eq_true c)).symm⟩
        · exact fin 1 (if_neg fun z => c (decide_eq_true z)).symm
      · obtain ⟨s3, e3⟩ := hP
        rw [List.length_map, show t.length = (sgl t).length from (List.length_map ..).symm, List.take_length] at e3
        have nSp := nep e2 nS
        refine ⟨_, rfl, p, C, dx, _, rfl, s3 _ _ e2, T.cl, T.nG, (by show 2 < 1000; decide), S, rfl, kst fun x o n e => s3 _ _ (k2 x o n e), nSp, nH k2 nS nSp, ?_, ?_⟩
        · rw [upd_ne nSp]
          exact e3
        · rw [upd_same]
          rfl
    rintro σ H3 ⟨S, rfl, k3, nSp, nS, eS, e3⟩
    -- rows
    refine ⟨fun σ H' => ∃ (R : Addr) (rs : List Addr), σ = [some (.ref p), some (.ref va), some (.ref ta), none, none, none, none] ∧ Keep p H H' ∧ H' S = some (.lst ((sgl t).map V.int)) ∧ R ≠ p ∧ H R = none ∧ H' R = some (.lst (rs.map V.ref)) ∧ LLr H' rs (rws t.length us t) ∧ (∀ r ∈ rs, r ≠ p ∧ H r = none) ∧ H' p = some (.ins C dx [("size", .int (t.length : Int)), ("many", .int (us.length : Int)), ("signs", .ref S), ("rows", .ref R)]), ?_, ?_⟩
    · have hT3 := hT.kpI ep k3
      have hV3 := hV.kpI ep k3
      have lss : (sgl t).length = t.length := List.length_map ..
      refine ⟨_, rfl, p, C, dx, _, _, rfl, e3, T.cl, T.nS, rfl, t.length, rfl, by omega, by omega, fun R nR => ?_⟩
      have nRp := nep e3 nR
      refine lc_range (lo := 0) (n := t.length) (fun i H' => Same H3 H' ∧ ∃ rs : List Addr, H' R = some (.lst (rs.map V.ref)) ∧ LLr H' rs ((rws t.length us t).take i) ∧ ∀ r ∈ rs, r ≠ R ∧ H3 r = none) ⟨same_upd nR, [], upd_same, ⟨rfl, fun i r hr => no_get hr⟩, fun r h => nomatch h⟩ (fun i H' hi hP => ?_) (fun H' hP => ?_)
      · rw [show (0 : Int) + (i : Int) = ((i : Nat) : Int) from Int.zero_add _]
        obtain ⟨s4, rs, eR, hL, nr⟩ := hP
        refine ⟨rfl, ?_⟩
        unfold tYes
        refine iteT ?_
        refine ⟨_, rfl, p, dx, _, rfl, s4 _ _ e3, rfl, _, rfl, _, rfl, _, rfl, p, va, ta, dx, S, _, t.length, i, sgl t, us, t, rfl, s4 _ _ e3, rfl, rfl, s4 _ _ eS, hV3.same s4, hT3.same s4, hi, lss, rfl, lt, lu, wu, ?_, bu, bt, fun H7 r7 s7 n7 e7 => ?_⟩
        · intro x hx
          obtain ⟨e, _, rfl⟩ := List.mem_map.mp hx
          split <;> decide
        have n7R : r7 ≠ R := fun z => by
          rw [z, eR] at n7
          cases n7
        refine ⟨_, s7 _ _ eR, ?_, fun y o hy => ?_, rs ++ [r7], by rw [upd_same, List.map_append]; rfl, ?_, fun r hr => ?_⟩
        · rw [List.length_map, hL.1, List.length_take]
          refine Nat.lt_of_le_of_lt (Nat.min_le_left _ _) (small1000 (by omega))
        · rw [upd_ne (ne_of_none hy nR)]
          exact s7 _ _ (s4 _ _ hy)
        · rw [take_get (x := frow t.length us t (en (sgl t) i) i) (by unfold rws; rw [List.getElem?_map, List.getElem?_range hi]; rfl)]
          exact (hL.keep fun r hr o ho => by rw [upd_ne (nr r hr).1]; exact s7 _ _ ho).push (by rw [upd_ne n7R]; exact e7)
        · rcases List.mem_append.mp hr with hr | hr
          · exact nr r hr
          · rw [List.mem_singleton.mp hr]
            exact ⟨n7R, s4.free n7⟩
      · obtain ⟨s4, rs, eR, hL, nr⟩ := hP
        rw [List.take_of_length_le (by unfold rws; rw [List.length_map, List.length_range]; exact Nat.le_refl _)] at hL
        refine ⟨_, rfl, p, C, dx, _, rfl, s4 _ _ e3, T.cl, T.nR, (by show 3 < 1000; decide), R, rs, rfl, kst fun x o n e => s4 _ _ (k3 x o n e), ?_, nRp, nH k3 nR nRp, ?_, hL.keep fun r hr o ho => ?_, fun r hr => ⟨nep e3 (nr r hr).2, nH k3 (nr r hr).2 (nep e3 (nr r hr).2)⟩, ?_⟩
        · rw [upd_ne nSp]
          exact s4 _ _ eS
        · rw [upd_ne nRp]
          exact eR
        · rw [upd_ne (nep e3 (nr r hr).2)]
          exact ho
        · rw [upd_same]
          rfl
    rintro σ H4 ⟨R, rs, rfl, k4, eS4, nRp, nR, eR, hL, nr, e4⟩
    -- sums
    have wr : ∀ v ∈ rws t.length us t, v.length = t.length + us.length + 1 := fun v hv => by
      unfold rws at hv
      obtain ⟨k, _, rfl⟩ := List.mem_map.mp hv
      unfold frow unitN
      rw [List.length_append, List.length_append, List.length_map, List.length_range, List.length_map]
      rfl
    have f1 : ([("size", V.int (t.length : Int)), ("many", V.int (us.length : Int)), ("signs", V.ref S), ("rows", V.ref R)] : List (Str × V)).lookup ("size" : Str) = some (.int t.length) := rfl
    have f2 : ([("size", V.int (t.length : Int)), ("many", V.int (us.length : Int)), ("signs", V.ref S), ("rows", V.ref R)] : List (Str × V)).lookup ("many" : Str) = some (.int us.length) := rfl
    have f4 : ([("size", V.int (t.length : Int)), ("many", V.int (us.length : Int)), ("signs", V.ref S), ("rows", V.ref R)] : List (Str × V)).lookup ("rows" : Str) = some (.ref R) := rfl
    refine ⟨fun σ H' => ∃ U : Addr, σ = [some (.ref p), some (.ref va), some (.ref ta), some (.ref U), none, none, none] ∧ Same H4 H' ∧ H4 U = none ∧ H' U = some (.lst ((sms t.length us.length (rws t.length us t)).map V.int)), ?_, ?_⟩
    · refine ⟨_, rfl, p, C, dx, _, _, rfl, e4, T.cl, T.nS, f1, _, rfl, p, C, dx, _, _, rfl, e4, T.cl, T.nS, f1, _, rfl, p, C, dx, _, _, rfl, e4, T.cl, T.nM, f2, _, _, rfl, rfl, _, _, rfl, rfl, _, _, rfl, ⟨by omega, by omega, by omega, by omega⟩, fun U nU => ?_⟩
      have fl : ∀ v ∈ rws t.length us t, ∀ x ∈ v, x.natAbs < 2 ^ 201 := frow_lim bu bt
      rw [show ((t.length : Int) + (us.length : Int) + 1 - (t.length : Int)).toNat = us.length + 1 by omega]
      refine lc_range (lo := (t.length : Int)) (n := us.length + 1) (fun i H' => Same H4 H' ∧ H' U = some (.lst (((sms t.length us.length (rws t.length us t)).take i).map V.int))) ⟨same_upd nU, upd_same⟩ (fun i H' hi hP => ?_) (fun H' hP => ?_)
      · obtain ⟨s5, eU⟩ := hP
        rw [show (t.length : Int) + (i : Int) = ((t.length + i : Nat) : Int) from rfl]
        refine ⟨rfl, ?_⟩
        unfold tYes
        refine iteT ?_
        refine ⟨_, rfl, p, C, dx, _, _, rfl, s5 _ _ e4, T.cl, T.nR, f4, R, rfl, ⟨_, SqL.of (s5 _ _ eR)⟩, fun D2 nD2 => ?_⟩
        refine lc_list (xs := rs.map V.ref) (g := gName 6) (tt := fun _ H Q => Q true H) (te := tOp (rIxL K) (tVar 6) (tVar 5)) (vs := [6]) (fun j H2 => Same H' H2 ∧ H2 D2 = some (.lst ((((rws t.length us t).map fun v => en v (t.length + i)).take j).map V.int))) ⟨same_upd nD2, upd_same⟩ (fun j H2 _ hP2 => SqL.of (hP2.1 _ _ (s5 _ _ eR))) (fun j x H2 hx hP2 => ?_) (fun H2 hP2 => ?_)
        · obtain ⟨r, hr1, rfl⟩ := ref_get hx
          obtain ⟨v, ev, hv⟩ := hL.2 _ _ hr1
          have mv := List.mem_of_getElem? ev
          refine ⟨rfl, ?_⟩
          refine iteT ?_
          refine ⟨_, rfl, _, rfl, r, _, ((t.length + i : Nat) : Int), _, rfl, rfl, SqL.of (hP2.1 _ _ (s5 _ _ hv)), atI_en (by rw [wr v mv]; omega), _, hP2.2, ?_, fun y o hy => ?_, ?_⟩
          · rw [List.length_map, List.length_take, List.length_map]
            exact Nat.lt_of_le_of_lt (Nat.min_le_right _ _) (small1000 (by unfold rws; rw [List.length_map, List.length_range]; omega))
          · rw [upd_ne (ne_of_none hy nD2)]
            exact hP2.1 _ _ hy
          · rw [upd_same, take_get (x := en v (t.length + i)) (by rw [List.getElem?_map, ev]; rfl), List.map_append]
            rfl
        · obtain ⟨s6, eD2⟩ := hP2
          rw [List.length_map, hL.1, List.take_of_length_le (by rw [List.length_map]; exact Nat.le_refl _)] at eD2
          refine ⟨D2, _, rfl, SqL.of eD2, ?_⟩
          refine ⟨_, rfl, _, (s6 _ _ eU), ?_, fun y o hy => ?_, ?_⟩
          · rw [List.length_map, List.length_take]
            exact Nat.lt_of_le_of_lt (Nat.min_le_left _ _) (small1000 (by omega))
          · rw [upd_ne (ne_of_none hy nU)]
            exact s6 _ _ (s5 _ _ hy)
          · rw [upd_same, take_get (x := -((rws t.length us t).map fun v => en v (t.length + i)).sum) (by unfold sms; rw [List.getElem?_map, List.getElem?_range hi]; rfl), List.map_append]
            rfl
      · obtain ⟨s5, eU⟩ := hP
        rw [List.take_of_length_le (by unfold sms; rw [List.length_map, List.length_range]; exact Nat.le_refl _)] at eU
        exact ⟨U, rfl, s5, nU, eU⟩
    rintro σ H5 ⟨U, rfl, s5, nU, eU⟩
    have e5 := s5 _ _ e4
    have k5 : Keep p H H5 := fun x o n e => s5 _ _ (k4 x o n e)
    -- costs
    refine ⟨fun σ H' => ∃ Cc : Addr, σ = [some (.ref p), some (.ref va), some (.ref ta), some (.ref U), none, none, none] ∧ Keep p H5 H' ∧ Keep p H H' ∧ Cc ≠ p ∧ H' Cc = some (.lst ((List.replicate t.length 0 ++ sms t.length us.length (rws t.length us t)).map V.int)) ∧ H' p = some (.ins C dx [("size", .int (t.length : Int)), ("many", .int (us.length : Int)), ("signs", .ref S), ("rows", .ref R), ("costs", .ref Cc)]), ?_, ?_⟩
    · refine ⟨(show 1 ≤ sizeLine by decide), fun z nz => ?_⟩
      have sz := same_upd (o := .lst [V.int 0]) nz
      refine ⟨_, rfl, p, C, dx, _, _, rfl, sz _ _ e5, T.cl, T.nS, f1, z, _, _, rfl, rfl, upd_same, by omega, by omega, ?_, fun u nu => ?_⟩
      · exact Nat.le_of_lt (small1000 (by show 1 * _ ≤ 1000; omega))
      have rep : ∀ m : Nat, (List.replicate m [V.int 0]).flatten = (List.replicate m (0 : Int)).map V.int := fun m => by
        induction m with
        | zero => rfl
        | succ m ih =>
          rw [List.replicate_succ, List.replicate_succ, List.flatten_cons, ih]
          rfl
      have s6 := sz.trans (same_upd (o := .lst ((List.replicate t.length [V.int 0]).flatten)) nu)
      have eu : upd (upd H5 z (.lst [V.int 0])) u (.lst ((List.replicate t.length [V.int 0]).flatten)) u = some (.lst ((List.replicate t.length (0 : Int)).map V.int)) := by rw [upd_same, rep]
      refine ⟨_, rfl, u, U, _, _, rfl, rfl, eu, s6 _ _ eU, ?_, fun Cc nC => ?_⟩
      · rw [List.length_map, List.length_map, List.length_replicate]
        unfold sms
        rw [List.length_map, List.length_range]
        exact Nat.le_of_lt (small1000 (by omega))
      have s7 := s6.trans (same_upd (o := .lst ((List.replicate t.length (0 : Int)).map V.int ++ (sms t.length us.length (rws t.length us t)).map V.int)) nC)
      have nCp := nep (s6 _ _ e5) nC
      refine ⟨_, rfl, p, C, dx, _, rfl, s7 _ _ e5, T.cl, T.nC, (by show 4 < 1000; decide), Cc, rfl, fun x o n e => ?_, kst fun x o n e => s7 _ _ (k5 x o n e), nCp, ?_, ?_⟩
      · rw [upd_ne n]
        exact s7 _ _ e
      · rw [upd_ne nCp, upd_same, List.map_append]
      · rw [upd_same]
        rfl
    rintro σ H6 ⟨Cc, rfl, k56, k6, nCp, eC, e6⟩
    -- basis
    have f1' : ([("size", V.int (t.length : Int)), ("many", V.int (us.length : Int)), ("signs", V.ref S), ("rows", V.ref R), ("costs", V.ref Cc)] : List (Str × V)).lookup ("size" : Str) = some (.int t.length) := rfl
    have k46 : Keep p H4 H6 := fun x o n e => k56 x o n (s5 _ _ e)
    have eS6 := k46 _ _ nSp eS4
    have eR6 := k46 _ _ nRp eR
    have hL6 : LLr H6 rs (rws t.length us t) := hL.keep fun r hr o ho => k46 _ _ (nr r hr).1 ho
    refine ⟨fun σ H' => ∃ B : Addr, σ = [some (.ref p), some (.ref va), some (.ref ta), some (.ref U), none, none, none] ∧ Keep p H6 H' ∧ H6 B = none ∧ B ≠ p ∧ H' B = some (.lst (((List.range t.length).map fun k : Nat => (k : Int)).map V.int)) ∧ H' p = some (.ins C dx [("size", .int (t.length : Int)), ("many", .int (us.length : Int)), ("signs", .ref S), ("rows", .ref R), ("costs", .ref Cc), ("basis", .ref B)]), ?_, ?_⟩
    · refine ⟨_, rfl, p, C, dx, _, _, rfl, e6, T.cl, T.nS, f1', t.length, rfl, ?_⟩
      refine ⟨by show RgOk _ _; unfold RgOk; omega, fun B nB => ?_⟩
      have nBp := nep e6 nB
      refine ⟨_, rfl, p, C, dx, _, rfl, same_upd nB _ _ e6, T.cl, T.nB, (by show 5 < 1000; decide), B, rfl, fun x o n e => ?_, nB, nBp, ?_, ?_⟩
      · rw [upd_ne n]
        exact same_upd nB _ _ e
      · rw [upd_ne nBp, upd_same]
        congr 2
        unfold rgV
        rw [List.map_map, show ((t.length : Int) - 0).toNat = t.length by omega]
        refine List.map_congr_left fun i _ => ?_
        rw [Int.zero_add]
        rfl
      · rw [upd_same]
        rfl
    rintro σ H7 ⟨B, rfl, k7, nB, nBp, eB, e7⟩
    have ne : ∀ {x : Addr} {o : HO}, H6 x = some o → x ≠ B := fun h z => by
      rw [z, nB] at h
      cases h
    refine ⟨_, rfl, p, C, dx, _, rfl, e7, T.cl, T.nD, (by show 6 < 1000; decide), ?_⟩
    have k8 : ∀ {o : HO}, Keep p H6 (upd H7 p o) := fun x o n e => by
      rw [upd_ne n]
      exact k7 x o n e
    refine q _ B (fun x o n e => k8 x o n (k6 x o n e)) (nH k6 nB nBp) ⟨dx, S, R, Cc, rs, upd_same, k8 _ _ nSp eS6, k8 _ _ nRp eR6, hL6.keep fun r hr o ho => k8 _ _ (nr r hr).1 ho, k8 _ _ nCp eC, ?_, ne eS6, ne eR6, ne eC, fun r hr => ?_⟩
    · rw [upd_ne nBp]
      exact eB
    · obtain ⟨i, hi⟩ := List.getElem?_of_mem hr
      obtain ⟨v, _, hv⟩ := hL6.2 i r hi
      exact ne hv

open Rk Gd
/-! ### the tables of a weighing -/
theorem sgl_sq {t : List Int} {i : Nat} (hi : i < t.length) : en (sgl t) i * en (sgl t) i = 1 ∧ 0 ≤ en (sgl t) i * en t i ∧ (en (sgl t) i).natAbs ≤ 1 := by
  have e1 : en t i = t[i] := by
    show t.getD i 0 = _
    rw [List.getD_eq_getElem?_getD, List.getElem?_eq_getElem hi]
    rfl
  have e2 : en (sgl t) i = if t[i] < 0 then (-1 : Int) else 1 := by
    show (sgl t).getD i 0 = _
    unfold sgl
    rw [List.getD_eq_getElem?_getD, List.getElem?_map, List.getElem?_eq_getElem hi]
    rfl
  rw [e1, e2]
  by_cases c : t[i] < 0
  · rw [if_pos c]
    exact ⟨rfl, by omega, by decide⟩
  · rw [if_neg c]
    exact ⟨rfl, by omega, by decide⟩
/-- the entry of column j (a vector, or the right side) in equation i -/
def wv (n m : Nat) (us : List (List Int)) (t : List Int) (j i : Nat) : Int := en (sgl t) i * (if j < n + m then en (us.getD (j - n) []) i else en t i)
def wC (n m : Nat) (us : List (List Int)) (t : List Int) : Nat → Nat → Int := fun j i => if j < n then Gd.Id j i else if i < n then wv n m us t j i else - sm n (wv n m us t j)
theorem wC_id {n m : Nat} {us : List (List Int)} {t : List Int} (j : Nat) (h : j < n) : wC n m us t j = Gd.Id j := by
  funext i
  exact if_pos h
theorem wC_in {n m j i : Nat} {us : List (List Int)} {t : List Int} (h : n ≤ j) (hi : i < n) : wC n m us t j i = wv n m us t j i := by
  unfold wC
  rw [if_neg (by omega), if_pos hi]
theorem wC_n {n m j : Nat} {us : List (List Int)} {t : List Int} (h : n ≤ j) : wC n m us t j n = - sm n (wC n m us t j) := by
  have e : wC n m us t j n = - sm n (wv n m us t j) := by
    unfold wC
    rw [if_neg (by omega), if_neg (by omega)]
  rw [e, sm_congr fun i hi => wC_in h hi]
theorem wC_ph0 {n m j : Nat} {us : List (List Int)} {t : List Int} (h : n ≤ j) : sm (n + 1) (wC n m us t j) = 0 := by
  show sm n (wC n m us t j) + wC n m us t j n = 0
  rw [wC_n h]
  omega
theorem wC_ph1 {n m j : Nat} {us : List (List Int)} {t : List Int} (h : j < n) : sm (n + 1) (wC n m us t j) = 1 := by
  rw [wC_id j h, sm_one (f := Gd.Id j) (k := j) (by omega) fun i _ ij => if_neg ij]
  exact if_pos rfl
theorem wC_ph {n m : Nat} {us : List (List Int)} {t : List Int} (j : Nat) : 0 ≤ sm (n + 1) (wC n m us t j) := by
  by_cases h : j < n
  · rw [wC_ph1 h]
    decide
  · rw [wC_ph0 (by omega)]
    exact Int.le_refl _
/-- rows and costs are the table T -/
structure Ti (n m : Nat) (rows : List (List Int)) (costs : List Int) (T : Nat → Nat → Int) : Prop where
  lr : rows.length = n
  wr : ∀ v ∈ rows, v.length = n + m + 1
  lc : costs.length = n + m + 1
  rt : ∀ k j, k < n → j < n + m + 1 → en (rows.getD k []) j = T k j
  ct : ∀ j, j < n + m + 1 → en costs j = T n j
theorem getD_some {α : Type} {l : List α} {i : Nat} {x d : α} (h : l[i]? = some x) : l.getD i d = x := by
  rw [List.getD_eq_getElem?_getD, h]
  rfl
theorem clrD_len {v l : List Int} {c : Nat} {D : Int} (h : v.length = l.length) : (clrD v l c D).length = v.length := by
  unfold clrD
  rw [List.length_map, List.length_zip, h, Nat.min_self]
theorem clrD_en {v l : List Int} {c : Nat} {D : Int} (h : v.length = l.length) {j : Nat} (hj : j < v.length) : en (clrD v l c D) j = (en l c * en v j - en v c * en l j) / D := by
  have e1 : v[j]? = some v[j] := List.getElem?_eq_getElem hj
  have e2 : l[j]? = some (l[j]'(by omega)) := List.getElem?_eq_getElem _
  have : (clrD v l c D)[j]? = some ((en l c * v[j] - en v c * (l[j]'(by omega))) / D) := by
    unfold clrD
    rw [List.getElem?_map, List.getElem?_zip_eq_some (z := (v[j], l[j]'(by omega))) |>.mpr ⟨e1, e2⟩]
    rfl
  rw [show en (clrD v l c D) j = _ from getD_some this, show en v j = _ from getD_some e1, show en l j = _ from getD_some e2]
theorem getD_memW {rows : List (List Int)} {k : Nat} (h : k < rows.length) : rows.getD k [] ∈ rows := by
  rw [List.getD_eq_getElem?_getD, List.getElem?_eq_getElem h]
  exact List.getElem_mem _
theorem Ti.step {n m : Nat} {rows : List (List Int)} {costs : List Int} {T : Nat → Nat → Int} {D : Int} {a c : Nat} (h : Ti n m rows costs T) (ha : a < n) (hc : c < n + m + 1) : Ti n m (exR rows a c D) (clrD costs (rows.getD a []) c D) (exch T D a c) := by
  have la := h.wr _ (getD_memW (rows := rows) (k := a) (by rw [h.lr]; exact ha))
  have gx : ∀ k, k < n → (exR rows a c D).getD k [] = if k = a then rows.getD k [] else clrD (rows.getD k []) (rows.getD a []) c D := fun k hk => by
    refine getD_some ?_
    unfold exR
    rw [List.getElem?_map, List.getElem?_range (by rw [h.lr]; exact hk)]
    rfl
  refine ⟨?_, fun v hv => ?_, ?_, fun k j hk hj => ?_, fun j hj => ?_⟩
  · unfold exR
    rw [List.length_map, List.length_range, h.lr]
  · unfold exR at hv
    obtain ⟨k, hk, rfl⟩ := List.mem_map.mp hv
    have hk := List.mem_range.mp hk
    have lk := h.wr _ (getD_memW hk)
    by_cases e : k = a
    · rw [if_pos e]
      exact lk
    · rw [if_neg e, clrD_len (by rw [lk, la]), lk]
  · rw [clrD_len (by rw [h.lc, la]), h.lc]
  · rw [gx k hk]
    have lk := h.wr _ (getD_memW (rows := rows) (k := k) (by rw [h.lr]; exact hk))
    unfold exch
    by_cases e : k = a
    · rw [if_pos e, if_pos e, e]
      exact h.rt a j ha hj
    · rw [if_neg e, if_neg e, clrD_en (by rw [lk, la]) (by omega), h.rt a c ha hc, h.rt k j hk hj, h.rt k c hk hc, h.rt a j ha hj]
  · unfold exch
    rw [if_neg (by omega), clrD_en (by rw [h.lc, la]) (by rw [h.lc]; exact hj), h.rt a c ha hc, h.ct j hj, h.ct c hc, h.rt a j ha hj]
theorem map_len_range {α : Type} {f : Nat → α} {n k : Nat} {d : α} (h : k < n) : ((List.range n).map f).getD k d = f k := by
  refine getD_some ?_
  rw [List.getElem?_map, List.getElem?_range h]
  rfl
theorem frow_len (n : Nat) (us : List (List Int)) (t : List Int) (s : Int) (a : Nat) : (frow n us t s a).length = n + us.length + 1 := by
  unfold frow unitN
  rw [List.length_append, List.length_append, List.length_map, List.length_range, List.length_map]
  rfl
theorem frow_en {n : Nat} {us : List (List Int)} {t : List Int} {s : Int} {a j : Nat} (hj : j < n + us.length + 1) : en (frow n us t s a) j = if j < n then (if j = a then 1 else 0) else s * (if j < n + us.length then en (us.getD (j - n) []) a else en t a) := by
  have lU : (unitN n a).length = n := by unfold unitN; rw [List.length_map, List.length_range]
  unfold frow
  show ((unitN n a ++ us.map (fun v => s * en v a)) ++ [s * en t a]).getD j 0 = _
  rw [List.getD_eq_getElem?_getD]
  by_cases c1 : j < n
  · rw [if_pos c1, List.getElem?_append_left (by rw [List.length_append, lU]; omega), List.getElem?_append_left (by rw [lU]; exact c1)]
    unfold unitN
    rw [List.getElem?_map, List.getElem?_range c1]
    rfl
  · rw [if_neg c1]
    by_cases c2 : j < n + us.length
    · rw [if_pos c2, List.getElem?_append_left (by rw [List.length_append, lU, List.length_map]; omega), List.getElem?_append_right (by rw [lU]; omega), lU, List.getElem?_map, List.getElem?_eq_getElem (by omega)]
      show s * en us[j - n] a = _
      rw [List.getD_eq_getElem?_getD, List.getElem?_eq_getElem (by omega)]
      rfl
    · rw [if_neg c2, List.getElem?_append_right (by rw [List.length_append, lU, List.length_map]; omega), List.length_append, lU, List.length_map, show j - (n + us.length) = 0 by omega]
      rfl
theorem sum_smW {f : Nat → Int} : ∀ n, ((List.range n).map f).sum = sm n f
  | 0 => rfl
  | n + 1 => by
    rw [List.range_succ, List.map_append, List.sum_append, sum_smW n]
    show sm n f + (f n + 0) = sm n f + f n
    omega
theorem Ti.first (us : List (List Int)) (t : List Int) : Ti t.length us.length (rws t.length us t) (List.replicate t.length 0 ++ sms t.length us.length (rws t.length us t)) (fun k j => wC t.length us.length us t j k) := by
  have lS : (sms t.length us.length (rws t.length us t)).length = us.length + 1 := by unfold sms; rw [List.length_map, List.length_range]
  have r0 : ∀ k j, k < t.length → j < t.length + us.length + 1 → en ((rws t.length us t).getD k []) j = wC t.length us.length us t j k := fun k j hk hj => by
    unfold rws
    rw [map_len_range hk, frow_en hj]
    by_cases c : j < t.length
    · rw [if_pos c, wC_id j c]
      unfold Gd.Id
      by_cases e : j = k
      · rw [if_pos e, if_pos e.symm]
      · rw [if_neg e, if_neg fun z => e z.symm]
    · rw [if_neg c, wC_in (by omega) hk]
      rfl
  have lr : (rws t.length us t).length = t.length := by unfold rws; rw [List.length_map, List.length_range]
  refine ⟨lr, fun v hv => ?_, ?_, r0, fun j hj => ?_⟩
  · unfold rws at hv
    obtain ⟨k, _, rfl⟩ := List.mem_map.mp hv
    exact frow_len ..
  · rw [List.length_append, List.length_replicate, lS]
    omega
  · show (List.replicate t.length 0 ++ sms t.length us.length (rws t.length us t)).getD j 0 = _
    rw [List.getD_eq_getElem?_getD]
    by_cases c : j < t.length
    · rw [List.getElem?_append_left (by rw [List.length_replicate]; exact c), wC_id j c, List.getElem?_replicate, if_pos c]
      show (0 : Int) = if t.length = j then 1 else 0
      rw [if_neg (by omega)]
    · rw [List.getElem?_append_right (by rw [List.length_replicate]; omega), List.length_replicate]
      have hs : (sms t.length us.length (rws t.length us t))[j - t.length]? = some (-(((rws t.length us t).map fun r => en r (t.length + (j - t.length))).sum)) := by
        unfold sms
        rw [List.getElem?_map, List.getElem?_range (by omega)]
        rfl
      rw [hs, show t.length + (j - t.length) = j by omega, wC_n (by omega)]
      show - _ = - _
      congr 1
      rw [← sum_smW]
      congr 1
      refine List.ext_getElem? fun i => ?_
      rw [List.getElem?_map, List.getElem?_map]
      by_cases hi : i < t.length
      · rw [List.getElem?_range hi, List.getElem?_eq_getElem (by rw [lr]; exact hi)]
        have := r0 i j hi hj
        rw [List.getD_eq_getElem?_getD, List.getElem?_eq_getElem (by rw [lr]; exact hi)] at this
        exact congrArg some this
      · rw [List.getElem?_eq_none (by rw [lr]; omega), List.getElem?_eq_none (by rw [List.length_range]; omega)]
        rfl

open Rk Gd
/-! ### where a weighing stands -/
structure St (us : List (List Int)) (t : List Int) (rows : List (List Int)) (costs basis : List Int) (D : Int) (q : Nat) : Prop where
  ex : ∃ (bs : Nat → Nat → Nat) (T : Nat → Nat → Nat → Int) (Ds : Nat → Int) (r c : Nat → Nat), Run t.length t.length (t.length + us.length) (wC t.length us.length us t) bs T Ds r c 0 q ∧ Ti t.length us.length rows costs (T q) ∧ D = Ds q ∧ basis = (List.range t.length).map (fun k => (bs q k : Int)) ∧ ∀ i, i ≤ q → ∀ k, k < t.length → bs i k < t.length + us.length
theorem St.init (us : List (List Int)) (t : List Int) : St us t (rws t.length us t) (List.replicate t.length 0 ++ sms t.length us.length (rws t.length us t)) ((List.range t.length).map fun k : Nat => (k : Int)) 1 0 := by
  refine ⟨fun _ k => k, fun _ k j => wC t.length us.length us t j k, fun _ => 1, fun _ => 0, fun _ => 0, ⟨fun i _ _ => Tc.first fun j hj => wC_id j hj, fun i _ _ k hk => ?_, fun i _ h => absurd h (Nat.not_lt_zero i), fun i _ h => absurd h (Nat.not_lt_zero i), fun i _ h => absurd h (Nat.not_lt_zero i), fun i _ h => absurd h (Nat.not_lt_zero i)⟩, Ti.first us t, rfl, rfl, fun i _ k hk => by show k < _; omega⟩
  show 0 ≤ wC t.length us.length us t (t.length + us.length) k
  rw [wC_in (by omega) hk]
  unfold wv
  rw [if_neg (by omega)]
  exact (sgl_sq hk).2.1
theorem St.short {us : List (List Int)} {t : List Int} {rows : List (List Int)} {costs basis : List Int} {D : Int} {q : Nat} (h : St us t rows costs basis D q) : q < 2 ^ (t.length + us.length) := by
  obtain ⟨bs, T, Ds, r, c, R, _, _, _, lt⟩ := h.ex
  exact R.short lt
theorem St.leave {us : List (List Int)} {t : List Int} {rows : List (List Int)} {costs basis : List Int} {D : Int} {q c : Nat} (h : St us t rows costs basis D q) (h1 : t.length ≤ c) (h2 : c < t.length + us.length) (neg : en costs c < 0) : ∃ k, k < t.length ∧ 0 < en (rows.getD k []) c := by
  obtain ⟨bs, T, Ds, r, cc, R, ti, _, _, lt⟩ := h.ex
  obtain ⟨k, hk, pk⟩ := (R.tc q (Nat.zero_le q) (Nat.le_refl q)).leave (fun k _ => wC_ph _) (wC_ph0 h1) (by rw [← ti.ct c (by omega)]; exact neg)
  exact ⟨k, hk, by rw [ti.rt k c hk (by omega)]; exact pk⟩
theorem St.step {us : List (List Int)} {t : List Int} {rows : List (List Int)} {costs basis : List Int} {D : Int} {q a c : Nat} (h : St us t rows costs basis D q) (h1 : t.length ≤ c) (h2 : c < t.length + us.length) (neg : en costs c < 0) (fst : ∀ i, t.length ≤ i → i < c → 0 ≤ en costs i) (ha : a < t.length) (L : Lv t.length us.length rows basis c t.length a) :
    St us t (exR rows a c D) (clrD costs (rows.getD a []) c D) (basis.set a (c : Int)) (en (rows.getD a []) c) (q + 1) := by
  obtain ⟨bs, T, Ds, r, cc, R, ti, rfl, rfl, lt⟩ := h.ex
  have eb : ∀ k, k < t.length → en ((List.range t.length).map (fun k => (bs q k : Int))) k = (bs q k : Int) := fun k hk => map_len_range hk
  have S : Bl t.length t.length (t.length + us.length) (bs q) (T q) a c := by
    refine ⟨h1, h2, by rw [← ti.ct c (by omega)]; exact neg, fun j j1 j2 => by rw [← ti.ct j (by omega)]; exact fst j j1 j2, ha, by rw [← ti.rt a c ha (by omega)]; exact L.1, fun k hk pk => ?_, fun k hk pk e => ?_⟩
    · have := (L.2 k hk (by rw [ti.rt k c hk (by omega)]; exact pk)).1
      rw [ti.rt a _ ha (by omega), ti.rt k c hk (by omega), ti.rt k _ hk (by omega), ti.rt a c ha (by omega)] at this
      exact this
    · have := (L.2 k hk (by rw [ti.rt k c hk (by omega)]; exact pk)).2
      rw [ti.rt a _ ha (by omega), ti.rt k c hk (by omega), ti.rt k _ hk (by omega), ti.rt a c ha (by omega), eb a ha, eb k hk] at this
      have := this e
      omega
  obtain ⟨bs', T', D', r', c', R', e1, e2, e3, e4⟩ := R.more S
  refine ⟨bs', T', D', r', c', R', e2 ▸ ti.step ha (by omega), ?_, ?_, fun i hi k hk => ?_⟩
  · rw [e3]
    exact ti.rt a c ha (by omega)
  · refine List.ext_getElem? fun i => ?_
    rw [List.getElem?_set, List.getElem?_map, List.getElem?_map, List.length_map, List.length_range]
    by_cases hi : i < t.length
    · rw [List.getElem?_range hi, e1]
      by_cases e : a = i
      · subst e
        rw [if_pos rfl, if_pos hi]
        show some (c : Int) = some (((if a = a then c else bs q a : Nat)) : Int)
        rw [if_pos rfl]
      · rw [if_neg e]
        show some (bs q i : Int) = some (((if i = a then c else bs q i : Nat)) : Int)
        rw [if_neg fun z => e z.symm]
    · rw [if_neg (by omega), List.getElem?_eq_none (by rw [List.length_range]; omega)]
      rfl
  · by_cases e : i ≤ q
    · rw [e4 i e]
      exact lt i e k hk
    · have : i = q + 1 := by omega
      subst this
      rw [e1]
      by_cases e5 : k = a
      · show (if k = a then c else bs q k) < _
        rw [if_pos e5]
        exact h2
      · show (if k = a then c else bs q k) < _
        rw [if_neg e5]
        exact lt q (Nat.le_refl q) k hk
/-- sizes of the first table -/
theorem wC_big {us : List (List Int)} {t : List Int} {b : Nat} (n8 : t.length ≤ 8) (bu : ∀ u ∈ us, ∀ x ∈ u, x.natAbs < 2 ^ b) (bt : ∀ x ∈ t, x.natAbs < 2 ^ b) (j i : Nat) (hi : i < t.length + 1) : (wC t.length us.length us t j i).natAbs ≤ 2 ^ (b + 3) := by
  have p := Nat.two_pow_pos b
  have e : 2 ^ (b + 3) = 8 * 2 ^ b := by rw [Nat.pow_add]; omega
  have hv : ∀ k, k < t.length → (wv t.length us.length us t j k).natAbs ≤ 2 ^ b := fun k hk => by
    unfold wv
    have h1 := (sgl_sq hk).2.2
    rw [Int.natAbs_mul]
    have h2 : (if j < t.length + us.length then en (us.getD (j - t.length) []) k else en t k).natAbs ≤ 2 ^ b := by
      by_cases c : j < t.length + us.length
      · rw [if_pos c]
        by_cases c2 : j - t.length < us.length
        · exact Nat.le_of_lt (en_lim (bu _ (getD_memW c2)) p k)
        · have : us.getD (j - t.length) [] = [] := by rw [List.getD_eq_getElem?_getD, List.getElem?_eq_none (by omega)]; rfl
          rw [this]
          exact Nat.zero_le _
      · rw [if_neg c]
        exact Nat.le_of_lt (en_lim bt p k)
    have := Nat.mul_le_mul h1 h2
    omega
  unfold wC
  by_cases c : j < t.length
  · rw [if_pos c]
    unfold Gd.Id
    have : (if i = j then (1 : Int) else 0).natAbs ≤ 1 := by split <;> decide
    omega
  · rw [if_neg c]
    by_cases c2 : i < t.length
    · rw [if_pos c2]
      have := hv i c2
      omega
    · rw [if_neg c2, Int.natAbs_neg]
      have := sm_lim (f := wv t.length us.length us t j) (C := 2 ^ b) (n := t.length) hv
      have := Nat.mul_le_mul_right (2 ^ b) n8
      omega
theorem fc_le : ∀ {n : Nat}, n ≤ 9 → fc n ≤ 2 ^ 19 := fun {n} h => by
  have : ∀ k : Fin 10, fc k.1 ≤ 2 ^ 19 := by decide +kernel
  exact this ⟨n, by omega⟩
theorem St.big {us : List (List Int)} {t : List Int} {rows : List (List Int)} {costs basis : List Int} {D : Int} {q b : Nat} (h : St us t rows costs basis D q) (n8 : t.length ≤ 8) (bu : ∀ u ∈ us, ∀ x ∈ u, x.natAbs < 2 ^ b) (bt : ∀ x ∈ t, x.natAbs < 2 ^ b) :
    0 < D ∧ D.natAbs < 2 ^ (20 + (t.length + 1) * (b + 3)) ∧ (∀ v ∈ rows, ∀ x ∈ v, x.natAbs < 2 ^ (20 + (t.length + 1) * (b + 3))) ∧ (∀ x ∈ costs, x.natAbs < 2 ^ (20 + (t.length + 1) * (b + 3))) := by
  obtain ⟨bs, T, Ds, r, cc, R, ti, rfl, rfl, lt⟩ := h.ex
  have tq := R.tc q (Nat.zero_le q) (Nat.le_refl q)
  obtain ⟨g1, g2⟩ := tq.big (M := 2 ^ (b + 3)) (Nat.two_pow_pos _) fun k i _ hi => wC_big n8 bu bt _ i hi
  have le : fc (t.length + 1) * (2 ^ (b + 3)) ^ (t.length + 1) < 2 ^ (20 + (t.length + 1) * (b + 3)) := by
    have h1 := fc_le (n := t.length + 1) (by omega)
    rw [← Nat.pow_mul, Nat.mul_comm (b + 3), Nat.pow_add]
    have p := Nat.two_pow_pos ((t.length + 1) * (b + 3))
    exact Nat.mul_lt_mul_of_lt_of_le (Nat.lt_of_le_of_lt h1 (by decide)) (Nat.le_refl _) p
  refine ⟨tq.pos, Nat.lt_of_le_of_lt g1 le, fun v hv x hx => ?_, fun x hx => ?_⟩
  · obtain ⟨k, hk, rfl⟩ := List.getElem_of_mem hv
    obtain ⟨j, hj, rfl⟩ := List.getElem_of_mem hx
    have lk := ti.wr _ hv
    have hk2 : k < t.length := by rw [← ti.lr]; exact hk
    have := ti.rt k j hk2 (by omega)
    rw [show rows.getD k [] = rows[k] from getD_some (List.getElem?_eq_getElem hk), show en rows[k] j = rows[k][j] from getD_some (List.getElem?_eq_getElem hj)] at this
    rw [this]
    exact Nat.lt_of_le_of_lt (g2 k j (by omega) fun i hi => wC_big n8 bu bt j i hi) le
  · obtain ⟨j, hj, rfl⟩ := List.getElem_of_mem hx
    have := ti.ct j (by rw [← ti.lc]; exact hj)
    rw [show en costs j = costs[j] from getD_some (List.getElem?_eq_getElem hj)] at this
    rw [this]
    exact Nat.lt_of_le_of_lt (g2 _ j (by omega) fun i hi => wC_big n8 bu bt j i hi) le
theorem St.lens {us : List (List Int)} {t : List Int} {rows : List (List Int)} {costs basis : List Int} {D : Int} {q : Nat} (h : St us t rows costs basis D q) : rows.length = t.length ∧ basis.length = t.length ∧ costs.length = t.length + us.length + 1 ∧ (∀ v ∈ rows, v.length = t.length + us.length + 1) ∧ ∀ x ∈ basis, 0 ≤ x ∧ x < (t.length : Int) + (us.length : Int) := by
  obtain ⟨bs, T, Ds, r, cc, R, ti, rfl, rfl, lt⟩ := h.ex
  refine ⟨ti.lr, by rw [List.length_map, List.length_range], ti.lc, ti.wr, fun x hx => ?_⟩
  obtain ⟨k, hk, rfl⟩ := List.mem_map.mp hx
  have := lt q (Nat.le_refl q) k (List.mem_range.mp hk)
  omega
/-- the end with no: what parts the target from the vectors -/
theorem St.no {us : List (List Int)} {t : List Int} {rows : List (List Int)} {costs basis : List Int} {D : Int} {q : Nat} (h : St us t rows costs basis D q) (nn : ∀ j, t.length ≤ j → j < t.length + us.length → 0 ≤ en costs j) (z : en costs (t.length + us.length) ≠ 0) :
    (partD (sgl t) costs D).length = t.length ∧ (∀ j, j < us.length → 0 ≤ dv t.length (us.getD j []) (en (partD (sgl t) costs D))) ∧ dv t.length t (en (partD (sgl t) costs D)) < 0 := by
  obtain ⟨bs, T, Ds, r, cc, R, ti, rfl, rfl, lt⟩ := h.ex
  have tq := R.tc q (Nat.zero_le q) (Nat.le_refl q)
  have ls : (sgl t).length = t.length := List.length_map ..
  have lp : (partD (sgl t) costs (Ds q)).length = t.length := by
    unfold partD
    rw [List.length_map, List.length_zip, ls, ti.lc]
    omega
  have ep : ∀ i, i < t.length → en (partD (sgl t) costs (Ds q)) i = en (sgl t) i * (T q t.length i - Ds q) := fun i hi => by
    have e1 : (sgl t)[i]? = some ((sgl t)[i]'(by omega)) := List.getElem?_eq_getElem _
    have e2 : costs[i]? = some (costs[i]'(by rw [ti.lc]; omega)) := List.getElem?_eq_getElem _
    have : (partD (sgl t) costs (Ds q))[i]? = some ((sgl t)[i]'(by omega) * (costs[i]'(by rw [ti.lc]; omega) - Ds q)) := by
      unfold partD
      rw [List.getElem?_map, List.getElem?_zip_eq_some (z := ((sgl t)[i]'(by omega), costs[i]'(by rw [ti.lc]; omega))) |>.mpr ⟨e1, e2⟩]
      rfl
    rw [show en (partD _ _ _) i = _ from getD_some this, ← ti.ct i (by omega), show en (sgl t) i = _ from getD_some e1, show en costs i = _ from getD_some e2]
  have key : ∀ j, t.length ≤ j → j < t.length + us.length + 1 → en costs j = sm t.length fun i => (if j < t.length + us.length then en (us.getD (j - t.length) []) i else en t i) * en (partD (sgl t) costs (Ds q)) i := fun j h1 h2 => by
    rw [ti.ct j h2, tq.dual (fun j hj => wC_id j hj) (wC_n h1)]
    refine sm_congr fun i hi => ?_
    rw [wC_in h1 hi, ep i hi]
    unfold wv
    rw [Int.mul_comm (en (sgl t) i), Int.mul_assoc]
  refine ⟨lp, fun j hj => ?_, ?_⟩
  · have h1 := nn (t.length + j) (by omega) (by omega)
    rw [key _ (by omega) (by omega)] at h1
    rw [show t.length + j - t.length = j by omega] at h1
    have : dv t.length (us.getD j []) (en (partD (sgl t) costs (Ds q))) = sm t.length fun i => (if t.length + j < t.length + us.length then en (us.getD j []) i else en t i) * en (partD (sgl t) costs (Ds q)) i := sm_congr fun i _ => by rw [if_pos (by omega)]
    rw [this]
    exact h1
  · have h2 : en costs (t.length + us.length) = dv t.length t (en (partD (sgl t) costs (Ds q))) := by
      rw [key _ (by omega) (by omega)]
      exact sm_congr fun i _ => by rw [if_neg (by omega)]
    rw [← h2]
    obtain ⟨B, tb, eB, lb⟩ := tq.b
    have nq := R.nn q (Nat.zero_le q) (Nat.le_refl q)
    have x : (sm (t.length + 1) fun i => Ds q * wC t.length us.length us t (t.length + us.length) i) = sm (t.length + 1) fun k => T q k (t.length + us.length) * sm (t.length + 1) (B k) := by
      rw [sm_congr fun i hi => tb.c (t.length + us.length) i hi, sm_swap]
      exact sm_congr fun k _ => sm_mul
    rw [sm_mul, wC_ph0 (by omega), Int.mul_zero] at x
    have y : (0 : Int) = (sm t.length fun k => T q k (t.length + us.length) * sm (t.length + 1) (B k)) + T q t.length (t.length + us.length) * sm (t.length + 1) (B t.length) := x
    have l1 : sm (t.length + 1) (B t.length) = 1 := by
      rw [lb, sm_one (k := t.length) (Nat.lt_succ_self _) fun j _ jn => if_neg jn, if_pos rfl]
    rw [l1, Int.mul_one, ← ti.ct _ (by omega)] at y
    have ge : ∀ n, n ≤ t.length → 0 ≤ (sm n fun k => T q k (t.length + us.length) * sm (t.length + 1) (B k)) := fun n => by
      induction n with
      | zero => exact fun _ => Int.le_refl _
      | succ n ih =>
        intro hn
        have a1 := ih (by omega)
        have a2 := Int.mul_nonneg (nq n (by omega)) (wC_ph (n := t.length) (m := us.length) (us := us) (t := t) (bs q n))
        rw [← eB n (by omega)] at a2
        show 0 ≤ (sm n fun k => T q k (t.length + us.length) * sm (t.length + 1) (B k)) + T q n (t.length + us.length) * sm (t.length + 1) (B n)
        omega
    have := ge t.length (Nat.le_refl _)
    omega
/-- the end with yes: the weights -/
theorem St.yes {us : List (List Int)} {t : List Int} {rows : List (List Int)} {costs basis : List Int} {D : Int} {q : Nat} (h : St us t rows costs basis D q) (z : en costs (t.length + us.length) = 0) {w : List Int} (W : Wts t.length us.length rows basis t.length w) :
    (∀ x ∈ w, 0 ≤ x) ∧ ∀ i, i < t.length → D * en t i = sm us.length fun j => en w j * en (us.getD j []) i := by
  obtain ⟨bs, T, Ds, r, cc, R, ti, rfl, rfl, lt⟩ := h.ex
  have tq := R.tc q (Nat.zero_le q) (Nat.le_refl q)
  have nq := R.nn q (Nat.zero_le q) (Nat.le_refl q)
  have dp := tq.pos
  obtain ⟨B, tb, eB, lb⟩ := tq.b
  have eb : ∀ k, k < t.length → en ((List.range t.length).map (fun k => (bs q k : Int))) k = (bs q k : Int) := fun k hk => map_len_range hk
  have c0 : T q t.length (t.length + us.length) = 0 := by rw [← ti.ct _ (by omega)]; exact z
  have hy := tq.yes nq (fun k _ => wC_ph _) (wC_ph0 (by omega)) c0
  have inj : ∀ k l, k < t.length → l < t.length → bs q k = bs q l → k = l := fun k l hk hl e => by
    refine Classical.byContradiction fun no => ?_
    have h1 := tq.unit hk (l := k) (by omega)
    have h2 := tq.unit hl (l := k) (by omega)
    rw [if_pos rfl, e] at h1
    rw [if_neg no, h1] at h2
    omega
  -- the weight of a column
  have wj : ∀ j, j < us.length → en w j = sm t.length fun k => if bs q k = t.length + j then T q k (t.length + us.length) else 0 := fun j hj => by
    rcases W.2 j hj with ⟨k, hk, e1, e2⟩ | ⟨no, e2⟩
    · rw [eb k hk] at e1
      rw [e2, sm_one (k := k) hk fun l hl ne => if_neg fun z => ne (inj l k hl hk (by omega)), if_pos (by omega), ti.rt k _ hk (by omega)]
    · rw [e2, sm_zero fun k hk => if_neg fun z => ?_]
      have := no k hk
      rw [eb k hk] at this
      exact this (by omega)
  refine ⟨fun x hx => ?_, fun i hi => ?_⟩
  · obtain ⟨j, hj, rfl⟩ := List.getElem_of_mem hx
    have hj2 : j < us.length := by rw [← W.1]; exact hj
    rw [show w[j] = en w j from (getD_some (List.getElem?_eq_getElem hj)).symm]
    rcases W.2 j hj2 with ⟨k, hk, _, e2⟩ | ⟨_, e2⟩
    · rw [e2, ti.rt k _ hk (by omega)]
      exact nq k hk
    · rw [e2]
      exact Int.le_refl _
  · obtain ⟨s1, _, _⟩ := sgl_sq hi
    have e1 := tb.c (t.length + us.length) i (by omega)
    rw [wC_in (by omega) hi] at e1
    unfold wv at e1
    rw [if_neg (by omega)] at e1
    have e2 : (sm (t.length + 1) fun k => T q k (t.length + us.length) * B k i) = en (sgl t) i * sm us.length fun j => en w j * en (us.getD j []) i := by
      show (sm t.length fun k => T q k (t.length + us.length) * B k i) + T q t.length (t.length + us.length) * B t.length i = _
      rw [c0, Int.zero_mul, Int.add_zero, ← sm_mul, sm_congr (n := us.length) (g := fun j => sm t.length fun k => if bs q k = t.length + j then T q k (t.length + us.length) * B k i else 0) fun j hj => ?_, sm_swap]
      · refine sm_congr fun k hk => ?_
        by_cases c : bs q k < t.length
        · rw [sm_zero fun j _ => if_neg (by omega)]
          have := hy k hk
          rw [wC_ph1 c, Int.mul_one] at this
          rw [this, Int.zero_mul]
        · have lk := lt q (Nat.le_refl q) k hk
          rw [sm_one (k := bs q k - t.length) (by omega) fun j _ ne => if_neg (by omega), if_pos (by omega)]
      · rw [wj j hj, Int.mul_comm (sm _ _), ← Int.mul_assoc, ← sm_mul]
        refine sm_congr fun k hk => ?_
        by_cases c : bs q k = t.length + j
        · rw [if_pos c, if_pos c, eB k hk, c, wC_in (by omega) hi]
          unfold wv
          rw [if_pos (by omega), show t.length + j - t.length = j by omega, Int.mul_comm]
        · rw [if_neg c, if_neg c, Int.mul_zero]
    rw [e2] at e1
    have e3 : en (sgl t) i * (Ds q * (en (sgl t) i * en t i)) = en (sgl t) i * (en (sgl t) i * sm us.length fun j => en w j * en (us.getD j []) i) := by rw [e1]
    rw [← Int.mul_assoc, Int.mul_comm (en (sgl t) i) (Ds q), Int.mul_assoc, ← Int.mul_assoc (en (sgl t) i), s1, Int.one_mul, ← Int.mul_assoc (en (sgl t) i), s1, Int.one_mul] at e3
    exact e3

open Rk
/-! ### entries, and what is divided by their common divisor -/
theorem en_at {u : List Int} {j : Nat} (h : j < u.length) : en u j = u[j] := by
  show u.getD j 0 = _
  rw [List.getD_eq_getElem?_getD, List.getElem?_eq_getElem h]
  rfl
theorem en_prim {ns : List Int} {j : Nat} (hj : j < ns.length) (g : 0 < gl ns) : en ns j = gl ns * en (prim ns) j := by
  have e : ns[j]? = some ns[j] := List.getElem?_eq_getElem hj
  have e2 : en (prim ns) j = ns[j] / gl ns := by
    show (prim ns).getD j 0 = _
    rw [List.getD_eq_getElem?_getD, prim_get e g]
    rfl
  rw [en_at hj, e2, Int.mul_ediv_cancel' (gl_dvd (List.getElem_mem hj))]
theorem dv_prim {N : Nat} {ns : List Int} {x : Nat → Int} (hl : ns.length = N) (g : 0 < gl ns) : dv N ns x = gl ns * dv N (prim ns) x := by
  unfold dv
  rw [← sm_mul]
  exact sm_congr fun j hj => by rw [en_prim (by omega) g, Int.mul_assoc]
theorem prim_pos0 {ns : List Int} (h : 0 < en ns 0) (l : 0 < ns.length) : 0 < gl ns ∧ 0 < en (prim ns) 0 := by
  have g := gl_pos (ns := ns) (en_mem l) (by omega)
  refine ⟨g, ?_⟩
  have e := en_prim l g
  by_cases c : 0 < en (prim ns) 0
  · exact c
  · have := Int.mul_le_mul_of_nonneg_left (show en (prim ns) 0 ≤ 0 by omega) (Int.le_of_lt g)
    rw [Int.mul_zero] at this
    omega
theorem drop_at {u : List Int} {d j : Nat} (hu : u.length = d + 1) (hj : j < d) : (u.drop 1)[j]? = some (en u (j + 1)) := by
  rw [List.getElem?_drop, Nat.add_comm, List.getElem?_eq_getElem (by omega), en_at (by omega)]

open Rk Gd
abbrev s_weighing : Stmt := topS 14
theorem sc_weighing : FnScope ["vectors", "target", "table", "column", "found"] ["vectors", "target"] (defScope s_weighing) := ⟨rfl, rfl, rfl, by decide +kernel, rfl, by decide +kernel, by decide +kernel⟩
/-- sizes that a weighing allows -/
def wgE (n b : Nat) : Nat := 20 + (n + 1) * (b + 3)
theorem noPart_slW {σ : L2.St} {H : Hp} {Q : VK} {r : V → Option Int → Option Int → Hp → VK → Prop} {x : V} {hi : L2.St → Hp → (Option Int → Hp → Prop) → Prop} (h : hi σ H fun u H3 => r x none u H3 Q) : tNoPart σ H (fun l H2 => hi σ H2 fun u H3 => r x l u H3 Q) := h
theorem cut_butlast (xs : List V) (x : V) : cutV (xs ++ [x]) none (some (-1)) = xs := by
  unfold cutV
  have e : HT.sIx (xs ++ [x]).length (xs ++ [x]).length (some (-1)) = xs.length := by
    rw [List.length_append]
    show HT.sIx (xs.length + 1) (xs.length + 1) (some (-1)) = xs.length
    unfold HT.sIx
    simp
    omega
  rw [HT.sIx_none, e, List.drop_zero, Nat.sub_zero, List.take_left]
def EntV (n m : Nat) (costs : List Int) (v : V) : Prop := (∃ j : Nat, v = .int (j : Int) ∧ n ≤ j ∧ j < n + m ∧ en costs j < 0 ∧ ∀ i, n ≤ i → i < j → 0 ≤ en costs i) ∨ (v = .non ∧ ∀ j, n ≤ j → j < n + m → 0 ≤ en costs j)
def spWg : Sp := fun vs H Q _ => ∃ (va ta : Addr) (us : List (List Int)) (t : List Int) (b : Nat), vs = [.ref va, .ref ta] ∧ VL H va us ∧ Vc H ta t ∧ t.length ≤ 8 ∧ us.length ≤ 100 ∧ (∀ u ∈ us, u.length = t.length) ∧ b ≤ 199 ∧ wgE t.length b ≤ 1200 ∧ (∀ u ∈ us, ∀ x ∈ u, x.natAbs < 2 ^ b) ∧ (∀ x ∈ t, x.natAbs < 2 ^ b) ∧
  (∀ (H' : Hp) (r pw : Addr) (w : List Int) (T : Int), Same H H' → H' r = some (.tup [.str "yes", .ref pw, .int T]) → Vc H' pw w → w.length = us.length → (∀ x ∈ w, 0 ≤ x) → 1 ≤ T → (∀ i, i < t.length → T * en t i = sm us.length fun j => en w j * en (us.getD j []) i) → (∀ x ∈ w, x.natAbs < 2 ^ wgE t.length b) → T.natAbs < 2 ^ wgE t.length b → Q (.ref r) H') ∧
  (∀ (H' : Hp) (r po : Addr) (o : List Int), Same H H' → H' r = some (.tup [.str "no", .ref po]) → Vc H' po o → o.length = t.length → Pok o → (∀ j, j < us.length → 0 ≤ dv t.length (us.getD j []) (en o)) → dv t.length t (en o) < 0 → (∀ x ∈ o, x.natAbs < 2 ^ (wgE t.length b + 1)) → Q (.ref r) H')
theorem ok_wg {f C : Addr} {fd : FuncData} {k : Nat} (F : Fun K "weighing" "weighing" s_weighing f fd) (Z : Glb mg) (T : TCls K C)
    (KTable : KMake P w K mg base k C "Table" ["self", "vectors", "target"] (spTI C)) (Mentering : MCall P w K mg base (k + 1) C "entering" ["self"] (spEnt C)) (Mleaving : MCall P w K mg base (k + 1) C "leaving" ["self", "column"] (spLv C)) (Mexchange : MCall P w K mg base (k + 1) C "exchange" ["self", "at", "column"] (spExch C)) (Mweights : MCall P w K mg base (k + 1) C "weights" ["self"] (spWts C)) (Mparting : MCall P w K mg base (k + 1) C "parting" ["self"] (spPart C))
    (Cprimitive : Call P w K mg base (k + 1) "primitive" ["v"] spPrimL) : FnOk P w K mg base CX0 (k + 2) f fd ["vectors", "target"] spWg := by
  refine F.ok sc_weighing (fun vs H Q E h => ?_) (fun cdv A outer s H vs Q E hr h => ?_)
  · obtain ⟨va, ta, us, t, b, rfl, _⟩ := h
    rfl
  · obtain ⟨va, ta, us, t, b, rfl, hV, hT, n8, m100, wu, b199, hE, bu, bt, qy, qn⟩ := h
    refine ⟨_, (pss_cut (ps_set (i := 2) sc_weighing.nd rfl (.inl rfl) (pe_make KTable.M KTable.G hr (by rfl) KTable.mg KTable.b .nil pass0 (pa_cons (pv 0) (pa_cons (pv 1) pa_nil))))
      (pss_cut (ps_set (i := 3) sc_weighing.nd rfl (.inl rfl) (pe_meth0 (pv 2) Mentering.cl Mentering.m Mentering.G hr Mentering.b .nil pass0))
      (pss_cut (ps_while PassesOwn.never (pt_cmp (pc_notN (pv 3))) (pss_cons (ps_expr (pe_meth (pv 2) Mexchange.cl Mexchange.m Mexchange.G hr Mexchange.b .nil pass0 (pa_cons (pe_meth (pv 2) Mleaving.cl Mleaving.m Mleaving.G hr Mleaving.b .nil pass0 (pa_cons (pv 3) pa_nil)) (pa_cons (pv 3) pa_nil))))
      (pss_one (ps_set (i := 3) sc_weighing.nd rfl (.inl rfl) (pe_meth0 (pv 2) Mentering.cl Mentering.m Mentering.G hr Mentering.b .nil pass0)))))
      (pss_cut (ps_if (pt_cmpR op_eq (pe_ix (r := rIxL K) ix_list (pe_fld (pv 2) rfl) (pe_un un_neg pe_int) (fun _ _ => rfl)) pe_int (nomark _)) (pss_cut (ps_set (i := 4) sc_weighing.nd rfl (.inl rfl) (pe_call Cprimitive.G hr (by rfl) Cprimitive.m Cprimitive.kp Cprimitive.b .nil pass0 (pa_cons (pe_op (r := rCatA K) op_catA (pe_meth0 (pv 2) Mweights.cl Mweights.m Mweights.G hr Mweights.b .nil pass0) (pe_tup (pa_cons (pe_fld (pv 2) rfl) pa_nil))) pa_nil)))
      (pss_one (ps_ret (pe_tup (pa_cons pe_str (pa_cons (pe_slice (r := rSlA K) sl_tupA (pv 4) po_none (po_some (pe_un un_neg pe_int))) (pa_cons (pe_ix (r := rIxT K) ix_tup (pv 4) (pe_un un_neg pe_int) (fun _ _ => rfl)) pa_nil))))))) pss_nil)
      (pss_one (ps_ret (pe_tup (pa_cons pe_str (pa_cons (pe_call Cprimitive.G hr (by rfl) Cprimitive.m Cprimitive.kp Cprimitive.b .nil pass0 (pa_cons (pe_meth0 (pv 2) Mparting.cl Mparting.m Mparting.G hr Mparting.b .nil pass0) pa_nil)) pa_nil))))))))), ?_⟩
    have lo : ∀ {M : Nat}, (2 : Nat) ^ M = 2 ^ M := rfl
    have up200 : ∀ {x : Int}, x.natAbs < 2 ^ b → x.natAbs < 2 ^ 200 := fun h => Nat.lt_of_lt_of_le h (Nat.pow_le_pow_right (by decide) (by omega))
    have upE : ∀ {x : Int}, x.natAbs < 2 ^ wgE t.length b → x.natAbs < 2 ^ 1200 := fun h => Nat.lt_of_lt_of_le h (Nat.pow_le_pow_right (by decide) hE)
    -- table
    refine ⟨fun σ H' => ∃ (p B : Addr), σ = [some (.ref va), some (.ref ta), some (.ref p), none, none] ∧ Same H H' ∧ H p = none ∧ H B = none ∧ ∃ (rows : List (List Int)) (costs basis : List Int) (D : Int), TOb C H' p B t.length us.length (sgl t) rows costs basis D ∧ St us t rows costs basis D 0, ?_, ?_⟩
    · refine ⟨_, rfl, _, rfl, fun p dx np ndx nex => ⟨p, va, ta, dx, us, t, rfl, upd_same, ?_⟩⟩
      have sb : Same H (upd (upd H dx (.own p)) p (.ins C dx [])) := fun x o e => by
        rw [upd_ne (ne_of_none e np), upd_ne (ne_of_none e ndx)]
        exact e
      generalize upd (upd H dx (.own p)) p (.ins C dx []) = Hb at *
      refine ⟨hV.same sb, hT.same sb, by omega, by omega, wu, fun u hu x hx => up200 (bu u hu x hx), fun x hx => up200 (bt x hx), fun H1 B k1 nB T1 => ⟨rfl, p, B, rfl, fun x o e => k1 x o (ne_of_none e np) (sb _ _ e), np, sb.free nB, _, _, _, _, T1, St.init us t⟩⟩
    rintro σ H1 ⟨p, B, rfl, s1, np, nB, rows, costs, basis, D, T1, S1⟩
    -- column
    refine ⟨fun σ H' => H' = H1 ∧ ∃ v, σ = [some (.ref va), some (.ref ta), some (.ref p), some v, none] ∧ EntV t.length us.length costs v, ?_, ?_⟩
    · obtain ⟨dx, Sg, R, Cc, rs, ep, _⟩ := id T1
      refine ⟨_, rfl, p, dx, _, rfl, ep, rfl, p, _, _, _, rows, costs, basis, D, rfl, T1.to, S1.lens.2.2.1, by omega, fun j h1 h2 h3 h4 => ⟨rfl, _, rfl, .inl ⟨j, rfl, h1, h2, h3, h4⟩⟩, fun h => ⟨rfl, _, rfl, .inr ⟨rfl, h⟩⟩⟩
    rintro σ H2 ⟨rfl, v, rfl, hv⟩
    -- the exchanges
    refine ⟨fun σ H' => ∃ (rows : List (List Int)) (costs basis : List Int) (D : Int) (q : Nat), σ = [some (.ref va), some (.ref ta), some (.ref p), some .non, none] ∧ Same H H' ∧ TOb C H' p B t.length us.length (sgl t) rows costs basis D ∧ St us t rows costs basis D q ∧ ∀ j, t.length ≤ j → j < t.length + us.length → 0 ≤ en costs j, ?_, ?_⟩
    · refine ⟨fun m σ H' => ∃ (rows : List (List Int)) (costs basis : List Int) (D : Int) (q : Nat) (v : V), σ = [some (.ref va), some (.ref ta), some (.ref p), some v, none] ∧ Same H H' ∧ TOb C H' p B t.length us.length (sgl t) rows costs basis D ∧ St us t rows costs basis D q ∧ EntV t.length us.length costs v ∧ m + q = 2 ^ (t.length + us.length), ⟨2 ^ (t.length + us.length), rows, costs, basis, D, 0, v, rfl, s1, T1, S1, hv, rfl⟩, fun m σ H5 hW => ?_⟩
      obtain ⟨rows, costs, basis, D, q, v, rfl, s5, T5, S5, hv, hm⟩ := hW
      obtain ⟨lr, lb, lc, lw, hb⟩ := S5.lens
      obtain ⟨D0, bD, bR, bC⟩ := S5.big n8 bu bt
      obtain ⟨dx, Sg, R, Cc, rs, ep, _⟩ := id T5
      have hE' : 20 + (t.length + 1) * (b + 3) ≤ 1200 := hE
      have up : ∀ {x : Int}, x.natAbs < 2 ^ (20 + (t.length + 1) * (b + 3)) → x.natAbs < 2 ^ 1200 := fun h => Nat.lt_of_lt_of_le h (Nat.pow_le_pow_right (by decide) hE')
      rcases hv with ⟨c, rfl, c1, c2, neg, fst⟩ | ⟨rfl, nn⟩
      · refine ⟨_, rfl, _, rfl, iteT ⟨fun σ' H' => ∃ (rows : List (List Int)) (costs basis : List Int) (D : Int) (q' : Nat) (v : V), σ' = [some (.ref va), some (.ref ta), some (.ref p), some v, none] ∧ Same H H' ∧ TOb C H' p B t.length us.length (sgl t) rows costs basis D ∧ St us t rows costs basis D q' ∧ EntV t.length us.length costs v ∧ q' = q + 1, fun σ' H' h => ?_, ?_⟩⟩
        · obtain ⟨rows', costs', basis', D', q', v', rfl, s', T', S', hv', rfl⟩ := h
          have := S'.short
          exact ⟨2 ^ (t.length + us.length) - (q + 1), by omega, rows', costs', basis', D', q + 1, v', rfl, s', T', S', hv', by omega⟩
        · refine ⟨_, rfl, p, dx, _, rfl, ep, rfl, ⟨_, rfl, p, dx, _, rfl, ep, rfl, _, rfl, p, _, _, _, rows, costs, basis, D, c, rfl, T5.to, lr, by omega, by omega, lw, by omega, fun v hv x hx => up (bR v hv x hx), S5.leave c1 c2 neg, fun a ha L => ?_⟩⟩
          refine ⟨_, rfl, p, B, _, _, _, rows, costs, basis, D, a, c, rfl, T5, by omega, by omega, by omega, by omega, lw, lc, by omega, D0, up bD, fun v hv x hx => up (bR v hv x hx), fun x hx => up (bC x hx), fun H6 k6 T6 => ?_⟩
          have s6 : Same H H6 := fun x o e => k6 x o (ne_of_none e np) (ne_of_none e nB) (s5 _ _ e)
          have S6 := S5.step c1 c2 neg fst ha L
          obtain ⟨dx6, Sg6, R6, Cc6, rs6, ep6, _⟩ := id T6
          refine ⟨_, rfl, p, dx6, _, rfl, ep6, rfl, p, _, _, _, _, _, _, _, rfl, T6.to, S6.lens.2.2.1, by omega, fun j h1 h2 h3 h4 => ⟨_, _, _, _, _, _, rfl, s6, T6, S6, .inl ⟨j, rfl, h1, h2, h3, h4⟩, rfl⟩, fun h => ⟨_, _, _, _, _, _, rfl, s6, T6, S6, .inr ⟨rfl, h⟩, rfl⟩⟩
      · exact ⟨_, rfl, _, rfl, iteF ⟨rows, costs, basis, D, q, rfl, s5, T5, S5, nn⟩⟩
    rintro σ H3 ⟨rows, costs, basis, D, q, rfl, s3, T3, S3, nn⟩
    obtain ⟨lr, lb, lc, lw, hb⟩ := S3.lens
    obtain ⟨D0, bD, bR, bC⟩ := S3.big n8 bu bt
    obtain ⟨dx, Sg, R, Cc, rs, ep, eS, eR, hL, eC, eB, _⟩ := id T3
    have f5 : (tf t.length us.length Sg R Cc B D).lookup ("costs" : Str) = some (.ref Cc) := rfl
    have f7 : (tf t.length us.length Sg R Cc B D).lookup ("divisor" : Str) = some (.int D) := rfl
    have hE' : 20 + (t.length + 1) * (b + 3) ≤ 1200 := hE
    have up : ∀ {x : Int}, x.natAbs < 2 ^ (20 + (t.length + 1) * (b + 3)) → x.natAbs < 2 ^ 1200 := fun h => Nat.lt_of_lt_of_le h (Nat.pow_le_pow_right (by decide) hE')
    refine ⟨fun σ H' => H' = H3 ∧ σ = [some (.ref va), some (.ref ta), some (.ref p), some .non, none] ∧ en costs (t.length + us.length) ≠ 0, ?_, ?_⟩
    · refine ⟨_, rfl, p, C, dx, _, _, rfl, ep, T.cl, T.nC, f5, _, rfl, Cc, _, (-1), _, rfl, rfl, SqL.of eC, en_last lc, rfl, _, rfl, ite2 (fun c => ?_) (fun c => ?_)⟩
      · have c0 : en costs (t.length + us.length) = 0 := V.int.inj (of_decide_eq_true c)
        refine ⟨fun σ H' => ∃ (fa : Addr) (w : List Int), σ = [some (.ref va), some (.ref ta), some (.ref p), some .non, some (.ref fa)] ∧ Same H H' ∧ Wts t.length us.length rows basis t.length w ∧ Vc H' fa (prim (w ++ [D])) ∧ ∀ x ∈ w ++ [D], x.natAbs < 2 ^ wgE t.length b, ?_, ?_⟩
        · refine ⟨_, rfl, p, dx, _, rfl, ep, rfl, p, _, _, _, rows, costs, basis, D, rfl, T3.to, lr, by omega, by omega, by omega, lw, hb, fun H5 ra w s5 hw hv => ?_⟩
          have bw : ∀ x ∈ w ++ [D], x.natAbs < 2 ^ wgE t.length b := fun x hx => by
            rcases List.mem_append.mp hx with hx | hx
            · obtain ⟨j, hj, rfl⟩ := List.getElem_of_mem hx
              rw [show w[j] = en w j from (getD_some (List.getElem?_eq_getElem hj)).symm]
              rcases hw.2 j (by rw [← hw.1]; exact hj) with ⟨k, hk, _, e2⟩ | ⟨_, e2⟩
              · rw [e2]
                exact en_lim (bR _ (getD_memW (by omega))) (Nat.two_pow_pos _) _
              · rw [e2]
                exact Nat.two_pow_pos _
            · rw [List.mem_singleton.mp hx]
              exact bD
          refine ⟨_, rfl, p, C, dx, _, _, rfl, s5 _ _ ep, T.cl, T.nD, f7, (by show 1 ≤ sizeLine; decide), fun z nz => cat_h (same_upd nz _ _ hv) upd_same (by rw [List.length_map, hw.1]; show us.length + 1 ≤ 1000; omega) fun H6 r6 s6 h6 => ⟨true, r6, w ++ [D], rfl, by rw [List.map_append]; exact h6, ?_, fun x hx => ?_, fun H7 r7 s7 h7 => ⟨r7, w, rfl, s3.trans (s5.trans ((same_upd nz).trans (s6.trans s7))), hw, h7, bw⟩⟩⟩
          · rw [List.length_append, hw.1]
            show us.length + 1 ≤ 1000
            omega
          · exact Nat.lt_of_lt_of_le (up (bw x hx)) (Nat.pow_le_pow_right (by decide) (by decide))
        rintro σ H5 ⟨fa, w, rfl, s5, hw, hf, bw⟩
        obtain ⟨w0, w1⟩ := S3.yes c0 hw
        have lq : (prim (w ++ [D])).length = us.length + 1 := by
          rw [prim_len, List.length_append, hw.1]
          rfl
        have g : 0 < gl (w ++ [D]) := gl_pos (n := D) (List.mem_append.mpr (.inr (List.mem_singleton.mpr rfl))) (by omega)
        have le : (w ++ [D]).length = us.length + 1 := by rw [List.length_append, hw.1]; rfl
        have enw : ∀ j, j < us.length → en (w ++ [D]) j = en w j := fun j hj => by
          show (w ++ [D]).getD j 0 = w.getD j 0
          rw [List.getD_eq_getElem?_getD, List.getD_eq_getElem?_getD, List.getElem?_append_left (by rw [hw.1]; exact hj)]
        have enD : en (w ++ [D]) us.length = D := by
          show (w ++ [D]).getD us.length 0 = D
          rw [List.getD_eq_getElem?_getD, ← hw.1, List.getElem?_append_right (Nat.le_refl _), Nat.sub_self]
          rfl
        have bq : ∀ x ∈ prim (w ++ [D]), x.natAbs < 2 ^ wgE t.length b := prim_lim bw
        have eq : (prim (w ++ [D])).take us.length ++ [en (prim (w ++ [D])) us.length] = prim (w ++ [D]) := by
          have : (prim (w ++ [D]))[us.length]? = some (en (prim (w ++ [D])) us.length) := by
            rw [List.getElem?_eq_getElem (by omega), en_at (by omega)]
          rw [← take_get this, List.take_of_length_le (by omega)]
        refine ⟨_, rfl, ?_⟩
        refine noPart_slW (r := rSlA K) ?_
        refine ⟨(1 : Int), rfl, (-1 : Int), rfl, ?_⟩
        refine sl_h hf fun H6 r6 s6 h6 => ?_
        refine ⟨_, rfl, _, rfl, fa, _, (-1), _, rfl, rfl, SqT.of (s6 _ _ hf), en_last lq, (by show 3 ≤ sizeLine; decide), fun nr nnr => ?_⟩
        refine qy _ nr r6 ((prim (w ++ [D])).take us.length) _ (s5.trans (s6.trans (same_upd nnr))) upd_same (same_upd nnr _ _ ?_) ?_ ?_ ?_ ?_ ?_ ?_
        · rw [h6]
          have := cut_butlast (((prim (w ++ [D])).take us.length).map V.int) (.int (en (prim (w ++ [D])) us.length))
          rw [show ((prim (w ++ [D])).take us.length).map V.int ++ [V.int (en (prim (w ++ [D])) us.length)] = ((prim (w ++ [D])).take us.length ++ [en (prim (w ++ [D])) us.length]).map V.int by rw [List.map_append]; rfl, eq] at this
          rw [this]
        · rw [List.length_take]
          omega
        · intro x hx
          have hx := List.mem_of_mem_take hx
          rw [show prim (w ++ [D]) = (w ++ [D]).map (· / gl (w ++ [D])) from if_neg (by omega)] at hx
          obtain ⟨y, hy, rfl⟩ := List.mem_map.mp hx
          refine Int.ediv_nonneg ?_ (Int.le_of_lt g)
          rcases List.mem_append.mp hy with hy | hy
          · exact w0 y hy
          · rw [List.mem_singleton.mp hy]
            exact Int.le_of_lt D0
        · have e := en_prim (ns := w ++ [D]) (j := us.length) (by omega) g
          rw [enD] at e
          refine Classical.byContradiction fun no => ?_
          have := Int.mul_nonpos_of_nonneg_of_nonpos (Int.le_of_lt g) (show en (prim (w ++ [D])) us.length ≤ 0 by omega)
          omega
        · intro i hi
          have e := en_prim (ns := w ++ [D]) (j := us.length) (by omega) g
          rw [enD] at e
          refine Int.eq_of_mul_eq_mul_left (a := gl (w ++ [D])) (by omega) ?_
          rw [← Int.mul_assoc, ← e, w1 i hi, ← sm_mul]
          refine sm_congr fun j hj => ?_
          rw [← enw j hj, en_prim (ns := w ++ [D]) (j := j) (by omega) g, Int.mul_assoc]
          have : en ((prim (w ++ [D])).take us.length) j = en (prim (w ++ [D])) j := by
            show (List.take us.length (prim (w ++ [D]))).getD j 0 = (prim (w ++ [D])).getD j 0
            rw [List.getD_eq_getElem?_getD, List.getD_eq_getElem?_getD, List.getElem?_take_of_lt hj]
          rw [this]
        · exact fun x hx => bq x (List.mem_of_mem_take hx)
        · exact bq _ (en_mem (by omega))
      · exact ⟨rfl, rfl, fun z => c (decide_eq_true (congrArg V.int z))⟩
    rintro σ H4 ⟨rfl, rfl, ne0⟩
    obtain ⟨lp, pv1, pv2⟩ := S3.no nn ne0
    have bp : ∀ x ∈ partD (sgl t) costs D, x.natAbs < 2 ^ (wgE t.length b + 1) := fun x hx => by
      unfold partD at hx
      obtain ⟨⟨y, z⟩, hyz, rfl⟩ := List.mem_map.mp hx
      obtain ⟨hy, hz⟩ := List.of_mem_zip hyz
      obtain ⟨e, _, rfl⟩ := List.mem_map.mp hy
      have h1 : (z : Int).natAbs < 2 ^ wgE t.length b := bC z hz
      have h2 : D.natAbs < 2 ^ wgE t.length b := bD
      have e2 : 2 ^ (wgE t.length b + 1) = 2 ^ wgE t.length b + 2 ^ wgE t.length b := by rw [Nat.pow_succ]; omega
      rw [Int.natAbs_mul]
      have h3 : (if e < 0 then (-1 : Int) else 1).natAbs = 1 := by split <;> rfl
      show (if e < 0 then (-1 : Int) else 1).natAbs * (z - D).natAbs < _
      rw [h3, Nat.one_mul]
      omega
    refine ⟨_, rfl, p, dx, _, rfl, ep, rfl, p, _, _, _, rows, costs, basis, D, rfl, T3.to, ?_, ?_, up bD, fun x hx => ?_, fun x hx => up (bC x hx), fun H5 r5 s5 h5 => ⟨true, r5, _, rfl, h5, ?_, fun x hx => ?_, fun H6 r6 s6 h6 => ⟨by show 2 ≤ sizeLine; decide, fun nr nnr => ?_⟩⟩⟩
    · rw [show (sgl t).length = t.length from List.length_map .., lc]
      omega
    · rw [show (sgl t).length = t.length from List.length_map ..]
      omega
    · obtain ⟨e, _, rfl⟩ := List.mem_map.mp hx
      split <;> decide
    · omega
    · exact Nat.lt_of_lt_of_le (bp x hx) (Nat.pow_le_pow_right (by decide) (by omega))
    · have g : 0 < gl (partD (sgl t) costs D) := by
        have : ∃ i, i < t.length ∧ en (partD (sgl t) costs D) i ≠ 0 := Classical.byContradiction fun no => by
          have z : dv t.length t (en (partD (sgl t) costs D)) = 0 := sm_zero fun i hi => by
            have : en (partD (sgl t) costs D) i = 0 := Classical.byContradiction fun ne => no ⟨i, hi, ne⟩
            rw [this, Int.mul_zero]
          omega
        obtain ⟨i, hi, ne⟩ := this
        exact gl_pos (en_mem (by omega)) ne
      have dp : ∀ v : List Int, dv t.length v (en (partD (sgl t) costs D)) = gl (partD (sgl t) costs D) * dv t.length v (en (prim (partD (sgl t) costs D))) := fun v => by
        unfold dv
        rw [← sm_mul]
        refine sm_congr fun i hi => ?_
        rw [en_prim (ns := partD (sgl t) costs D) (j := i) (by omega) g, Int.mul_left_comm]
      refine qn _ nr r6 _ (s3.trans (s5.trans (s6.trans (same_upd nnr)))) upd_same (same_upd nnr _ _ h6) ?_ (pok_prim _) (fun j hj => ?_) ?_ (prim_lim bp)
      · rw [prim_len, lp]
      · have := pv1 j hj
        rw [dp] at this
        refine Classical.byContradiction fun no => ?_
        have := Int.mul_neg_of_pos_of_neg g (show dv t.length (us.getD j []) (en (prim (partD (sgl t) costs D))) < 0 by omega)
        omega
      · rw [dp] at pv2
        refine Classical.byContradiction fun no => ?_
        have := Int.mul_nonneg (Int.le_of_lt g) (show 0 ≤ dv t.length t (en (prim (partD (sgl t) costs D))) by omega)
        omega

def rListOf (K : PySem.W.Frag) : List V → Hp → VK → Prop := fun xs H Q => ∃ p ys, xs = [V.ref p] ∧ (SqL K H p ys ∨ SqT K H p ys) ∧ ∀ l, H l = none → Q (V.ref l) (upd H l (HO.lst ys))

theorem Dt.isInt {p : Addr} {H : Hp} {B n : Nat} {v : V} (d : Dt p H B n v) : ∃ t i b, Kd K H v t i b ∧ isI v = (i && !b) := by
  rcases d.kinds with ⟨_, _, _, _, _, _, _, _, k, e⟩ | ⟨_, _, _, k, e⟩ | ⟨i, b, h, k, e, _, _⟩
  · exact ⟨_, _, _, k, e⟩
  · exact ⟨_, _, _, k, e⟩
  · refine ⟨_, _, _, k, ?_⟩
    rw [e]
    cases i <;> cases b <;> first | rfl | (exact absurd (h rfl) (by decide))
def spIsI (K : PySem.W.Frag) (arg : Str) : Sp := fun vs H Q _ => ∃ v : V, vs = [v] ∧ (∃ t i b, Kd K H v t i b ∧ isI v = (i && !b)) ∧ Q (.bl (isI v)) H

open Rk
/-! ### values bent: the second library -/
abbrev s__law_bent : Stmt := topS 39
theorem sc__law_bent : FnScope ["pool", "value", "at", "turn", "other", "items"] ["pool", "value"] (defScope s__law_bent) := ⟨rfl, rfl, rfl, by decide +kernel, rfl, by decide +kernel, by decide +kernel⟩
theorem pw1 {B : Nat} : 2 ^ (B + 1) = 2 ^ B + 2 ^ B := by rw [Nat.pow_succ]; omega
theorem one_pw {B : Nat} : 1 ≤ 2 ^ B := Nat.one_le_two_pow
theorem ixNt {n j : Nat} (hj : j < n) : ixN n (j : Int) = some j := by
  unfold ixN
  rw [if_pos (by omega), if_pos (by omega)]
  rfl
def spBentN (n : Nat) : Sp := fun vs H Q _ => ∃ (p : Addr) (v : V) (B : Nat), vs = [.ref p, v] ∧ Pl H p ∧ Dt p H B n v ∧ 10 ≤ B ∧ B ≤ 400 ∧ ∀ (H' : Hp) (v' : V), Pl H' p → Keep p H H' → Dt p H' (B + 1) (n + 1) v' → Q v' H'
theorem ok_bentD {f : Addr} {fd : FuncData} {k n : Nat} (F : Fun K "_law_bent" "_law_bent" s__law_bent f fd) (Z : Glb mg) (C_law_draw : Call P w K mg base k "_law_draw" ["pool", "many"] spDraw) (C_law_is_integer : Call P w K mg base k "_law_is_integer" ["actual"] (spIsI K "actual"))
    (G : ∀ m, n = m + 1 → FnOk P w K mg base CX0 k f fd ["pool", "value"] (spBentN m)) (gS : mg "_law_bent" = some (.ref f)) (bS : Binds K fd ["pool", "value"] []) : FnOk P w K mg base CX0 (k + 1) f fd ["pool", "value"] (spBentN n) := by
  refine F.ok sc__law_bent (fun vs H Q E h => ?_) (fun cdv A outer s H vs Q E hr h => ?_)
  · obtain ⟨p, v, B, rfl, _⟩ := h
    rfl
  · obtain ⟨p, v, B, rfl, hP, d, hB1, hB2, q⟩ := h
    have bp : 2 ^ (B + 1) = 2 ^ B + 2 ^ B := pw1
    have bo : 1 ≤ 2 ^ B := one_pw
    have b10 : 2 ^ 10 ≤ 2 ^ B := Nat.pow_le_pow_right (by decide) hB1
    rcases d.kinds with ⟨a, xs, m, rfl, ha, hl, rfl, hx, _⟩ | ⟨i, rfl, hi0, _⟩ | ⟨ib, bb, hib, ⟨T, ty, ht, hi, hb⟩, eI, nt, Kv⟩
    · have C_law_bent : Call P w K mg base k "_law_bent" ["pool", "value"] (spBentN m) := ⟨f, fd, G m rfl, gS, F.kp, bS⟩
      obtain ⟨T, ty, ht, hi, hb⟩ := kd_tup (K := K) ha
      refine ⟨_, (pss_cut (ps_if (PW.pt (pw_and (pt_val (pe_callB (id := "isinstance") (r := rIsi K) call_isi (by rfl) Z.m_isinstance (by decide +kernel) (pa_cons (pv 1) (pa_cons (pe_bltn (u := .type "tuple") (v := .ty "tuple") (by rfl) Z.m_tuple (by decide +kernel) rfl) pa_nil)))) (pw_and (pt_cmpR op_gt (pe_callB call_len_seq (by rfl) Z.m_len PySem.boot_len (pa_cons (pv 1) pa_nil)) pe_int (nomark _)) (pw_and1 (pt_cmpR op_gt (pe_call C_law_draw.G hr (by rfl) C_law_draw.m C_law_draw.kp C_law_draw.b .nil pass0 (pa_cons (pv 0) (pa_cons pe_int pa_nil))) pe_int (nomark _)))))) (pss_cut (ps_set (i := 2) sc__law_bent.nd rfl (.inl rfl) (pe_call C_law_draw.G hr (by rfl) C_law_draw.m C_law_draw.kp C_law_draw.b .nil pass0 (pa_cons (pv 0) (pa_cons (pe_callB call_len_seq (by rfl) Z.m_len PySem.boot_len (pa_cons (pv 1) pa_nil)) pa_nil))))
      (pss_one (ps_ret (pe_op (r := rCatA K) op_catA (pe_op (r := rCatA K) op_catA (pe_slice (r := rSlA K) sl_tupA (pv 1) po_none (po_some (pv 2))) (pe_tup (pa_cons (pe_call C_law_bent.G hr (by rfl) C_law_bent.m C_law_bent.kp C_law_bent.b .nil pass0 (pa_cons (pv 0) (pa_cons (pe_ix (r := rIxT K) ix_tup (pv 1) (pv 2) (fun _ _ => rfl)) pa_nil))) pa_nil))) (pe_slice (r := rSlA K) sl_tupA (pv 1) (po_some (pe_op op_add (pv 2) pe_int)) po_none))))) pss_nil)
      (pss_cut (ps_set (i := 3) sc__law_bent.nd rfl (.inl rfl) (pe_call C_law_draw.G hr (by rfl) C_law_draw.m C_law_draw.kp C_law_draw.b .nil pass0 (pa_cons (pv 0) (pa_cons pe_int pa_nil))))
      (pss_cons (ps_if (pt_cmpR op_eq (pv 3) pe_int (nomark _)) (pss_one (ps_ret (pe_ix (r := rIxT K) ix_tup (pe_tup (pa_cons pe_str (pa_cons pe_bl (pa_cons (pe_tup pa_nil) (pa_cons pe_int (pa_cons (pe_un un_neg pe_int) (pa_cons pe_non (pa_cons pe_bl pa_nil)))))))) (pe_call C_law_draw.G hr (by rfl) C_law_draw.m C_law_draw.kp C_law_draw.b .nil pass0 (pa_cons (pv 0) (pa_cons pe_int pa_nil))) (fun _ _ => rfl)))) pss_nil)
      (pss_cons (ps_if (pt_val (pe_call C_law_is_integer.G hr (by rfl) C_law_is_integer.m C_law_is_integer.kp C_law_is_integer.b .nil pass0 (pa_cons (pv 1) pa_nil))) (pss_one ps_never) pss_nil)
      (pss_cons (ps_if (PW.pt (pw_or (pt_not (pt_val (pe_callB (id := "isinstance") (r := rIsi K) call_isi (by rfl) Z.m_isinstance (by decide +kernel) (pa_cons (pv 1) (pa_cons (pe_bltn (u := .type "tuple") (v := .ty "tuple") (by rfl) Z.m_tuple (by decide +kernel) rfl) pa_nil))))) (pw_or1 (pt_cmpR op_eq (pe_callB call_len_seq (by rfl) Z.m_len PySem.boot_len (pa_cons (pv 1) pa_nil)) pe_int (nomark _))))) (pss_one (ps_ret (pe_ifExp (pt_cmpR op_lt (pv 3) pe_int (nomark _)) (pe_tup (pa_cons (pv 1) (pa_cons pe_int pa_nil))) (pe_tup pa_nil)))) pss_nil)
      (pss_cut (ps_set (i := 2) sc__law_bent.nd rfl (.inl rfl) (pe_call C_law_draw.G hr (by rfl) C_law_draw.m C_law_draw.kp C_law_draw.b .nil pass0 (pa_cons (pv 0) (pa_cons (pe_callB call_len_seq (by rfl) Z.m_len PySem.boot_len (pa_cons (pv 1) pa_nil)) pa_nil))))
      (pss_cons (ps_if (pt_cmpR op_lt (pv 3) pe_int (nomark _)) (pss_one (ps_ret (pe_op (r := rCatA K) op_catA (pe_slice (r := rSlA K) sl_tupA (pv 1) po_none (po_some (pv 2))) (pe_slice (r := rSlA K) sl_tupA (pv 1) (po_some (pe_op op_add (pv 2) pe_int)) po_none)))) pss_nil)
      (pss_cons (ps_if (pt_cmpR op_lt (pv 3) pe_int (nomark _)) (pss_one (ps_ret (pe_op (r := rCatA K) op_catA (pe_op (r := rCatA K) op_catA (pe_slice (r := rSlA K) sl_tupA (pv 1) po_none (po_some (pv 2))) (pe_tup (pa_cons (pe_ix (r := rIxT K) ix_tup (pv 1) (pv 2) (fun _ _ => rfl)) pa_nil))) (pe_slice (r := rSlA K) sl_tupA (pv 1) (po_some (pv 2)) po_none)))) pss_nil)
      (pss_cons (ps_if (pt_cmpR op_eq (pv 3) pe_int (nomark _)) (pss_one (ps_ret (pe_callTy (T := "list") (r := rListOf K) call_list_of (by rfl) Z.m_list (by decide +kernel) (pa_cons (pv 1) pa_nil)))) pss_nil)
      (pss_cons (ps_set (i := 4) sc__law_bent.nd rfl (.inl rfl) (pe_call C_law_draw.G hr (by rfl) C_law_draw.m C_law_draw.kp C_law_draw.b .nil pass0 (pa_cons (pv 0) (pa_cons (pe_callB call_len_seq (by rfl) Z.m_len PySem.boot_len (pa_cons (pv 1) pa_nil)) pa_nil))))
      (pss_cut (ps_set (i := 5) sc__law_bent.nd rfl (.inl rfl) (pe_callTy (T := "list") (r := rListOf K) call_list_of (by rfl) Z.m_list (by decide +kernel) (pa_cons (pv 1) pa_nil)))
      (pss_cut (ps_asg (pe_ix (r := rIxT K) ix_tup (pv 1) (pv 4) (fun _ _ => rfl)) (pg_sub (pv 5) (pv 2) set_list))
      (pss_cut (ps_asg (pe_ix (r := rIxT K) ix_tup (pv 1) (pv 2) (fun _ _ => rfl)) (pg_sub (pv 5) (pv 4) set_list))
      (pss_one (ps_ret (pe_callTy call_tuple_of (by rfl) Z.m_tuple (by decide +kernel) (pa_cons (pv 5) pa_nil))))))))))))))))), ?_⟩
      refine ⟨fun σ H' => σ = [some (.ref p), some (.ref a), none, none, none, none] ∧ Pl H' p ∧ But p H H', ?_, ?_⟩
      · refine ⟨_, rfl, _, _, _, _, _, rfl, ClsV.ty _, ty, kit_ty ht, true, rfl, iteT ⟨_, rfl, _, _, rfl, .inr (SqT.of ha), _, _, rfl, rfl, _, rfl, ite2 (fun e1 => ?_) (fun e1 => iteF ⟨rfl, hP, But.refl _ _⟩)⟩⟩
        have e1' : (0 : Int) < xs.length := of_decide_eq_true e1
        refine ⟨_, rfl, p, _, rfl, by decide, by decide, hP, fun v1 H1 l1' u1 P1 B1 => ⟨_, _, rfl, rfl, _, rfl, ite2 (fun e2 => ?_) (fun e2 => ⟨rfl, P1, B1⟩)⟩⟩
        have ha1 := B1.keep _ _ (hP.ne ha) ha
        refine ⟨fun σ H' => ∃ j : Int, σ = [some (.ref p), some (.ref a), some (.int j), none, none, none] ∧ 0 ≤ j ∧ j < xs.length ∧ Pl H' p ∧ But p H1 H', ⟨_, rfl, _, rfl, _, _, rfl, .inr (SqT.of ha1), p, _, rfl, by omega, Nat.lt_of_le_of_lt (show ((xs.length : Nat) : Int).natAbs ≤ 2 ^ 9 by omega) (Nat.pow_lt_pow_right (by decide) (by decide)), P1, fun j H2 l2 u2 P2 B2 => ⟨j, rfl, l2, u2, P2, B2⟩⟩, ?_⟩
        rintro σ H2 ⟨j, rfl, l2, u2, P2, B2⟩
        obtain ⟨jn, rfl⟩ := Int.eq_ofNat_of_zero_le l2
        have hj : jn < xs.length := by omega
        have K2 := B1.keep.trans B2.keep
        have ha2 := K2 _ _ (hP.ne ha) ha
        refine ⟨_, rfl, _, rfl, _, rfl, sl_h ha2 fun H3 r3 s3 hr3 => ?_⟩
        rw [cut_take] at hr3
        have P3 := P2.same s3
        have K3 := K2.trans (Same.keep s3)
        have g : xs[jn]? = some xs[jn] := List.getElem?_eq_getElem hj
        refine ⟨_, rfl, _, rfl, _, rfl, _, _, _, _, rfl, rfl, SqT.of (s3 _ _ ha2), atI_nat g, p, xs[jn], B, rfl, P3, (hx _ (List.getElem_mem hj)).keep hP K3, hB1, hB2, fun H4 v4 P4 K4 d4 => ⟨Nat.le_of_lt (small1000 (show 1 ≤ 1000 by decide)), fun c nc => ?_⟩⟩
        have s5 := same_upd (o := .tup [v4]) nc
        have P5 := P4.same s5
        have K5 := K4.trans (Same.keep s5)
        have hr5 := K5 _ _ (P3.ne hr3) hr3
        have hc5 : (upd H4 c (.tup [v4])) c = some (.tup [v4]) := upd_same
        have d5 := d4.same s5
        generalize upd H4 c (.tup [v4]) = H5 at *
        have lt1 : (xs.take jn).length = jn := by rw [List.length_take]; omega
        refine cat_h hr5 hc5 (by rw [lt1]; show jn + 1 ≤ 1000; omega) fun H6 r6 s6 hr6 => ?_
        have K6 := (K3.trans K5).trans (Same.keep s6)
        have ha6 := K6 _ _ (hP.ne ha) ha
        refine ⟨_, rfl, _, rfl, _, _, rfl, rfl, _, rfl, ?_⟩
        unfold tNoPart
        refine sl_h ha6 fun H7 r7 s7 hr7 => ?_
        rw [show ((jn : Int) + 1) = ((jn + 1 : Nat) : Int) from rfl, cut_drop] at hr7
        refine cat_h (s7 _ _ hr6) hr7 (by rw [List.length_append, lt1, List.length_drop]; show jn + 1 + _ ≤ 1000; omega) fun H8 r8 s8 hr8 => ?_
        have K8 := (K6.trans (Same.keep s7)).trans (Same.keep s8)
        refine q _ _ (((P5.same s6).same s7).same s8) K8 (.tup hr8 ?_ fun x hxx => ?_)
        · rw [List.length_append, List.length_append, lt1, List.length_drop]
          show jn + 1 + _ ≤ B + 1
          omega
        · have old : ∀ y ∈ xs, Dt p H8 (B + 1) (m + 1) y := fun y hy => ((hx y hy).keep hP K8).up (Nat.le_succ B) (Nat.le_succ m)
          rcases List.mem_append.mp hxx with h | h
          · rcases List.mem_append.mp h with h | h
            · exact old x (List.mem_of_mem_take h)
            · rw [List.mem_singleton.mp h]
              exact ((d5.same s6).same s7).same s8
          · exact old x (List.mem_of_mem_drop h)
      rintro σ H1 ⟨rfl, P1, B1⟩
      refine ⟨fun σ H' => ∃ t : Int, σ = [some (.ref p), some (.ref a), none, some (.int t), none, none] ∧ Pl H' p ∧ But p H1 H', ⟨_, rfl, p, _, rfl, by decide, by decide, P1, fun t H2 l2 u2 P2 B2 => ⟨t, rfl, P2, B2⟩⟩, ?_⟩
      rintro σ H2 ⟨t, rfl, P2, B2⟩
      have K2 : Keep p H H2 := B1.keep.trans B2.keep
      have ha2 : H2 a = some (.tup xs) := K2 _ _ (hP.ne ha) ha
      obtain ⟨T2, ty2, ht2, hi2, hb2⟩ := kd_tup (K := K) ha2
      refine ⟨_, rfl, rfl, _, rfl, ite2 (fun e3 => ?_) (fun e3 => ?_)⟩
      · refine ⟨Nat.zero_le _, fun e ne => ⟨_, rfl, Nat.le_of_lt (small1000 (show 7 ≤ 1000 by decide)), fun tt ntt => ?_⟩⟩
        have s3 := same_upd (o := .tup []) ne
        have s5 := same_upd (o := .tup [.str "x", .bl true, .ref e, .int 0, .int (-1), .non, .bl false]) ntt
        have P5 := (P2.same s3).same s5
        have he := s5 _ _ (upd_same (H := H2) (a := e) (o := .tup []))
        have htt := upd_same (H := upd H2 e (.tup [])) (a := tt) (o := .tup [.str "x", .bl true, .ref e, .int 0, .int (-1), .non, .bl false])
        have KS := (Same.keep (p := p) s3).trans (Same.keep s5)
        generalize upd (upd H2 e (.tup [])) tt (.tup [.str "x", .bl true, .ref e, .int 0, .int (-1), .non, .bl false]) = H5 at *
        refine ⟨_, rfl, p, _, rfl, by decide, by decide, P5, fun v6 H6 l6 u6 P6 B6 => ?_⟩
        have K6 := K2.trans (KS.trans B6.keep)
        have htt6 := B6.keep _ _ (P5.ne htt) htt
        have he6 := B6.keep _ _ (P5.ne he) he
        have hv : v6 = 0 ∨ v6 = 1 ∨ v6 = 2 ∨ v6 = 3 ∨ v6 = 4 ∨ v6 = 5 ∨ v6 = 6 := by omega
        rcases hv with rfl | rfl | rfl | rfl | rfl | rfl | rfl
        · exact ⟨_, _, _, _, rfl, rfl, SqT.of htt6, atI_nat (j := 0) rfl, q _ _ P6 K6 (.str _ _)⟩
        · exact ⟨_, _, _, _, rfl, rfl, SqT.of htt6, atI_nat (j := 1) rfl, q _ _ P6 K6 (.bl _ _)⟩
        · exact ⟨_, _, _, _, rfl, rfl, SqT.of htt6, atI_nat (j := 2) rfl, q _ _ P6 K6 (.tup he6 (Nat.zero_le _) fun x hx => nomatch hx)⟩
        · exact ⟨_, _, _, _, rfl, rfl, SqT.of htt6, atI_nat (j := 3) rfl, q _ _ P6 K6 (.int _ _ (by show 0 < 2 ^ (B + 1); omega))⟩
        · exact ⟨_, _, _, _, rfl, rfl, SqT.of htt6, atI_nat (j := 4) rfl, q _ _ P6 K6 (.int _ _ (by show 1 < 2 ^ (B + 1); omega))⟩
        · exact ⟨_, _, _, _, rfl, rfl, SqT.of htt6, atI_nat (j := 5) rfl, q _ _ P6 K6 (.non _)⟩
        · exact ⟨_, _, _, _, rfl, rfl, SqT.of htt6, atI_nat (j := 6) rfl, q _ _ P6 K6 (.bl _ _)⟩
      refine ⟨_, rfl, _, rfl, ⟨_, _, _, kd_tup ha2, rfl⟩, _, rfl, iteF ?_⟩
      refine ⟨_, rfl, _, _, _, _, _, rfl, ClsV.ty _, ty2, kit_ty ht2, true, rfl, iteF ?_⟩
      refine ⟨_, rfl, _, _, rfl, .inr (SqT.of ha2), rfl, _, rfl, ?_⟩
      refine ite2 (fun ez => ?_) (fun ez => ?_)
      · refine ⟨_, rfl, _, _, rfl, rfl, _, rfl, ite2 (fun e4 => ?_) (fun e4 => ?_)⟩
        · refine ⟨_, rfl, Nat.le_of_lt (small1000 (show 2 ≤ 1000 by decide)), fun l nl => ?_⟩
          have s4 := same_upd (o := .tup [.ref a, .int 0]) nl
          refine q _ _ (P2.same s4) (K2.trans (Same.keep s4)) (.tup upd_same (show 2 ≤ B + 1 by omega) fun y hy => ?_)
          rcases List.mem_cons.mp hy with rfl | hy
          · exact ((d.keep hP K2).same s4).up (Nat.le_succ B) (Nat.le_refl _)
          · rw [List.mem_singleton.mp hy]
            exact .int _ _ (by show 0 < 2 ^ (B + 1); omega)
        · refine ⟨Nat.zero_le _, fun l nl => ?_⟩
          have s4 := same_upd (o := .tup []) nl
          exact q _ _ (P2.same s4) (K2.trans (Same.keep s4)) (.tup upd_same (Nat.zero_le _) fun y hy => nomatch hy)
      have xl : 0 < xs.length := by
        rcases Nat.eq_zero_or_pos xs.length with z | z
        · exact absurd (decide_eq_true (by rw [z]; rfl)) ez
        · exact z
      have memI : ∀ y ∈ xs, ∀ H', Keep p H H' → Dt p H' (B + 1) (m + 1) y := fun y hy H' k => ((hx y hy).keep hP k).up (Nat.le_succ B) (Nat.le_succ m)
      refine ⟨fun σ H' => ∃ jn : Nat, σ = [some (.ref p), some (.ref a), some (.int (jn : Int)), some (.int t), none, none] ∧ jn < xs.length ∧ Pl H' p ∧ But p H2 H', ⟨_, rfl, _, rfl, _, _, rfl, .inr (SqT.of ha2), p, _, rfl, by omega, Nat.lt_of_le_of_lt (show ((xs.length : Nat) : Int).natAbs ≤ 2 ^ 9 by omega) (Nat.pow_lt_pow_right (by decide) (by decide)), P2, fun j H3 l3 u3 P3 B3 => ?_⟩, ?_⟩
      · obtain ⟨jn, rfl⟩ := Int.eq_ofNat_of_zero_le l3
        exact ⟨jn, rfl, by omega, P3, B3⟩
      rintro σ H3 ⟨jn, rfl, hj, P3, B3⟩
      have K3 : Keep p H H3 := K2.trans B3.keep
      have ha3 : H3 a = some (.tup xs) := K3 _ _ (hP.ne ha) ha
      have lt1 : (xs.take jn).length = jn := by rw [List.length_take]; omega
      have g : xs[jn]? = some xs[jn] := List.getElem?_eq_getElem hj
      have done : ∀ (H4 : Hp) (r : Addr) (ys : List V), Same H3 H4 → H4 r = some (.tup ys) → ys.length ≤ B + 1 → (∀ y ∈ ys, y ∈ xs) → Q (.ref r) H4 := fun H4 r ys s4 h1 h2 h3 => q _ _ (P3.same s4) (K3.trans (Same.keep s4)) (.tup h1 h2 fun y hy => memI y (h3 y hy) H4 (K3.trans (Same.keep s4)))
      refine ⟨_, rfl, _, _, rfl, rfl, _, rfl, ite2 (fun e4 => ?_) (fun e4 => ?_)⟩
      · refine ⟨_, rfl, _, rfl, _, rfl, sl_h ha3 fun H4 r4 s4 hr4 => ?_⟩
        rw [cut_take] at hr4
        refine ⟨_, rfl, _, rfl, _, _, rfl, rfl, _, rfl, ?_⟩
        unfold tNoPart
        refine sl_h (s4 _ _ ha3) fun H5 r5 s5 hr5 => ?_
        rw [show ((jn : Int) + 1) = ((jn + 1 : Nat) : Int) from rfl, cut_drop] at hr5
        refine cat_h (s5 _ _ hr4) hr5 (by rw [lt1, List.length_drop]; show jn + _ ≤ 1000; omega) fun H6 r6 s6 hr6 => done H6 r6 _ ((s4.trans s5).trans s6) hr6 (by rw [List.length_append, lt1, List.length_drop]; show jn + _ ≤ B + 1; omega) fun y hy => ?_
        rcases List.mem_append.mp hy with h | h
        · exact List.mem_of_mem_take h
        · exact List.mem_of_mem_drop h
      refine ⟨_, rfl, _, _, rfl, rfl, _, rfl, ite2 (fun e5 => ?_) (fun e5 => ?_)⟩
      · refine ⟨_, rfl, _, rfl, _, rfl, sl_h ha3 fun H4 r4 s4 hr4 => ?_⟩
        rw [cut_take] at hr4
        refine ⟨_, rfl, _, rfl, _, _, _, _, rfl, rfl, SqT.of (s4 _ _ ha3), atI_nat g, Nat.le_of_lt (small1000 (show 1 ≤ 1000 by decide)), fun c nc => ?_⟩
        have s5 := same_upd (o := .tup [xs[jn]]) nc
        have hc5 : (upd H4 c (.tup [xs[jn]])) c = some (.tup [xs[jn]]) := upd_same
        refine cat_h (s5 _ _ hr4) hc5 (by rw [lt1]; show jn + 1 ≤ 1000; omega) fun H6 r6 s6 hr6 => ?_
        have s46 := (s4.trans s5).trans s6
        refine ⟨_, rfl, _, rfl, _, rfl, ?_⟩
        unfold tNoPart
        refine sl_h (s46 _ _ ha3) fun H7 r7 s7 hr7 => ?_
        rw [cut_drop] at hr7
        refine cat_h (s7 _ _ hr6) hr7 (by rw [List.length_append, lt1, List.length_drop]; show jn + 1 + _ ≤ 1000; omega) fun H8 r8 s8 hr8 => done H8 r8 _ ((s46.trans s7).trans s8) hr8 (by rw [List.length_append, List.length_append, lt1, List.length_drop]; show jn + 1 + _ ≤ B + 1; omega) fun y hy => ?_
        rcases List.mem_append.mp hy with h | h
        · rcases List.mem_append.mp h with h | h
          · exact List.mem_of_mem_take h
          · rw [List.mem_singleton.mp h]
            exact List.mem_of_getElem? g
        · exact List.mem_of_mem_drop h
      refine ⟨_, rfl, rfl, _, rfl, ite2 (fun e6 => ?_) (fun e6 => ?_)⟩
      · refine ⟨_, rfl, a, _, rfl, .inr (SqT.of ha3), fun l nl => ?_⟩
        have lp : l ≠ p := by
          obtain ⟨q0, h0⟩ := P3.q
          exact (h0.ne_free nl).1.symm
        exact q _ _ (P3.same (same_upd nl)) (K3.trans (Same.keep (same_upd nl))) (.lst upd_same lp (by omega) fun y hy => memI y hy _ (K3.trans (Same.keep (same_upd nl))))
      refine ⟨_, rfl, _, rfl, _, _, rfl, .inr (SqT.of ha3), p, _, rfl, by omega, Nat.lt_of_le_of_lt (show ((xs.length : Nat) : Int).natAbs ≤ 2 ^ 9 by omega) (Nat.pow_lt_pow_right (by decide) (by decide)), P3, fun j2 H4 l4 u4 P4 B4 => ?_⟩
      obtain ⟨kn, rfl⟩ := Int.eq_ofNat_of_zero_le l4
      have hk : kn < xs.length := by omega
      have gk : xs[kn]? = some xs[kn] := List.getElem?_eq_getElem hk
      have K4 : Keep p H H4 := K3.trans B4.keep
      have ha4 : H4 a = some (.tup xs) := K4 _ _ (hP.ne ha) ha
      refine ⟨fun σ H' => ∃ l, σ = [some (.ref p), some (.ref a), some (.int (jn : Int)), some (.int t), some (.int (kn : Int)), some (.ref l)] ∧ H4 l = none ∧ H' = upd H4 l (.lst xs), ⟨_, rfl, a, _, rfl, .inr (SqT.of ha4), fun l nl => ⟨l, rfl, nl, rfl⟩⟩, ?_⟩
      rintro σ H5 ⟨l, rfl, nl, rfl⟩
      have s5 := same_upd (o := .lst xs) nl
      refine ⟨fun σ H' => σ = [some (.ref p), some (.ref a), some (.int (jn : Int)), some (.int t), some (.int (kn : Int)), some (.ref l)] ∧ H' = upd H4 l (.lst (xs.set jn xs[kn])), ⟨_, rfl, _, rfl, _, _, _, _, rfl, rfl, SqT.of (s5 _ _ ha4), atI_nat gk, _, rfl, _, rfl, _, _, _, _, rfl, rfl, upd_same, ixNt (by exact hj), rfl, upd_upd⟩, ?_⟩
      rintro σ H6 ⟨rfl, rfl⟩
      have s6 := same_upd (o := .lst (xs.set jn xs[kn])) nl
      refine ⟨fun σ H' => σ = [some (.ref p), some (.ref a), some (.int (jn : Int)), some (.int t), some (.int (kn : Int)), some (.ref l)] ∧ H' = upd H4 l (.lst ((xs.set jn xs[kn]).set kn xs[jn])), ⟨_, rfl, _, rfl, _, _, _, _, rfl, rfl, SqT.of (s6 _ _ ha4), atI_nat g, _, rfl, _, rfl, _, _, _, _, rfl, rfl, upd_same, ixNt (by rw [List.length_set]; exact hk), rfl, upd_upd⟩, ?_⟩
      rintro σ H7 ⟨rfl, rfl⟩
      have s7 := same_upd (o := .lst ((xs.set jn xs[kn]).set kn xs[jn])) nl
      refine ⟨_, rfl, l, _, rfl, .inl ⟨SqL.of upd_same, fun l2 nl2 => ?_⟩⟩
      have s8 := s7.trans (same_upd (o := .tup ((xs.set jn xs[kn]).set kn xs[jn])) nl2)
      refine q _ _ (P4.same s8) (K4.trans (Same.keep s8)) (.tup upd_same (by rw [List.length_set, List.length_set]; omega) fun y hy => ?_)
      rcases List.mem_or_eq_of_mem_set hy with h | rfl
      · rcases List.mem_or_eq_of_mem_set h with h | rfl
        · exact memI y h _ (K4.trans (Same.keep s8))
        · exact memI _ (List.mem_of_getElem? gk) _ (K4.trans (Same.keep s8))
      · exact memI _ (List.mem_of_getElem? g) _ (K4.trans (Same.keep s8))
    · obtain ⟨T, ty, ht, hi, hb⟩ := kd_int (K := K) (H := H) i
      refine ⟨_, (pss_cons (ps_if (PW.pt (pw_and (pt_val (pe_callB (id := "isinstance") (r := rIsi K) call_isi (by rfl) Z.m_isinstance (by decide +kernel) (pa_cons (pv 1) (pa_cons (pe_bltn (u := .type "tuple") (v := .ty "tuple") (by rfl) Z.m_tuple (by decide +kernel) rfl) pa_nil)))) (pw_and (pt_cmpR op_gt (pe_callB call_len_seq (by rfl) Z.m_len PySem.boot_len (pa_cons (pv 1) pa_nil)) pe_int (nomark _)) (pw_and1 (pt_cmpR op_gt (pe_call C_law_draw.G hr (by rfl) C_law_draw.m C_law_draw.kp C_law_draw.b .nil pass0 (pa_cons (pv 0) (pa_cons pe_int pa_nil))) pe_int (nomark _)))))) (pss_cons ps_never
      (pss_one ps_never)) pss_nil)
      (pss_cons (ps_set (i := 3) sc__law_bent.nd rfl (.inl rfl) (pe_call C_law_draw.G hr (by rfl) C_law_draw.m C_law_draw.kp C_law_draw.b .nil pass0 (pa_cons (pv 0) (pa_cons pe_int pa_nil))))
      (pss_cons (ps_if (pt_cmpR op_eq (pv 3) pe_int (nomark _)) (pss_one (ps_ret (pe_ix (r := rIxT K) ix_tup (pe_tup (pa_cons pe_str (pa_cons pe_bl (pa_cons (pe_tup pa_nil) (pa_cons pe_int (pa_cons (pe_un un_neg pe_int) (pa_cons pe_non (pa_cons pe_bl pa_nil)))))))) (pe_call C_law_draw.G hr (by rfl) C_law_draw.m C_law_draw.kp C_law_draw.b .nil pass0 (pa_cons (pv 0) (pa_cons pe_int pa_nil))) (fun _ _ => rfl)))) pss_nil)
      (pss_cons (ps_if (pt_val (pe_call C_law_is_integer.G hr (by rfl) C_law_is_integer.m C_law_is_integer.kp C_law_is_integer.b .nil pass0 (pa_cons (pv 1) pa_nil))) (pss_one (ps_ret (pe_op op_add (pv 1) (pe_ix (r := rIxT K) ix_tup (pe_tup (pa_cons pe_int (pa_cons (pe_un un_neg pe_int) (pa_cons pe_int (pa_cons pe_int pa_nil))))) (pe_call C_law_draw.G hr (by rfl) C_law_draw.m C_law_draw.kp C_law_draw.b .nil pass0 (pa_cons (pv 0) (pa_cons pe_int pa_nil))) (fun _ _ => rfl))))) pss_nil)
      (pss_cons ps_never
      (pss_cons ps_never
      (pss_cons ps_never
      (pss_cons ps_never
      (pss_cons ps_never
      (pss_cons ps_never
      (pss_cons ps_never
      (pss_cons ps_never
      (pss_cons ps_never
      (pss_one ps_never)))))))))))))), ?_⟩
      refine ⟨_, rfl, _, _, _, _, _, rfl, ClsV.ty _, ty, kit_ty ht, false, rfl, iteF ?_⟩
      refine ⟨_, rfl, p, _, rfl, by decide, by decide, hP, fun t H2 l2 u2 P2 B2 => ?_⟩
      have K2 : Keep p H H2 := B2.keep
      refine ⟨_, rfl, rfl, _, rfl, ite2 (fun e3 => ?_) (fun e3 => ?_)⟩
      · refine ⟨Nat.zero_le _, fun e ne => ⟨_, rfl, Nat.le_of_lt (small1000 (show 7 ≤ 1000 by decide)), fun tt ntt => ?_⟩⟩
        have s3 := same_upd (o := .tup []) ne
        have s5 := same_upd (o := .tup [.str "x", .bl true, .ref e, .int 0, .int (-1), .non, .bl false]) ntt
        have P5 := (P2.same s3).same s5
        have he := s5 _ _ (upd_same (H := H2) (a := e) (o := .tup []))
        have htt := upd_same (H := upd H2 e (.tup [])) (a := tt) (o := .tup [.str "x", .bl true, .ref e, .int 0, .int (-1), .non, .bl false])
        have KS := (Same.keep (p := p) s3).trans (Same.keep s5)
        generalize upd (upd H2 e (.tup [])) tt (.tup [.str "x", .bl true, .ref e, .int 0, .int (-1), .non, .bl false]) = H5 at *
        refine ⟨_, rfl, p, _, rfl, by decide, by decide, P5, fun v6 H6 l6 u6 P6 B6 => ?_⟩
        have K6 := K2.trans (KS.trans B6.keep)
        have htt6 := B6.keep _ _ (P5.ne htt) htt
        have he6 := B6.keep _ _ (P5.ne he) he
        have hv : v6 = 0 ∨ v6 = 1 ∨ v6 = 2 ∨ v6 = 3 ∨ v6 = 4 ∨ v6 = 5 ∨ v6 = 6 := by omega
        rcases hv with rfl | rfl | rfl | rfl | rfl | rfl | rfl
        · exact ⟨_, _, _, _, rfl, rfl, SqT.of htt6, atI_nat (j := 0) rfl, q _ _ P6 K6 (.str _ _)⟩
        · exact ⟨_, _, _, _, rfl, rfl, SqT.of htt6, atI_nat (j := 1) rfl, q _ _ P6 K6 (.bl _ _)⟩
        · exact ⟨_, _, _, _, rfl, rfl, SqT.of htt6, atI_nat (j := 2) rfl, q _ _ P6 K6 (.tup he6 (Nat.zero_le _) fun x hx => nomatch hx)⟩
        · exact ⟨_, _, _, _, rfl, rfl, SqT.of htt6, atI_nat (j := 3) rfl, q _ _ P6 K6 (.int _ _ (by show 0 < 2 ^ (B + 1); omega))⟩
        · exact ⟨_, _, _, _, rfl, rfl, SqT.of htt6, atI_nat (j := 4) rfl, q _ _ P6 K6 (.int _ _ (by show 1 < 2 ^ (B + 1); omega))⟩
        · exact ⟨_, _, _, _, rfl, rfl, SqT.of htt6, atI_nat (j := 5) rfl, q _ _ P6 K6 (.non _)⟩
        · exact ⟨_, _, _, _, rfl, rfl, SqT.of htt6, atI_nat (j := 6) rfl, q _ _ P6 K6 (.bl _ _)⟩
      refine ⟨_, rfl, _, rfl, ⟨_, _, _, kd_int i, rfl⟩, _, rfl, iteT ?_⟩
      refine ⟨_, rfl, _, rfl, Nat.le_of_lt (small1000 (show 4 ≤ 1000 by decide)), fun tt ntt => ?_⟩
      have s5 := same_upd (o := .tup [.int 1, .int (-1), .int 2, .int 0]) ntt
      have P5 := P2.same s5
      have htt := upd_same (H := H2) (a := tt) (o := .tup [.int 1, .int (-1), .int 2, .int 0])
      have KS := (Same.keep (p := p) s5)
      generalize upd H2 tt (.tup [.int 1, .int (-1), .int 2, .int 0]) = H5 at *
      refine ⟨_, rfl, p, _, rfl, by decide, by decide, P5, fun v6 H6 l6 u6 P6 B6 => ?_⟩
      have K6 := K2.trans (KS.trans B6.keep)
      have htt6 := B6.keep _ _ (P5.ne htt) htt
      have hv : v6 = 0 ∨ v6 = 1 ∨ v6 = 2 ∨ v6 = 3 := by omega
      rcases hv with rfl | rfl | rfl | rfl
      · exact ⟨_, _, _, _, rfl, rfl, SqT.of htt6, atI_nat (j := 0) rfl, _, _, rfl, rfl, q _ _ P6 K6 (.int _ _ (by omega))⟩
      · exact ⟨_, _, _, _, rfl, rfl, SqT.of htt6, atI_nat (j := 1) rfl, _, _, rfl, rfl, q _ _ P6 K6 (.int _ _ (by omega))⟩
      · exact ⟨_, _, _, _, rfl, rfl, SqT.of htt6, atI_nat (j := 2) rfl, _, _, rfl, rfl, q _ _ P6 K6 (.int _ _ (by omega))⟩
      · exact ⟨_, _, _, _, rfl, rfl, SqT.of htt6, atI_nat (j := 3) rfl, _, _, rfl, rfl, q _ _ P6 K6 (.int _ _ (by omega))⟩
    · refine ⟨_, (pss_cons (ps_if (PW.pt (pw_and (pt_val (pe_callB (id := "isinstance") (r := rIsi K) call_isi (by rfl) Z.m_isinstance (by decide +kernel) (pa_cons (pv 1) (pa_cons (pe_bltn (u := .type "tuple") (v := .ty "tuple") (by rfl) Z.m_tuple (by decide +kernel) rfl) pa_nil)))) (pw_and (pt_cmpR op_gt (pe_callB call_len_seq (by rfl) Z.m_len PySem.boot_len (pa_cons (pv 1) pa_nil)) pe_int (nomark _)) (pw_and1 (pt_cmpR op_gt (pe_call C_law_draw.G hr (by rfl) C_law_draw.m C_law_draw.kp C_law_draw.b .nil pass0 (pa_cons (pv 0) (pa_cons pe_int pa_nil))) pe_int (nomark _)))))) (pss_cons ps_never
      (pss_one ps_never)) pss_nil)
      (pss_cons (ps_set (i := 3) sc__law_bent.nd rfl (.inl rfl) (pe_call C_law_draw.G hr (by rfl) C_law_draw.m C_law_draw.kp C_law_draw.b .nil pass0 (pa_cons (pv 0) (pa_cons pe_int pa_nil))))
      (pss_cons (ps_if (pt_cmpR op_eq (pv 3) pe_int (nomark _)) (pss_one (ps_ret (pe_ix (r := rIxT K) ix_tup (pe_tup (pa_cons pe_str (pa_cons pe_bl (pa_cons (pe_tup pa_nil) (pa_cons pe_int (pa_cons (pe_un un_neg pe_int) (pa_cons pe_non (pa_cons pe_bl pa_nil)))))))) (pe_call C_law_draw.G hr (by rfl) C_law_draw.m C_law_draw.kp C_law_draw.b .nil pass0 (pa_cons (pv 0) (pa_cons pe_int pa_nil))) (fun _ _ => rfl)))) pss_nil)
      (pss_cons (ps_if (pt_val (pe_call C_law_is_integer.G hr (by rfl) C_law_is_integer.m C_law_is_integer.kp C_law_is_integer.b .nil pass0 (pa_cons (pv 1) pa_nil))) (pss_one ps_never) pss_nil)
      (pss_cons (ps_if (PW.pt (pw_or (pt_not (pt_val (pe_callB (id := "isinstance") (r := rIsi K) call_isi (by rfl) Z.m_isinstance (by decide +kernel) (pa_cons (pv 1) (pa_cons (pe_bltn (u := .type "tuple") (v := .ty "tuple") (by rfl) Z.m_tuple (by decide +kernel) rfl) pa_nil))))) (pw_or1 (pt_cmpR op_eq (pe_callB call_len_seq (by rfl) Z.m_len PySem.boot_len (pa_cons (pv 1) pa_nil)) pe_int (nomark _))))) (pss_one (ps_ret (pe_ifExp (pt_cmpR op_lt (pv 3) pe_int (nomark _)) (pe_tup (pa_cons (pv 1) (pa_cons pe_int pa_nil))) (pe_tup pa_nil)))) pss_nil)
      (pss_cons ps_never
      (pss_cons ps_never
      (pss_cons ps_never
      (pss_cons ps_never
      (pss_cons ps_never
      (pss_cons ps_never
      (pss_cons ps_never
      (pss_cons ps_never
      (pss_one ps_never)))))))))))))), ?_⟩
      refine ⟨_, rfl, _, _, _, _, _, rfl, ClsV.ty _, ty, kit_ty ht, false, rfl, iteF ?_⟩
      refine ⟨_, rfl, p, _, rfl, by decide, by decide, hP, fun t H2 l2 u2 P2 B2 => ?_⟩
      have K2 : Keep p H H2 := B2.keep
      refine ⟨_, rfl, rfl, _, rfl, ite2 (fun e3 => ?_) (fun e3 => ?_)⟩
      · refine ⟨Nat.zero_le _, fun e ne => ⟨_, rfl, Nat.le_of_lt (small1000 (show 7 ≤ 1000 by decide)), fun tt ntt => ?_⟩⟩
        have s3 := same_upd (o := .tup []) ne
        have s5 := same_upd (o := .tup [.str "x", .bl true, .ref e, .int 0, .int (-1), .non, .bl false]) ntt
        have P5 := (P2.same s3).same s5
        have he := s5 _ _ (upd_same (H := H2) (a := e) (o := .tup []))
        have htt := upd_same (H := upd H2 e (.tup [])) (a := tt) (o := .tup [.str "x", .bl true, .ref e, .int 0, .int (-1), .non, .bl false])
        have KS := (Same.keep (p := p) s3).trans (Same.keep s5)
        generalize upd (upd H2 e (.tup [])) tt (.tup [.str "x", .bl true, .ref e, .int 0, .int (-1), .non, .bl false]) = H5 at *
        refine ⟨_, rfl, p, _, rfl, by decide, by decide, P5, fun v6 H6 l6 u6 P6 B6 => ?_⟩
        have K6 := K2.trans (KS.trans B6.keep)
        have htt6 := B6.keep _ _ (P5.ne htt) htt
        have he6 := B6.keep _ _ (P5.ne he) he
        have hv : v6 = 0 ∨ v6 = 1 ∨ v6 = 2 ∨ v6 = 3 ∨ v6 = 4 ∨ v6 = 5 ∨ v6 = 6 := by omega
        rcases hv with rfl | rfl | rfl | rfl | rfl | rfl | rfl
        · exact ⟨_, _, _, _, rfl, rfl, SqT.of htt6, atI_nat (j := 0) rfl, q _ _ P6 K6 (.str _ _)⟩
        · exact ⟨_, _, _, _, rfl, rfl, SqT.of htt6, atI_nat (j := 1) rfl, q _ _ P6 K6 (.bl _ _)⟩
        · exact ⟨_, _, _, _, rfl, rfl, SqT.of htt6, atI_nat (j := 2) rfl, q _ _ P6 K6 (.tup he6 (Nat.zero_le _) fun x hx => nomatch hx)⟩
        · exact ⟨_, _, _, _, rfl, rfl, SqT.of htt6, atI_nat (j := 3) rfl, q _ _ P6 K6 (.int _ _ (by show 0 < 2 ^ (B + 1); omega))⟩
        · exact ⟨_, _, _, _, rfl, rfl, SqT.of htt6, atI_nat (j := 4) rfl, q _ _ P6 K6 (.int _ _ (by show 1 < 2 ^ (B + 1); omega))⟩
        · exact ⟨_, _, _, _, rfl, rfl, SqT.of htt6, atI_nat (j := 5) rfl, q _ _ P6 K6 (.non _)⟩
        · exact ⟨_, _, _, _, rfl, rfl, SqT.of htt6, atI_nat (j := 6) rfl, q _ _ P6 K6 (.bl _ _)⟩
      have d2 := d.keep hP K2
      obtain ⟨Tv, Kv1, Kv2, Kv3, Kv4⟩ := Kv
      have ty2 := Kv1 _ K2
      refine ⟨_, rfl, _, rfl, d2.isInt, _, rfl, ?_⟩
      rw [eI]
      refine iteF ?_
      refine ⟨_, rfl, _, _, _, _, _, rfl, ClsV.ty _, ty2, kit_ty Kv2, false, rfl, iteT ?_⟩
      refine ⟨_, rfl, _, _, rfl, rfl, _, rfl, ite2 (fun e4 => ?_) (fun e4 => ?_)⟩
      · refine ⟨_, rfl, Nat.le_of_lt (small1000 (show 2 ≤ 1000 by decide)), fun l nl => ?_⟩
        have s4 := same_upd (o := .tup [v, .int 0]) nl
        refine q _ _ (P2.same s4) (K2.trans (Same.keep s4)) (.tup upd_same (show 2 ≤ B + 1 by omega) fun y hy => ?_)
        rcases List.mem_cons.mp hy with rfl | hy
        · exact (d2.same s4).up (Nat.le_succ B) (Nat.le_refl _)
        · rw [List.mem_singleton.mp hy]
          exact .int _ _ (by show 0 < 2 ^ (B + 1); omega)
      · refine ⟨Nat.zero_le _, fun l nl => ?_⟩
        have s4 := same_upd (o := .tup []) nl
        exact q _ _ (P2.same s4) (K2.trans (Same.keep s4)) (.tup upd_same (Nat.zero_le _) fun y hy => nomatch hy)

abbrev s_is_integer : Stmt := topS 2
theorem sc_is_integer : FnScope ["value"] ["value"] (defScope s_is_integer) := ⟨rfl, rfl, rfl, by decide +kernel, rfl, by decide +kernel, by decide +kernel⟩
theorem ok_pint {f : Addr} {fd : FuncData} {k : Nat} (F : Fun K "is_integer" "is_integer" s_is_integer f fd) (Z : Glb mg) : FnOk P w K mg base CX0 (k + 1) f fd ["value"] (spIsI K "value") := by
  refine F.ok sc_is_integer (fun vs H Q E h => ?_) (fun cdv A outer s H vs Q E hr h => ?_)
  · obtain ⟨v, rfl, _⟩ := h
    rfl
  · obtain ⟨v, rfl, ⟨t, i, b, ⟨T, ty, ht, hi, hb⟩, e⟩, q⟩ := h
    refine ⟨_, (pss_one (ps_ret (pe_and (pe_callB (id := "isinstance") (r := rIsi K) call_isi (by rfl) Z.m_isinstance (by decide +kernel) (pa_cons (pv 0) (pa_cons (pe_bltn (u := .type "int") (v := .ty "int") (by rfl) Z.m_int (by decide +kernel) rfl) pa_nil))) (pe_one (pe_not (pe_callB (id := "isinstance") (r := rIsi K) call_isi (by rfl) Z.m_isinstance (by decide +kernel) (pa_cons (pv 0) (pa_cons (pe_bltn (u := .type "bool") (v := .ty "bool") (by rfl) Z.m_bool (by decide +kernel) rfl) pa_nil)))))))), ?_⟩
    rw [e] at q
    refine ⟨_, rfl, _, _, _, _, _, rfl, ClsV.ty _, ty, kit_ty hi, i, rfl, ?_⟩
    cases i with
    | false => exact iteF q
    | true => exact iteT ⟨_, rfl, _, _, _, _, _, rfl, ClsV.ty _, ty, kit_ty hb, b, rfl, q⟩

/-- a vector of so many ints -/
def VecOf (H : Hp) (v : V) (L : Nat) : Prop := ∃ a ns, v = .ref a ∧ Vc H a ns ∧ ns.length = L
theorem ints_of {xs : List V} (h : xs.all isI = true) : ∃ ns : List Int, xs = ns.map V.int := by
  induction xs with
  | nil => exact ⟨[], rfl⟩
  | cons x r ih =>
    rw [List.all_cons, Bool.and_eq_true] at h
    obtain ⟨ns, e⟩ := ih h.2
    cases x with
    | int i => exact ⟨i :: ns, by rw [e]; rfl⟩
    | _ => exact absurd h.1 Bool.false_ne_true
theorem all_ints (ns : List Int) : (ns.map V.int).all isI = true := by
  induction ns with
  | nil => rfl
  | cons n r ih =>
    rw [List.map_cons, List.all_cons, ih]
    rfl
theorem vec_iff {H : Hp} {a : Addr} {xs : List V} {L : Nat} (h : H a = some (.tup xs)) : VecOf H (.ref a) L ↔ (xs.length = L ∧ xs.all isI = true) := by
  constructor
  · rintro ⟨a', ns, e, hv, hl⟩
    cases e
    have := h.symm.trans hv
    injection this with this
    injection this with this
    subst this
    rw [List.length_map]
    exact ⟨hl, all_ints ns⟩
  · rintro ⟨h1, h2⟩
    obtain ⟨ns, rfl⟩ := ints_of h2
    rw [List.length_map] at h1
    exact ⟨a, ns, rfl, h, h1⟩
theorem vec_tup {H : Hp} {v : V} {L : Nat} (h : VecOf H v L) : ∃ a xs, v = .ref a ∧ H a = some (.tup xs) := by
  obtain ⟨a, ns, rfl, hv, _⟩ := h
  exact ⟨a, _, rfl, hv⟩
theorem not_vec {H : Hp} {v : V} {L : Nat} (k : ∀ a xs, v = .ref a → H a ≠ some (.tup xs)) : ¬ VecOf H v L := fun z => by
  obtain ⟨a, xs, e, h⟩ := vec_tup z
  exact k a xs e h
/-- a Bool that tells a proposition -/
def spIsVec (x y : Str) : Sp := fun vs H Q _ => ∃ (L : Nat) (v : V) (p : Addr) (B n : Nat), vs = [.int L, v] ∧ Dt p H B n v ∧ B ≤ 500 ∧ ∀ (H' : Hp) (b : Bool), Same H H' → (b = true ↔ VecOf H v L) → Q (.bl b) H'

abbrev s_is_vector : Stmt := topS 3
theorem sc_is_vector : FnScope ["length", "value", "entry"] ["length", "value"] (defScope s_is_vector) := ⟨rfl, rfl, rfl, by decide +kernel, rfl, by decide +kernel, by decide +kernel⟩
theorem ok_pvec {f : Addr} {fd : FuncData} {k : Nat} (F : Fun K "is_vector" "is_vector" s_is_vector f fd) (Z : Glb mg)
    (Cis_integer : Call P w K mg base k "is_integer" ["value"] (spIsI K "value")) : FnOk P w K mg base CX0 (k + 1) f fd ["length", "value"] (spIsVec "length" "value") := by
  refine F.ok sc_is_vector (fun vs H Q E h => ?_) (fun cdv A outer s H vs Q E hr h => ?_)
  · obtain ⟨L, v, p, B, n, rfl, _⟩ := h
    rfl
  · obtain ⟨L, v, p, B, n, rfl, d, hB, q⟩ := h
    refine ⟨_, (pss_one (ps_ret (pe_and (pe_callB (id := "isinstance") (r := rIsi K) call_isi (by rfl) Z.m_isinstance (by decide +kernel) (pa_cons (pv 1) (pa_cons (pe_bltn (u := .type "tuple") (v := .ty "tuple") (by rfl) Z.m_tuple (by decide +kernel) rfl) pa_nil))) (pe_and (pe_cmpR op_eq (pe_callB call_len_seq (by rfl) Z.m_len PySem.boot_len (pa_cons (pv 1) pa_nil)) (pv 0) (nomark _)) (pe_one (pe_callB (cr_all rfl) (by rfl) Z.m_all (by decide +kernel) (pa_cons (pe_lc (own := [("entry", 2)]) (g := gName 2) (tt := tYes) (by rfl) sc_is_vector.nd (pi_tup (pv 1)) (blkOk_by (own := [("entry", 2)]) (N := ["length", "value", "entry"]) (sc := defScope s_is_vector) (by first | decide +kernel | kernel_rfl)) (fun _ _ _ _ _ => (pg_name (i := 2) sc_is_vector.nd rfl (.inl rfl))) (fun _ _ _ _ _ => pts_nil) (fun _ _ _ _ _ => (pe_call Cis_integer.G hr (by rfl) Cis_integer.m Cis_integer.kp Cis_integer.b .nil pass0 (pa_cons (pv 2) pa_nil)))) pa_nil))))))), ?_⟩
    rcases d.kinds with ⟨a, xs, m, rfl, ha, hl, rfl, hx, ⟨T, ty, ht, _⟩, _⟩ | ⟨i, rfl, _, ⟨T, ty, ht, _⟩, _⟩ | ⟨i, b, _, ⟨T, ty, ht, _⟩, _, nt, _⟩
    · refine ⟨_, rfl, _, _, _, _, _, rfl, ClsV.ty _, ty, kit_ty ht, true, rfl, iteT ?_⟩
      refine ⟨_, rfl, _, _, rfl, .inr (SqT.of ha), _, rfl, rfl, _, rfl, ?_⟩
      by_cases hL : xs.length = L
      · rw [decide_eq_true (by rw [hL])]
        refine iteT ⟨_, rfl, a, rfl, ⟨_, SqT.of ha⟩, fun D nD => ?_⟩
        refine lc_tup (xs := xs) (fun i H' => ∃ H0, Same H H0 ∧ H0 D = none ∧ H' = upd H0 D (.lst (((xs.map isI).take i).map V.bl))) ⟨H, Same.refl _, nD, rfl⟩ (fun i H' _ hP => ?_) (fun i x H' hxi hP => ?_) (fun H' hP => ?_)
        · obtain ⟨H0, s0, n0, rfl⟩ := hP
          exact SqT.of ((s0.trans (same_upd n0)) _ _ ha)
        · obtain ⟨H0, s0, n0, rfl⟩ := hP
          refine ⟨rfl, ?_⟩
          unfold tYes
          refine iteT ?_
          have dx := (hx x (List.mem_of_getElem? hxi)).same (s0.trans (same_upd (o := .lst (((xs.map isI).take i).map V.bl)) n0))
          refine ⟨_, rfl, _, rfl, dx.isInt, _, upd_same, ?_, H0, s0, n0, ?_⟩
          · rw [List.length_map, List.length_take]
            exact Nat.lt_of_le_of_lt (Nat.min_le_right _ _) (small1000 (by rw [List.length_map]; omega))
          · have hg : (xs.map isI)[i]? = some (isI x) := by
              rw [List.getElem?_map, hxi]
              rfl
            rw [upd_upd, take_get hg, List.map_append]
            rfl
        · obtain ⟨H0, s0, n0, rfl⟩ := hP
          rw [show xs.length = (xs.map isI).length by rw [List.length_map], List.take_length]
          refine ⟨D, _, rfl, SqL.of upd_same, q _ _ (s0.trans (same_upd n0)) ?_⟩
          rw [vec_iff ha, List.all_map]
          exact ⟨fun z => ⟨hL, z⟩, fun z => z.2⟩
      · rw [decide_eq_false (fun z => hL (by have := V.int.inj z; omega))]
        exact iteF (q _ _ (Same.refl _) ⟨(fun z => nomatch z), fun z => absurd ((vec_iff ha).mp z).1 hL⟩)
    · exact ⟨_, rfl, _, _, _, _, _, rfl, ClsV.ty _, ty, kit_ty ht, false, rfl, iteF (q _ _ (Same.refl _) ⟨(fun z => nomatch z), fun z => by obtain ⟨a, xs, e, _⟩ := vec_tup z; cases e⟩)⟩
    · exact ⟨_, rfl, _, _, _, _, _, rfl, ClsV.ty _, ty, kit_ty ht, false, rfl, iteF (q _ _ (Same.refl _) ⟨(fun z => nomatch z), fun z => absurd z (not_vec nt)⟩)⟩

open Rk
/-! ### values told: weights, words -/
theorem vc_eq {H : Hp} {a : Addr} {ns ms : List Int} (h : Vc H a ns) (h' : Vc H a ms) : ns = ms := by
  have e := h.symm.trans h'
  injection e with e
  injection e with e
  exact List.map_inj_right (fun x y z => V.int.inj z) |>.mp e
def WtsOf (H : Hp) (v : V) (L : Nat) : Prop := ∃ a ns, v = .ref a ∧ Vc H a ns ∧ ns.length = L ∧ ∀ x ∈ ns, (0 : Int) ≤ x
theorem dt_ints {p a : Addr} {H : Hp} {B n : Nat} {ns : List Int} (d : Dt p H B n (.ref a)) (h : Vc H a ns) : ∀ x ∈ ns, x.natAbs < 2 ^ B := fun x hx => by
  unfold Vc at h
  cases d with
  | tup h' hl hd =>
    rw [h] at h'
    injection h' with h'
    injection h' with h'
    have := hd (.int x) (h' ▸ List.mem_map.mpr ⟨x, hx, rfl⟩)
    cases this with
    | int _ _ h => exact h
  | lst h' _ _ _ =>
    rw [h] at h'
    cases h'
abbrev s_is_weights : Stmt := topS 4
theorem sc_is_weights : FnScope ["length", "value", "entry"] ["length", "value"] (defScope s_is_weights) := ⟨rfl, rfl, rfl, by decide +kernel, rfl, by decide +kernel, by decide +kernel⟩
def spIsWts : Sp := fun vs H Q _ => ∃ (L : Nat) (v : V) (p : Addr) (B n : Nat), vs = [.int L, v] ∧ Dt p H B n v ∧ B ≤ 500 ∧ ∀ (H' : Hp) (b : Bool), Same H H' → (b = true ↔ WtsOf H v L) → Q (.bl b) H'
theorem ok_isw {f : Addr} {fd : FuncData} {k : Nat} (F : Fun K "is_weights" "is_weights" s_is_weights f fd) (Z : Glb mg) (Cis_vector : Call P w K mg base k "is_vector" ["length", "value"] (spIsVec "length" "value")) : FnOk P w K mg base CX0 (k + 1) f fd ["length", "value"] spIsWts := by
  refine F.ok sc_is_weights (fun vs H Q E h => ?_) (fun cdv A outer s H vs Q E hr h => ?_)
  · obtain ⟨L, v, p, B, n, rfl, _⟩ := h
    rfl
  · obtain ⟨L, v, p, B, n, rfl, d, hB, q⟩ := h
    refine ⟨_, (pss_one (ps_ret (pe_and (pe_call Cis_vector.G hr (by rfl) Cis_vector.m Cis_vector.kp Cis_vector.b .nil pass0 (pa_cons (pv 0) (pa_cons (pv 1) pa_nil))) (pe_one (pe_callB (cr_all rfl) (by rfl) Z.m_all (by decide +kernel) (pa_cons (pe_lc (own := [("entry", 2)]) (g := gName 2) (tt := tYes) (by rfl) sc_is_weights.nd (pi_tup (pv 1)) (blkOk_by (own := [("entry", 2)]) (N := ["length", "value", "entry"]) (sc := defScope s_is_weights) (by first | decide +kernel | kernel_rfl)) (fun _ _ _ _ _ => (pg_name (i := 2) sc_is_weights.nd rfl (.inl rfl))) (fun _ _ _ _ _ => pts_nil) (fun _ _ _ _ _ => (pe_cmpR op_ge (pv 2) pe_int (nomark _)))) pa_nil)))))), ?_⟩
    refine ⟨_, rfl, _, rfl, L, v, p, B, n, rfl, d, hB, fun H1 b s1 hb => ⟨b, rfl, ?_⟩⟩
    cases b with
    | false => exact iteF (q _ _ s1 ⟨(fun z => nomatch z), fun ⟨a, ns, e, h1, h2, _⟩ => by have := hb.mpr ⟨a, ns, e, h1, h2⟩; cases this⟩)
    | true =>
      obtain ⟨a, ns, rfl, hv, hL⟩ := hb.mp rfl
      have hv1 : H1 a = some (.tup (ns.map V.int)) := hv.same s1
      have l5 : ns.length ≤ 500 := by
        have hv0 : H a = some (.tup (ns.map V.int)) := hv
        rcases d.kinds (K := K) with ⟨a', xs, m, e, ha, hl, _⟩ | ⟨i, e, _⟩ | ⟨i, b, _, _, _, nt, _⟩
        · cases e
          rw [hv0] at ha
          injection ha with ha
          injection ha with ha
          rw [← ha, List.length_map] at hl
          omega
        · cases e
        · exact absurd hv0 (nt a _ rfl)
      refine iteT ⟨_, rfl, a, rfl, ⟨_, SqT.of hv1⟩, fun D nD => ?_⟩
      refine lc_tup (xs := ns.map V.int) (fun i H' => Same H1 H' ∧ H' D = some (.lst (((ns.map fun x => decide ((0 : Int) ≤ x)).take i).map V.bl))) ⟨same_upd nD, upd_same⟩ (fun i H' _ hP => SqT.of (hP.1 _ _ hv1)) (fun i x H' hx hP => ?_) (fun H' hP => ?_)
      · obtain ⟨x, hx', rfl⟩ := map_get hx
        refine ⟨rfl, ?_⟩
        unfold tYes
        refine iteT ?_
        refine ⟨_, rfl, _, _, rfl, rfl, _, hP.2, ?_, fun y o hy => ?_, ?_⟩
        · rw [List.length_map, List.length_take, List.length_map]
          exact Nat.lt_of_le_of_lt (Nat.min_le_right _ _) (small1000 (by omega))
        · rw [upd_ne (ne_of_none hy nD)]
          exact hP.1 _ _ hy
        · rw [upd_same, take_get (x := decide ((0 : Int) ≤ x)) (by rw [List.getElem?_map, hx']; rfl), List.map_append]
          rfl
      · obtain ⟨s2, e2⟩ := hP
        rw [List.take_of_length_le (by rw [List.length_map, List.length_map]; exact Nat.le_refl _)] at e2
        refine ⟨D, _, rfl, SqL.of e2, ?_⟩
        refine q _ _ (s1.trans s2) ?_
        rw [List.all_map, List.all_eq_true]
        constructor
        · intro h
          exact ⟨a, ns, rfl, hv, hL, fun x hx => of_decide_eq_true (h x hx)⟩
        · rintro ⟨a', ns', e', h1, h2, h3⟩ x hx
          cases e'
          have := vc_eq hv h1
          subst this
          exact decide_eq_true (h3 x hx)
def WordOf (H : Hp) (v : V) (s : Str) (L : Nat) : Prop := ∃ a xs, v = .ref a ∧ H a = some (.tup (.str s :: xs)) ∧ xs.length + 1 = L
theorem Dt.isStr {p : Addr} {H : Hp} {B n : Nat} {v : V} (d : Dt p H B n v) : ∃ (T : String) (b : Bool), TyX K H v (.type T) ∧ kitB T "str" = some b ∧ (b = true ↔ ∃ s, v = .str s) := by
  cases d with
  | non n => exact ⟨_, false, .base .non, by decide +kernel, ⟨(fun z => nomatch z), fun ⟨_, e⟩ => nomatch e⟩⟩
  | bl n b => exact ⟨_, false, .base (.bl b), by decide +kernel, ⟨(fun z => nomatch z), fun ⟨_, e⟩ => nomatch e⟩⟩
  | int n i h => exact ⟨_, false, .base (.int i), by decide +kernel, ⟨(fun z => nomatch z), fun ⟨_, e⟩ => nomatch e⟩⟩
  | str n s => exact ⟨_, true, .base (.str s), by decide +kernel, ⟨fun _ => ⟨s, rfl⟩, fun _ => rfl⟩⟩
  | tup h hl hx => exact ⟨_, false, .base (.tup h), by decide +kernel, ⟨(fun z => nomatch z), fun ⟨_, e⟩ => nomatch e⟩⟩
  | lst h np hl hx => exact ⟨_, false, .base (.lst h), by decide +kernel, ⟨(fun z => nomatch z), fun ⟨_, e⟩ => nomatch e⟩⟩
abbrev s_is_worded : Stmt := topS 5
theorem sc_is_worded : FnScope ["value", "word", "length"] ["value", "word", "length"] (defScope s_is_worded) := ⟨rfl, rfl, rfl, by decide +kernel, rfl, by decide +kernel, by decide +kernel⟩
def spWord : Sp := fun vs H Q _ => ∃ (L : Nat) (s : Str) (v : V) (p : Addr) (B n : Nat), vs = [v, .str s, .int (L : Int)] ∧ Dt p H B n v ∧ 1 ≤ L ∧ B ≤ 500 ∧ ∀ b : Bool, (b = true ↔ WordOf H v s L) → Q (.bl b) H
theorem ok_word {f : Addr} {fd : FuncData} {k : Nat} (F : Fun K "is_worded" "is_worded" s_is_worded f fd) (Z : Glb mg) : FnOk P w K mg base CX0 (k + 1) f fd ["value", "word", "length"] spWord := by
  refine F.ok sc_is_worded (fun vs H Q E h => ?_) (fun cdv A outer s H vs Q E hr h => ?_)
  · obtain ⟨L, s, v, p, B, n, rfl, _⟩ := h
    rfl
  · obtain ⟨L, sw, v, p, B, n, rfl, d, L1, hB, q⟩ := h
    refine ⟨_, (pss_cons (ps_if (PW.pt (pw_or (pt_not (pt_val (pe_callB (id := "isinstance") (r := rIsi K) call_isi (by rfl) Z.m_isinstance (by decide +kernel) (pa_cons (pv 0) (pa_cons (pe_bltn (u := .type "tuple") (v := .ty "tuple") (by rfl) Z.m_tuple (by decide +kernel) rfl) pa_nil))))) (pw_or1 (pt_cmpR op_ne (pe_callB call_len_seq (by rfl) Z.m_len PySem.boot_len (pa_cons (pv 0) pa_nil)) (pv 2) (nomark _))))) (pss_one (ps_ret pe_bl)) pss_nil)
      (pss_one (ps_ret (pe_and (pe_callB (id := "isinstance") (r := rIsi K) call_isi (by rfl) Z.m_isinstance (by decide +kernel) (pa_cons (pe_ix (r := rIxT K) ix_tup (pv 0) pe_int (fun _ _ => rfl)) (pa_cons (pe_bltn (u := .type "str") (v := .ty "str") (by rfl) Z.m_str (by decide +kernel) rfl) pa_nil))) (pe_one (pe_cmpR op_eq (pe_ix (r := rIxT K) ix_tup (pv 0) pe_int (fun _ _ => rfl)) (pv 1) (nomark _))))))), ?_⟩
    rcases d.kinds with ⟨a, xs, m, rfl, ha, hl, rfl, hx, ⟨T, ty, ht, _⟩, _⟩ | ⟨i, rfl, _, ⟨T, ty, ht, _⟩, _⟩ | ⟨i, b, _, ⟨T, ty, ht, _⟩, _, nt, _⟩
    · refine ⟨_, rfl, _, _, _, _, _, rfl, ClsV.ty _, ty, kit_ty ht, true, rfl, iteF ?_⟩
      refine ⟨_, rfl, _, _, rfl, .inr (SqT.of ha), _, rfl, rfl, _, rfl, ite2 (fun c => ?_) (fun c => ?_)⟩
      · refine q _ ⟨(fun z => nomatch z), fun ⟨a', xs', e, h1, h2⟩ => ?_⟩
        cases e
        rw [ha] at h1
        injection h1 with h1
        injection h1 with h1
        rw [h1] at c
        exact absurd (congrArg (fun z : Nat => V.int (z : Int)) (show (V.str sw :: xs').length = L from h2)) (by simpa using c)
      have lL : xs.length = L := by
        have : (xs.length : Int) = (L : Int) := by simpa using c
        omega
      obtain ⟨x0, xr, rfl⟩ : ∃ x0 xr, xs = x0 :: xr := by
        cases xs with
        | nil => exact absurd lL (by show ¬ 0 = L; omega)
        | cons x0 xr => exact ⟨x0, xr, rfl⟩
      obtain ⟨T0, b0, ty0, kb0, s0⟩ := (hx x0 List.mem_cons_self).isStr (K := K)
      refine ⟨_, rfl, _, _, _, _, rfl, rfl, SqT.of ha, atI_nat (j := 0) rfl, _, _, _, _, _, rfl, ClsV.ty _, ty0, kit_ty kb0, b0, rfl, ?_⟩
      cases b0 with
      | false => exact iteF (q _ ⟨(fun z => nomatch z), fun ⟨a', xs', e, h1, h2⟩ => by
          cases e
          rw [ha] at h1
          injection h1 with h1
          injection h1 with h1
          injection h1 with h1
          have := s0.mpr ⟨_, h1⟩
          cases this⟩)
      | true =>
        obtain ⟨t0, rfl⟩ := s0.mp rfl
        refine iteT ⟨_, rfl, _, _, _, _, rfl, rfl, SqT.of ha, atI_nat (j := 0) rfl, _, rfl, ?_⟩

        refine ⟨rfl, q _ ?_⟩
        rw [decide_eq_true_iff]
        constructor
        · intro e
          rw [V.str.inj e] at ha
          exact ⟨a, xr, rfl, ha, lL⟩
        · rintro ⟨a', xs', e, h1, h2⟩
          cases e
          rw [ha] at h1
          injection h1 with h1
          injection h1 with h1
          injection h1 with h1
    · exact ⟨_, rfl, _, _, _, _, _, rfl, ClsV.ty _, ty, kit_ty ht, false, rfl, iteT (q _ ⟨(fun z => nomatch z), fun ⟨a, xs, e, _⟩ => nomatch e⟩)⟩
    · exact ⟨_, rfl, _, _, _, _, _, rfl, ClsV.ty _, ty, kit_ty ht, false, rfl, iteT (q _ ⟨(fun z => nomatch z), fun ⟨a, xs, e, h, _⟩ => absurd h (nt a _ e)⟩)⟩

open Rk
/-! ### systems: slopes, solutions -/
theorem dvzS : ∀ {v u : List Int}, v.length = u.length → (dotz v u).sum = dv v.length v (en u) := fun {v u} h => by
  have : ∀ (n : Nat) (v u : List Int), v.length = n → u.length = n → (dotz v u).sum = sm n fun j => en v j * en u j := by
    intro n
    induction n with
    | zero =>
      intro v u h1 h2
      cases v with
      | nil => rfl
      | cons _ _ => cases h1
    | succ n ih =>
      intro v u h1 h2
      have hv : v = v.take n ++ [en v n] := by
        have : v[n]? = some (en v n) := by rw [List.getElem?_eq_getElem (by omega), en_at (by omega)]
        rw [← take_get this, List.take_of_length_le (by omega)]
      have hu : u = u.take n ++ [en u n] := by
        have : u[n]? = some (en u n) := by rw [List.getElem?_eq_getElem (by omega), en_at (by omega)]
        rw [← take_get this, List.take_of_length_le (by omega)]
      have l1 : (v.take n).length = n := by rw [List.length_take]; omega
      have l2 : (u.take n).length = n := by rw [List.length_take]; omega
      have e : dotz v u = dotz (v.take n) (u.take n) ++ [en v n * en u n] := by
        unfold dotz
        conv => lhs; rw [hv, hu]
        rw [List.zip_append (by rw [l1, l2]), List.map_append]
        rfl
      have t1 : ∀ j, j < n → en (v.take n) j = en v j := fun j hj => by
        show (v.take n).getD j 0 = v.getD j 0
        rw [List.getD_eq_getElem?_getD, List.getD_eq_getElem?_getD, List.getElem?_take_of_lt hj]
      have t2 : ∀ j, j < n → en (u.take n) j = en u j := fun j hj => by
        show (u.take n).getD j 0 = u.getD j 0
        rw [List.getD_eq_getElem?_getD, List.getD_eq_getElem?_getD, List.getElem?_take_of_lt hj]
      rw [e, List.sum_append, ih _ _ l1 l2]
      show _ + (en v n * en u n + 0) = (sm n fun j => en v j * en u j) + en v n * en u n
      rw [Int.add_zero]
      congr 1
      exact sm_congr fun j hj => by rw [t1 j hj, t2 j hj]
  exact this v.length v u rfl h.symm
abbrev s_satisfies : Stmt := topS 22
theorem sc_satisfies : FnScope ["rows", "point", "row"] ["rows", "point"] (defScope s_satisfies) := ⟨rfl, rfl, rfl, by decide +kernel, rfl, by decide +kernel, by decide +kernel⟩
def spSatL : Sp := fun vs H Q _ => ∃ (a b : Addr) (M : List (List Int)) (x : List Int) (N : Nat), vs = [.ref a, .ref b] ∧ VL H a M ∧ Vc H b x ∧ M.length ≤ 900 ∧ N ≤ 100 ∧ x.length = N ∧ (∀ n ∈ x, n.natAbs < 2 ^ 4000) ∧ (∀ v ∈ M, v.length = N ∧ ∀ n ∈ v, n.natAbs < 2 ^ 4000) ∧ ∀ (H' : Hp) (t : Bool), Same H H' → (t = true ↔ ∀ v ∈ M, 0 ≤ dv N v (en x)) → Q (.bl t) H'
theorem all_dv {M : List (List Int)} {x : List Int} {N : Nat} (hx : x.length = N) (hM : ∀ v ∈ M, v.length = N) (p : Int → Bool) : ((M.map fun f => p (dotz f x).sum).all id = true ↔ ∀ v ∈ M, p (dv N v (en x)) = true) := by
  rw [List.all_map, List.all_eq_true]
  constructor
  · intro h v hv
    have := h v hv
    rw [← hM v hv, ← dvzS (by rw [hM v hv, hx])]
    exact this
  · intro h v hv
    have := h v hv
    rw [← hM v hv, ← dvzS (by rw [hM v hv, hx])] at this
    exact this
theorem ok_satL {f : Addr} {fd : FuncData} {k : Nat} (F : Fun K "satisfies" "satisfies" s_satisfies f fd) (Z : Glb mg) (Cdot : Call P w K mg base k "dot" ["v", "w"] spDot) : FnOk P w K mg base CX0 (k + 1) f fd ["rows", "point"] spSatL := by
  refine F.ok sc_satisfies (fun vs H Q E h => ?_) (fun cdv A outer s H vs Q E hr h => ?_)
  · obtain ⟨p, a, fs, w, N, rfl, _⟩ := h
    rfl
  · obtain ⟨B, a, fs, ws, N, rfl, ⟨rs, eB, lB, gB⟩, ha, l9, n1, lw, bw, hf, q⟩ := h
    refine ⟨_, (pss_one (ps_ret (pe_callB (cr_all rfl) (by rfl) Z.m_all (by decide +kernel) (pa_cons (pe_lc (own := [("row", 2)]) (g := gName 2) (tt := tYes) (by rfl) sc_satisfies.nd (pi_list (pv 0)) (blkOk_by (own := [("row", 2)]) (N := ["rows", "point", "row"]) (sc := defScope s_satisfies) (by first | decide +kernel | kernel_rfl)) (fun _ _ _ _ _ => (pg_name (i := 2) sc_satisfies.nd rfl (.inl rfl))) (fun _ _ _ _ _ => pts_nil) (fun _ _ _ _ _ => (pe_cmpR op_ge (pe_call Cdot.G hr (by rfl) Cdot.m Cdot.kp Cdot.b .nil pass0 (pa_cons (pv 2) (pa_cons (pv 1) pa_nil))) pe_int (nomark _)))) pa_nil)))), ?_⟩
    refine ⟨_, rfl, B, rfl, ⟨_, SqL.of eB⟩, fun D nD => ?_⟩
    refine lc_list (xs := rs.map V.ref) (fun i H' => Same H H' ∧ H' D = some (.lst (((fs.take i).map fun f => decide (0 ≤ (dotz f ws).sum)).map V.bl))) ⟨same_upd nD, upd_same⟩ (fun i H' _ hP => SqL.of (hP.1 _ _ eB)) (fun i x H' hx hP => ?_) (fun H' hP => ?_)
    · obtain ⟨r, hr1, rfl⟩ := ref_get hx
      obtain ⟨v, ev, hv⟩ := gB i r hr1
      obtain ⟨lv, bv⟩ := hf v (List.mem_of_getElem? ev)
      have hi := lt_of_get ev
      refine ⟨rfl, ?_⟩
      unfold tYes
      refine iteT ?_
      refine ⟨_, rfl, _, rfl, r, a, v, ws, rfl, hP.1 _ _ hv, hP.1 _ _ ha, by omega, by omega, bv, bw, fun H2 s2 => ?_⟩
      refine ⟨_, _, rfl, rfl, ?_⟩
      show ∃ acc, _
      refine ⟨_, s2 _ _ hP.2, by rw [List.length_map, List.length_map, List.length_take]; exact small1000 (by omega), ?_, ?_⟩
      · intro y o hy
        rw [upd_ne (ne_of_none hy nD)]
        exact s2 _ _ (hP.1 _ _ hy)
      · rw [upd_same, take_get ev, List.map_append, List.map_append]
        rfl
    · rw [List.length_map, lB, List.take_length] at hP
      refine ⟨D, _, rfl, SqL.of hP.2, ?_⟩
      refine q _ _ hP.1 ?_
      rw [all_dv lw (fun v hv => (hf v hv).1) (fun z => decide (0 ≤ z))]
      exact ⟨fun h v hv => of_decide_eq_true (h v hv), fun h v hv => decide_eq_true (h v hv)⟩
/-- points told -/
def PtOf (H : Hp) (v : V) (d : Nat) (R : List Int → Prop) : Prop := ∃ a ns, v = .ref a ∧ Vc H a ns ∧ ns.length = d + 1 ∧ 0 < en ns 0 ∧ gl ns = 1 ∧ R ns
theorem PtOf.imp {H : Hp} {v : V} {d : Nat} {R R' : List Int → Prop} (h : PtOf H v d R) (i : ∀ ns, R ns → R' ns) : PtOf H v d R' := by
  obtain ⟨a, ns, e, h1, h2, h3, h4, h5⟩ := h
  exact ⟨a, ns, e, h1, h2, h3, h4, i ns h5⟩
abbrev s_is_point : Stmt := topS 11
theorem sc_is_point : FnScope ["d", "value"] ["d", "value"] (defScope s_is_point) := ⟨rfl, rfl, rfl, by decide +kernel, rfl, by decide +kernel, by decide +kernel⟩
def spIsP : Sp := fun vs H Q _ => ∃ (d : Nat) (v : V) (p : Addr) (B n : Nat), vs = [.int d, v] ∧ Dt p H B n v ∧ B ≤ 500 ∧ ∀ (H' : Hp) (b : Bool), Same H H' → (b = true ↔ PtOf H v d fun _ => True) → Q (.bl b) H'
theorem ok_isp {f : Addr} {fd : FuncData} {k : Nat} (F : Fun K "is_point" "is_point" s_is_point f fd) (Z : Glb mg) (Cis_vector : Call P w K mg base k "is_vector" ["length", "value"] (spIsVec "length" "value"))
    (Ccommon_divisor : Call P w K mg base k "common_divisor" ["v"] spCdK) : FnOk P w K mg base CX0 (k + 1) f fd ["d", "value"] spIsP := by
  refine F.ok sc_is_point (fun vs H Q E h => ?_) (fun cdv A outer s H vs Q E hr h => ?_)
  · obtain ⟨d, v, p, B, n, rfl, _⟩ := h
    rfl
  · obtain ⟨d, v, p, B, n, rfl, D, hB, q⟩ := h
    refine ⟨_, (pss_one (ps_ret (pe_and (pe_call Cis_vector.G hr (by rfl) Cis_vector.m Cis_vector.kp Cis_vector.b .nil pass0 (pa_cons (pe_op op_add (pv 0) pe_int) (pa_cons (pv 1) pa_nil))) (pe_and (pe_cmpR op_gt (pe_ix (r := rIxT K) ix_tup (pv 1) pe_int (fun _ _ => rfl)) pe_int (nomark _)) (pe_one (pe_cmpR op_eq (pe_call Ccommon_divisor.G hr (by rfl) Ccommon_divisor.m Ccommon_divisor.kp Ccommon_divisor.b .nil pass0 (pa_cons (pv 1) pa_nil)) pe_int (nomark _))))))), ?_⟩
    refine ⟨_, rfl, _, _, rfl, rfl, _, rfl, d + 1, v, p, B, n, rfl, D, hB, fun H1 b s1 hb => ⟨b, rfl, ?_⟩⟩
    cases b with
    | false => exact iteF (q _ _ s1 ⟨(fun z => nomatch z), fun ⟨a, ns, e, h1, h2, _⟩ => by have := hb.mpr ⟨a, ns, e, h1, h2⟩; cases this⟩)
    | true =>
      obtain ⟨a, ns, rfl, hv, hL⟩ := hb.mp rfl
      have hv1 := hv.same s1
      refine iteT ⟨_, rfl, _, _, _, _, rfl, rfl, SqT.of hv1, atI_en (j := 0) (by omega), _, _, rfl, rfl, _, rfl, ite2 (fun e => ?_) (fun e => ?_)⟩
      · have e1 : 0 < en ns 0 := of_decide_eq_true e
        refine ⟨_, rfl, true, a, ns, rfl, hv1, rfl, q _ _ s1 ?_⟩
        rw [decide_eq_true_iff]
        constructor
        · intro z
          exact ⟨a, ns, rfl, hv, hL, e1, V.int.inj z, trivial⟩
        · rintro ⟨a', ns', e', h1, h2, h3, h4, _⟩
          cases e'
          rw [vc_eq hv h1, h4]
      · refine q _ _ s1 ⟨(fun z => nomatch z), ?_⟩
        rintro ⟨a', ns', e', h1, h2, h3, h4, _⟩
        cases e'
        have := vc_eq hv h1
        subst this
        exact absurd (decide_eq_true h3) e
def Sol (d : Nat) (M : List (List Int)) (ns : List Int) : Prop := ∀ v ∈ M, 0 ≤ dv (d + 1) v (en ns)
def Ins (d : Nat) (M : List (List Int)) (ns : List Int) : Prop := ∀ v ∈ M, 0 < dv (d + 1) v (en ns)
theorem d4000 {x : Int} {B : Nat} (h : x.natAbs < 2 ^ B) (hB : B ≤ 500) : x.natAbs < 2 ^ 4000 := Nat.lt_of_lt_of_le h (Nat.pow_le_pow_right (by decide) (by omega))
abbrev s_is_solution : Stmt := topS 18
theorem sc_is_solution : FnScope ["d", "rows", "value"] ["d", "rows", "value"] (defScope s_is_solution) := ⟨rfl, rfl, rfl, by decide +kernel, rfl, by decide +kernel, by decide +kernel⟩
def spIsSol (R : Nat → List (List Int) → List Int → Prop) : Sp := fun vs H Q _ => ∃ (d : Nat) (a : Addr) (M : List (List Int)) (v : V) (p : Addr) (B n : Nat), vs = [.int d, .ref a, v] ∧ VL H a M ∧ M.length ≤ 900 ∧ d ≤ 90 ∧ (∀ v ∈ M, v.length = d + 1 ∧ ∀ n ∈ v, n.natAbs < 2 ^ 4000) ∧ Dt p H B n v ∧ B ≤ 500 ∧ ∀ (H' : Hp) (b : Bool), Same H H' → (b = true ↔ PtOf H v d (R d M)) → Q (.bl b) H'
theorem ok_issol {f : Addr} {fd : FuncData} {k : Nat} (F : Fun K "is_solution" "is_solution" s_is_solution f fd) (Z : Glb mg) (Cis_point : Call P w K mg base k "is_point" ["d", "value"] spIsP)
    (Csatisfies : Call P w K mg base k "satisfies" ["rows", "point"] spSatL) : FnOk P w K mg base CX0 (k + 1) f fd ["d", "rows", "value"] (spIsSol Sol) := by
  refine F.ok sc_is_solution (fun vs H Q E h => ?_) (fun cdv A outer s H vs Q E hr h => ?_)
  · obtain ⟨d, a, M, v, p, B, n, rfl, _⟩ := h
    rfl
  · obtain ⟨d, a, M, v, p, B, n, rfl, hV, m9, d9, hM, D, hB, q⟩ := h
    refine ⟨_, (pss_one (ps_ret (pe_and (pe_call Cis_point.G hr (by rfl) Cis_point.m Cis_point.kp Cis_point.b .nil pass0 (pa_cons (pv 0) (pa_cons (pv 2) pa_nil))) (pe_one (pe_call Csatisfies.G hr (by rfl) Csatisfies.m Csatisfies.kp Csatisfies.b .nil pass0 (pa_cons (pv 1) (pa_cons (pv 2) pa_nil))))))), ?_⟩
    refine ⟨_, rfl, _, rfl, d, v, p, B, n, rfl, D, hB, fun H1 b s1 hb => ⟨b, rfl, ?_⟩⟩
    cases b with
    | false => exact iteF (q _ _ s1 ⟨(fun z => nomatch z), fun h => by have := hb.mpr (h.imp fun _ _ => trivial); cases this⟩)
    | true =>
      obtain ⟨x, ns, rfl, h1, h2, h3, h4, _⟩ := hb.mp rfl
      refine iteT ⟨_, rfl, _, rfl, a, x, M, ns, d + 1, rfl, hV.same s1, h1.same s1, m9, by omega, h2, fun n hn => d4000 (dt_ints D h1 n hn) hB, hM, fun H2 t s2 ht => q _ _ (s1.trans s2) ?_⟩
      rw [ht]
      constructor
      · intro h
        exact ⟨x, ns, rfl, h1, h2, h3, h4, h⟩
      · rintro ⟨a', ns', e', g1, _, _, _, g5⟩
        cases e'
        rw [vc_eq h1 g1]
        exact g5

open Rk
/-! ### the rank by the null vectors -/
open Classical in
noncomputable def pivs (w : Nat) (L : List (List Int)) : List Nat := (List.range w).filter fun j => decide (Pv w (Nl w L) j)
open Classical in
theorem pivs_mem {w j : Nat} {L : List (List Int)} : j ∈ pivs w L ↔ j < w ∧ Pv w (Nl w L) j := by
  unfold pivs
  rw [List.mem_filter, List.mem_range, decide_eq_true_iff]
theorem pivs_nodup (w : Nat) (L : List (List Int)) : (pivs w L).Nodup := List.nodup_range.filter _
theorem desc_nodup : ∀ {k : Nat} {P : List Nat}, Desc k P → P.Nodup
  | _, [], _ => List.nodup_nil
  | _, c :: r, h => List.nodup_cons.mpr ⟨fun z => Nat.lt_irrefl _ (h.2.lt c z), desc_nodup h.2⟩
theorem inv_pivs {w : Nat} {L : List (List Int)} {P : List (Nat × List Int)} {left : List (List Int)} (hI : Inv w (Nl w L) w P left) : P.length = (pivs w L).length := by
  rw [← List.length_map (f := (·.1)) (as := P)]
  refine ((List.perm_ext_iff_of_nodup (desc_nodup hI.tri.desc) (pivs_nodup w L)).mpr fun j => ?_).length_eq
  rw [pivs_mem]
  constructor
  · intro h
    have hj := hI.tri.desc.lt j h
    exact ⟨hj, (hI.piv j hj).mp h⟩
  · rintro ⟨hj, h⟩
    exact (hI.piv j hj).mpr h
theorem rank_fullP {w : Nat} {T : List (List Int)} (h : ∀ x, Nl w T x → ∀ j, j < w → x j = 0) : (pivs w T).length = w := by
  have h1 := nodup_len (List.range w) (pivs w T) List.nodup_range fun j hj => pivs_mem.mpr ⟨List.mem_range.mp hj, fun x hx _ => h x hx j (List.mem_range.mp hj)⟩
  have h2 : (pivs w T).length ≤ (List.range w).length := List.length_filter_le _ _
  rw [List.length_range] at h1 h2
  omega
theorem last_nz {x : Nat → Int} : ∀ n, (∃ i, i < n ∧ x i ≠ 0) → ∃ l, l < n ∧ x l ≠ 0 ∧ ∀ j, l < j → j < n → x j = 0
  | 0, ⟨i, h, _⟩ => absurd h (Nat.not_lt_zero i)
  | n + 1, ⟨i, hi, h⟩ => by
    by_cases e : x n = 0
    · obtain ⟨l, h1, h2, h3⟩ := last_nz n ⟨i, by
        by_cases c : i = n
        · rw [c] at h; exact absurd e h
        · omega, h⟩
      refine ⟨l, by omega, h2, fun j h4 h5 => ?_⟩
      by_cases c : j = n
      · rw [c]; exact e
      · exact h3 j h4 (by omega)
    · exact ⟨n, Nat.lt_succ_self n, e, fun j h1 h2 => by omega⟩

/-! ### combined, middle -/
def stepC (t : List Int) (q : Int × List Int) : List Int := List.zipWith (fun a b => a + q.1 * b) t q.2
def comb (n : Nat) (ws : List Int) (vss : List (List Int)) : List Int := (ws.zip vss).foldl stepC (List.replicate n 0)
def combT (n : Nat) (ws : List Int) (vss : List (List Int)) (i : Nat) : List Int := ((ws.zip vss).take i).foldl stepC (List.replicate n 0)
theorem combT_step {n i : Nat} {ws : List Int} {vss : List (List Int)} {x : Int} {v : List Int} (h1 : ws[i]? = some x) (h2 : vss[i]? = some v) : combT n ws vss (i + 1) = stepC (combT n ws vss i) (x, v) := by
  unfold combT
  rw [take_get (List.getElem?_zip_eq_some (z := (x, v)) |>.mpr ⟨h1, h2⟩), List.foldl_append]
  rfl
theorem combT_len {n : Nat} {ws : List Int} {vss : List (List Int)} (hl : ws.length = vss.length) (hn : ∀ v ∈ vss, v.length = n) : ∀ i, (combT n ws vss i).length = n
  | 0 => by
    show (List.replicate n (0 : Int)).length = n
    exact List.length_replicate
  | i + 1 => by
    by_cases hi : i < ws.length
    · rw [combT_step (List.getElem?_eq_getElem hi) (List.getElem?_eq_getElem (by omega))]
      unfold stepC
      rw [List.length_zipWith, combT_len hl hn i, hn _ (List.getElem_mem _), Nat.min_self]
    · have : combT n ws vss (i + 1) = combT n ws vss i := by
        unfold combT
        have hz : (ws.zip vss).length ≤ i := by rw [List.length_zip]; omega
        rw [List.take_of_length_le (by omega), List.take_of_length_le hz]
      rw [this, combT_len hl hn i]
theorem combT_all {n : Nat} {ws : List Int} {vss : List (List Int)} (hl : ws.length = vss.length) : combT n ws vss ws.length = comb n ws vss := by
  unfold combT comb
  rw [List.take_of_length_le (by rw [List.length_zip]; omega)]
abbrev s_combined : Stmt := topS 12
theorem sc_combined : FnScope ["weights", "vectors", "total", "weight", "vector", "a", "b"] ["weights", "vectors"] (defScope s_combined) := ⟨rfl, rfl, rfl, by decide +kernel, rfl, by decide +kernel, by decide +kernel⟩
theorem rep_zeroC : ∀ n : Nat, (List.replicate n [V.int 0]).flatten = (List.replicate n (0 : Int)).map V.int
  | 0 => rfl
  | n + 1 => by
    rw [List.replicate_succ, List.replicate_succ, List.flatten_cons, rep_zeroC n]
    rfl
def spComb : Sp := fun vs H Q _ => ∃ (k : Bool) (a b : Addr) (ws : List Int) (vss : List (List Int)) (n : Nat), vs = [.ref a, .ref b] ∧ Tk k H a (ws.map V.int) ∧ VL H b vss ∧ ws.length = vss.length ∧ 1 ≤ vss.length ∧ vss.length ≤ 900 ∧ (∀ v ∈ vss, v.length = n) ∧ n ≤ 100 ∧ (∀ x ∈ ws, x.natAbs < 2 ^ 2000) ∧ (∀ v ∈ vss, ∀ x ∈ v, x.natAbs < 2 ^ 2000) ∧
  ∀ (H' : Hp) (r : Addr), Same H H' → Vc H' r (comb n ws vss) → Q (.ref r) H'
theorem ok_comb {f : Addr} {fd : FuncData} {k : Nat} (F : Fun K "combined" "combined" s_combined f fd) (Z : Glb mg) : FnOk P w K mg base CX0 (k + 1) f fd ["weights", "vectors"] spComb := by
  refine F.ok sc_combined (fun vs H Q E h => ?_) (fun cdv A outer s H vs Q E hr h => ?_)
  · obtain ⟨kd, a, b, ws, vss, n, rfl, _⟩ := h
    rfl
  · obtain ⟨kd, a, b, ws, vss, n, rfl, ha, hb, hl, l1, l2, hn, n2, B1, B2, q⟩ := h
    refine ⟨_, (pss_cons (ps_set (i := 2) sc_combined.nd rfl (.inl rfl) (pe_op op_rep (pe_lst (pa_cons pe_int pa_nil)) (pe_callB call_len_seq (by rfl) Z.m_len PySem.boot_len (pa_cons (pe_ix (r := rIxL K) ix_list (pv 1) pe_int (fun _ _ => rfl)) pa_nil))))
      (pss_cons (ps_for PassesOwn.never rfl (pi_zipK (by rfl) Z.m_zip (pa_cons (pv 0) (pa_cons (pv 1) pa_nil))) (pg_tup rfl (pgs_cons (pg_name (i := 3) sc_combined.nd rfl (.inr rfl)) (pgs_cons (pg_name (i := 4) sc_combined.nd rfl (.inl rfl)) pgs_nil))) (pss_one (ps_setLc (i := 2) (own := [("a", 5), ("b", 6)]) (g := gTup K 2 (gCons (gName 5) (gCons (gName 6) gNil))) (tt := tYes) (by rfl) sc_combined.nd rfl rfl (sw_true rfl rfl rfl (by decide +kernel)) (pi_zipK (by rfl) Z.m_zip (pa_cons (pv 2) (pa_cons (pv 4) pa_nil))) (blkOk_by (own := [("a", 5), ("b", 6)]) (N := ["weights", "vectors", "total", "weight", "vector", "a", "b"]) (sc := defScope s_combined) (by first | decide +kernel | kernel_rfl)) (fun _ _ _ _ _ => (pg_tup rfl (pgs_cons (pg_name (i := 5) sc_combined.nd rfl (.inl rfl)) (pgs_cons (pg_name (i := 6) sc_combined.nd rfl (.inl rfl)) pgs_nil)))) (fun _ _ _ _ _ => pts_nil) (fun _ _ _ _ _ => (pe_op op_add (pv 5) (pe_op op_mulW (pv 3) (pv 6)))))))
      (pss_one (ps_ret (pe_callTy call_tuple_of (by rfl) Z.m_tuple (by decide +kernel) (pa_cons (pv 2) pa_nil)))))), ?_⟩
    obtain ⟨rs, eb, lb, gb⟩ := hb
    have g0 : rs[0]? = some (rs[0]'(by omega)) := List.getElem?_eq_getElem (by omega)
    obtain ⟨v0, hv0, V0⟩ := gb 0 _ g0
    have ln0 : v0.length = n := hn v0 (List.mem_of_getElem? hv0)
    -- total = [0] * ..
    refine ⟨Nat.le_of_lt (small1000 (show 1 ≤ 1000 by decide)), fun z nz => ?_⟩
    have sz := same_upd (o := .lst [.int 0]) nz
    refine ⟨_, rfl, _, _, _, _, rfl, rfl, SqL.of (sz _ _ eb), atI_nat (get_ref g0), _, _, rfl, .inr (SqT.of (sz _ _ V0)), z, _, _, rfl, rfl, upd_same, by omega, by rw [List.length_map]; omega, ?_, fun t nt => ?_⟩
    · rw [List.length_map]
      exact Nat.le_of_lt (small1000 (by show 1 * v0.length ≤ 1000; omega))
    have st := sz.trans (same_upd (o := .lst (List.replicate (((v0.map V.int).length : Nat) : Int).toNat [V.int 0]).flatten) nt)
    have ht : (upd (upd H z (.lst [.int 0])) t (.lst (List.replicate (((v0.map V.int).length : Nat) : Int).toNat [V.int 0]).flatten)) t = some (.lst ((List.replicate n (0 : Int)).map V.int)) := by
      rw [upd_same, rep_zeroC, List.length_map, ln0]
      rfl
    generalize upd (upd H z (.lst [.int 0])) t (.lst (List.replicate (((v0.map V.int).length : Nat) : Int).toNat [V.int 0]).flatten) = H1 at *
    -- the loop
    refine ⟨_, rfl, _, rfl, kd, false, a, b, ws.map V.int, rs.map V.ref, rfl, (ha.same st).sk, SqL.of (st _ _ eb), ?_⟩
    refine for_it (walk_zipK (xs := ws.map V.int) (ys := rs.map V.ref) (n := ws.length) (by rw [List.length_map]) (by rw [List.length_map]; omega)) (fun i σ H' => Same H1 H' ∧ ∃ (t : Addr) (y3 y4 : Option V), σ = [some (.ref a), some (.ref b), some (.ref t), y3, y4, none, none] ∧ H' t = some (.lst ((combT n ws vss i).map V.int))) ⟨Same.refl _, t, _, _, rfl, ht⟩ (fun i σ H' _ hP => ⟨(ha.same (st.trans hP.1)).sk, SqL.of ((st.trans hP.1) _ _ eb)⟩) (fun i x σ H' H'' hi hP hY => ?_) (fun σ H' hP => ?_)
    · obtain ⟨sH, t1, y3, y4, rfl, ht1⟩ := hP
      obtain ⟨T, x1, y1, rfl, nT, rfl, hx, hy⟩ := hY
      obtain ⟨wi, hwi, rfl⟩ := map_get hx
      obtain ⟨r, hri, rfl⟩ := ref_get hy
      obtain ⟨v, hvi, V1⟩ := gb i r hri
      have lnv : v.length = n := hn v (List.mem_of_getElem? hvi)
      have sT := same_upd (o := .tup [.int wi, .ref r]) nT
      have sA := (st.trans sH).trans sT
      have V2 : Vc (upd H' T (.tup [.int wi, .ref r])) r v := sA _ _ V1
      have ht2 := sT _ _ ht1
      have sB := sH.trans sT
      have hTt : (upd H' T (.tup [.int wi, .ref r])) T = some (.tup [.int wi, .ref r]) := upd_same
      generalize upd H' T (.tup [.int wi, .ref r]) = H2 at *
      refine ⟨T, [.int wi, .ref r], rfl, SqT.of hTt, rfl, _, _, rfl, _, _, rfl, rfl, ?_⟩
      have lenT := combT_len (n := n) hl hn i
      refine ⟨_, rfl, _, rfl, false, true, t1, r, (combT n ws vss i).map V.int, v.map V.int, rfl, SqL.of ht2, SqT.of V2, fun D nD => ?_⟩
      refine lc_it (walk_zipK (xs := (combT n ws vss i).map V.int) (ys := v.map V.int) (n := n) (by rw [List.length_map]; exact lenT) (by rw [List.length_map]; exact lnv)) (fun j H' => Same H2 H' ∧ H' D = some (.lst (((combT n ws vss (i + 1)).take j).map V.int))) ⟨same_upd nD, upd_same⟩ (fun j H' _ hP => ⟨SqL.of (hP.1 _ _ ht2), SqT.of (hP.1 _ _ V2)⟩) (fun j x H' H'' hj hP hY => ?_) (fun H' hP => ?_)
      · obtain ⟨s2, eD⟩ := hP
        obtain ⟨T2, x2, y2, rfl, nT2, rfl, hx2, hy2⟩ := hY
        obtain ⟨aj, haj, rfl⟩ := map_get hx2
        obtain ⟨bj, hbj, rfl⟩ := map_get hy2
        have DT : D ≠ T2 := ne_of_none eD nT2
        have s3 := same_upd (o := .tup [.int aj, .int bj]) nT2
        refine ⟨T2, [.int aj, .int bj], rfl, SqT.of upd_same, rfl, _, _, rfl, _, _, rfl, rfl, rfl, ?_⟩
        unfold tYes
        refine iteT ?_
        have hg : (combT n ws vss (i + 1))[j]? = some (aj + wi * bj) := by
          rw [combT_step hwi hvi]
          unfold stepC
          rw [List.getElem?_zipWith, haj, hbj]
        refine ⟨_, rfl, _, rfl, _, rfl, _, _, rfl, rfl, cmul (B1 wi (List.mem_of_getElem? hwi)) (B2 v (List.mem_of_getElem? hvi) bj (List.mem_of_getElem? hbj)), _, _, rfl, rfl, _, s3 _ _ eD, ?_, ?_, ?_⟩
        · rw [List.length_map, List.length_take]
          exact Nat.lt_of_le_of_lt (Nat.min_le_left _ _) (small1000 (by omega))
        · intro x o hxo
          have : x ≠ D := ne_of_none hxo nD
          rw [upd_ne this]
          exact s3 _ _ (s2 _ _ hxo)
        · rw [upd_same, take_get hg, List.map_append]
          rfl
      · obtain ⟨s2, eD⟩ := hP
        have e2 := combT_len (n := n) hl hn (i + 1)
        have e3 : (combT n ws vss (i + 1)).take n = combT n ws vss (i + 1) := List.take_of_length_le (by omega)
        rw [e3] at eD
        exact ⟨sB.trans s2, D, _, _, rfl, eD⟩
    · obtain ⟨sH, t1, y3, y4, rfl, ht1⟩ := hP
      rw [combT_all hl] at ht1
      exact ⟨_, rfl, t1, _, rfl, .inl ⟨SqL.of ht1, fun r nr => q _ _ ((st.trans sH).trans (same_upd nr)) upd_same⟩⟩

open Rk
/-- a sum over points of one entry -/
def colS (ws : List Int) (vss : List (List Int)) (j : Nat) : Nat → Int
  | 0 => 0
  | i + 1 => colS ws vss j i + (ws.getD i 0) * ((vss.getD i []).getD j 0)
theorem combT_get {n : Nat} {ws : List Int} {vss : List (List Int)} (hl : ws.length = vss.length) (hn : ∀ v ∈ vss, v.length = n) {j : Nat} (hj : j < n) : ∀ i, i ≤ ws.length → (combT n ws vss i)[j]? = some (colS ws vss j i)
  | 0, _ => by
    show (List.replicate n (0 : Int))[j]? = some 0
    rw [List.getElem?_replicate, if_pos hj]
  | i + 1, hi => by
    have g1 : ws[i]? = some (ws[i]'(by omega)) := List.getElem?_eq_getElem (by omega)
    have g2 : vss[i]? = some (vss[i]'(by omega)) := List.getElem?_eq_getElem (by omega)
    have ln : (vss[i]'(by omega)).length = n := hn _ (List.getElem_mem _)
    have g3 : (vss[i]'(by omega))[j]? = some ((vss[i]'(by omega))[j]'(by omega)) := List.getElem?_eq_getElem (by omega)
    rw [combT_step g1 g2]
    unfold stepC
    rw [List.getElem?_zipWith, combT_get hl hn hj i (by omega), g3]
    show some _ = some (colS ws vss j i + ws.getD i 0 * (vss.getD i []).getD j 0)
    rw [List.getD_eq_getElem?_getD, g1, List.getD_eq_getElem?_getD, List.getD_eq_getElem?_getD, g2]
    simp only [Option.getD_some]
    rw [g3]
    rfl
theorem colS_dv {ws : List Int} {vss : List (List Int)} {j : Nat} : ∀ i, colS ws vss j i = dv i ws (fun k => en (vss.getD k []) j)
  | 0 => rfl
  | i + 1 => by
    show colS ws vss j i + _ = dv i ws _ + _
    rw [colS_dv i]
theorem comb_lenN {n : Nat} {ws : List Int} {vss : List (List Int)} (hl : ws.length = vss.length) (hn : ∀ v ∈ vss, v.length = n) : (comb n ws vss).length = n := by
  rw [← combT_all hl]
  exact combT_len hl hn _
theorem comb_en {n : Nat} {ws : List Int} {vss : List (List Int)} (hl : ws.length = vss.length) (hn : ∀ v ∈ vss, v.length = n) {j : Nat} (hj : j < n) : en (comb n ws vss) j = dv ws.length ws (fun k => en (vss.getD k []) j) := by
  rw [← combT_all hl, ← colS_dv]
  show ((combT n ws vss ws.length).getD j 0) = _
  rw [List.getD_eq_getElem?_getD, combT_get hl hn hj _ (Nat.le_refl _)]
  rfl

open Rk
theorem in_ints (n : Int) (ns : List Int) : inV (.int n) (ns.map V.int) = decide (n ∈ ns) := by
  unfold inV
  rw [List.any_map, Bool.eq_iff_iff, List.any_eq_true, decide_eq_true_iff]
  constructor
  · rintro ⟨x, hx, h⟩
    have h1 : (x == n) = true := h
    exact eq_of_beq h1 ▸ hx
  · intro h
    exact ⟨n, h, (show (n == n) = true from beq_self_eq_true _)⟩

open Rk
/-! ### what papers of cases show -/
def VtOf (H : Hp) (v : V) (L : Nat) (R : List Int → Prop) : Prop := ∃ a ns, v = .ref a ∧ Vc H a ns ∧ ns.length = L ∧ R ns
def EmpR (d : Nat) (M : List (List Int)) (ns : List Int) : Prop := (∀ x ∈ ns, (0 : Int) ≤ x) ∧ cb (en ns) M 0 < 0 ∧ ∀ j, 1 ≤ j → j ≤ d → cb (en ns) M j = 0
def WayR (d : Nat) (M : List (List Int)) (ns : List Int) : Prop := (∃ j, j < d ∧ en ns j ≠ 0) ∧ ∀ v ∈ M, 0 ≤ dv d (v.drop 1) (en ns)
def FltR (d : Nat) (M : List (List Int)) (ns : List Int) : Prop := (∀ x ∈ ns, (0 : Int) ≤ x) ∧ (∃ j, j < M.length ∧ en ns j ≠ 0) ∧ ∀ j, j ≤ d → cb (en ns) M j = 0
def LodR (d : Nat) (M : List (List Int)) (ns : List Int) : Prop := (∀ x ∈ ns, (1 : Int) ≤ x) ∧ (∀ j, 1 ≤ j → j ≤ d → cb (en ns) M j = 0) ∧ (pivs d (M.map fun v => v.drop 1)).length = d
theorem VtOf.wts {H : Hp} {v : V} {L : Nat} {R : List Int → Prop} (h : VtOf H v L R) (i : ∀ ns, R ns → ∀ x ∈ ns, (0 : Int) ≤ x) : WtsOf H v L := by
  obtain ⟨a, ns, e, h1, h2, h3⟩ := h
  exact ⟨a, ns, e, h1, h2, i ns h3⟩
theorem VtOf.vec {H : Hp} {v : V} {L : Nat} {R : List Int → Prop} (h : VtOf H v L R) : VecOf H v L := by
  obtain ⟨a, ns, e, h1, h2, h3⟩ := h
  exact ⟨a, ns, e, h1, h2⟩
/-- of a vector told there is but one reading -/
theorem VtOf.the {H : Hp} {a : Addr} {L : Nat} {R : List Int → Prop} {ns : List Int} (hv : Vc H a ns) (hl : ns.length = L) : VtOf H (.ref a) L R ↔ R ns := by
  constructor
  · rintro ⟨a', ns', e', h1, _, h3⟩
    cases e'
    rw [vc_eq hv h1]
    exact h3
  · exact fun h => ⟨a, ns, rfl, hv, hl, h⟩
theorem comb_cb {n : Nat} {ws : List Int} {vss : List (List Int)} (hl : ws.length = vss.length) (hn : ∀ v ∈ vss, v.length = n) {j : Nat} (hj : j < n) : en (comb n ws vss) j = cb (en ws) vss j := by
  rw [comb_en hl hn hj]
  unfold dv cb
  rw [hl]
theorem any_no {v : List Int} : ((v.any fun x => x != 0) = true ↔ ∃ j, j < v.length ∧ en v j ≠ 0) := by
  rw [List.any_eq_true]
  constructor
  · rintro ⟨x, hx, h⟩
    obtain ⟨j, hj, rfl⟩ := List.getElem_of_mem hx
    exact ⟨j, hj, by rw [en_at hj]; simpa using h⟩
  · rintro ⟨j, hj, h⟩
    exact ⟨en v j, en_mem hj, by simpa using h⟩
theorem zer_iff {v : List Int} : ((!(v.any fun x => x != 0)) = true ↔ ∀ j, j < v.length → en v j = 0) := by
  rw [Bool.not_eq_true', ← Bool.not_eq_true, any_no]
  constructor
  · exact fun h j hj => Classical.byContradiction fun ne => h ⟨j, hj, ne⟩
  · rintro h ⟨j, hj, ne⟩
    exact ne (h j hj)
theorem zer_drop {v : List Int} {d : Nat} (hv : v.length = d + 1) : ((!((v.drop 1).any fun x => x != 0)) = true ↔ ∀ j, 1 ≤ j → j ≤ d → en v j = 0) := by
  rw [zer_iff]
  have e : ∀ j, en (v.drop 1) j = en v (j + 1) := fun j => by
    show (v.drop 1).getD j 0 = v.getD (j + 1) 0
    rw [List.getD_eq_getElem?_getD, List.getElem?_drop, Nat.add_comm 1 j, ← List.getD_eq_getElem?_getD]
  constructor
  · intro h j j1 j2
    have := h (j - 1) (by rw [List.length_drop]; omega)
    rw [e, show j - 1 + 1 = j by omega] at this
    exact this
  · intro h j hj
    rw [List.length_drop] at hj
    rw [e]
    exact h (j + 1) (by omega) (by omega)
/-- the rows of a system -/
structure Sys (H : Hp) (a : Addr) (d : Nat) (M : List (List Int)) : Prop where
  v : VL H a M
  w : ∀ v ∈ M, v.length = d + 1
  b : ∀ v ∈ M, Lim 200 v
  l1 : 1 ≤ M.length
  l2 : M.length ≤ 100
  d1 : 1 ≤ d
  d2 : d ≤ 4
theorem Sys.same {H H' : Hp} {a : Addr} {d : Nat} {M : List (List Int)} (h : Sys H a d M) (s : Same H H') : Sys H' a d M := ⟨h.v.same s, h.w, h.b, h.l1, h.l2, h.d1, h.d2⟩
theorem Sys.big {H : Hp} {a : Addr} {d : Nat} {M : List (List Int)} (h : Sys H a d M) : ∀ v ∈ M, ∀ n ∈ v, n.natAbs < 2 ^ 2000 := fun v hv n hn => Nat.lt_of_lt_of_le (h.b v hv n hn) (Nat.pow_le_pow_right (by decide) (by decide))
theorem d2000 {x : Int} {B : Nat} (h : x.natAbs < 2 ^ B) (hB : B ≤ 500) : x.natAbs < 2 ^ 2000 := Nat.lt_of_lt_of_le h (Nat.pow_le_pow_right (by decide) (by omega))
abbrev s_shows_empty : Stmt := topS 17
theorem sc_shows_empty : FnScope ["rows", "value", "total"] ["rows", "value"] (defScope s_shows_empty) := ⟨rfl, rfl, rfl, by decide +kernel, rfl, by decide +kernel, by decide +kernel⟩
def spShow (R : Nat → List (List Int) → List Int → Prop) (N : Nat → List (List Int) → Nat) : Sp := fun vs H Q _ => ∃ (d : Nat) (a : Addr) (M : List (List Int)) (v : V) (p : Addr) (B n : Nat), vs = [.ref a, v] ∧ Sys H a d M ∧ Dt p H B n v ∧ B ≤ 500 ∧ ∀ (H' : Hp) (b : Bool), Same H H' → (b = true ↔ VtOf H v (N d M) (R d M)) → Q (.bl b) H'
theorem ok_shem {f : Addr} {fd : FuncData} {k : Nat} (F : Fun K "shows_empty" "shows_empty" s_shows_empty f fd) (Z : Glb mg) (Cis_weights : Call P w K mg base k "is_weights" ["length", "value"] spIsWts) (Ccombined : Call P w K mg base k "combined" ["weights", "vectors"] spComb) : FnOk P w K mg base CX0 (k + 1) f fd ["rows", "value"] (spShow EmpR fun _ M => M.length) := by
  refine F.ok sc_shows_empty (fun vs H Q E h => ?_) (fun cdv A outer s H vs Q E hr h => ?_)
  · obtain ⟨d, a, M, v, p, B, n, rfl, _⟩ := h
    rfl
  · obtain ⟨d, a, M, v, p, B, n, rfl, S, D, hB, q⟩ := h
    obtain ⟨rs, ea, rl, rg⟩ := id S.v
    refine ⟨_, (pss_cut (ps_if (pt_not (pt_val (pe_call Cis_weights.G hr (by rfl) Cis_weights.m Cis_weights.kp Cis_weights.b .nil pass0 (pa_cons (pe_callB call_len_seq (by rfl) Z.m_len PySem.boot_len (pa_cons (pv 0) pa_nil)) (pa_cons (pv 1) pa_nil))))) (pss_one (ps_ret pe_bl)) pss_nil)
      (pss_cut (ps_set (i := 2) sc_shows_empty.nd rfl (.inl rfl) (pe_call Ccombined.G hr (by rfl) Ccombined.m Ccombined.kp Ccombined.b .nil pass0 (pa_cons (pv 1) (pa_cons (pv 0) pa_nil))))
      (pss_one (ps_ret (pe_and (pe_cmpR op_lt (pe_ix (r := rIxT K) ix_tup (pv 2) pe_int (fun _ _ => rfl)) pe_int (nomark _)) (pe_one (pe_not (pe_callB (cr_anyT rfl) (by rfl) Z.m_any (by decide +kernel) (pa_cons (pe_slice (r := rSlA K) sl_tupA (pv 2) (po_some pe_int) po_none) pa_nil))))))))), ?_⟩
    refine ⟨fun σ H' => ∃ (x : Addr) (ns : List Int), v = .ref x ∧ σ = [some (.ref a), some (.ref x), none] ∧ Same H H' ∧ Vc H x ns ∧ ns.length = M.length ∧ ∀ x ∈ ns, (0 : Int) ≤ x, ?_, ?_⟩
    · refine ⟨_, rfl, _, _, rfl, .inl (SqL.of ea), _, rfl, M.length, v, p, B, n, by rw [List.length_map, rl]; rfl, D, hB, fun H1 b s1 hb => ?_⟩
      cases b with
      | false => exact ⟨false, rfl, iteT (q _ _ s1 ⟨(fun z => nomatch z), fun h => by have := hb.mpr (h.wts fun ns r => r.1); cases this⟩)⟩
      | true =>
        obtain ⟨x, ns, rfl, h1, h2, h3⟩ := hb.mp rfl
        exact ⟨true, rfl, iteF ⟨x, ns, rfl, rfl, s1, h1, h2, h3⟩⟩
    rintro σ H1 ⟨x, ns, rfl, rfl, s1, h1, h2, h3⟩
    refine ⟨fun σ H' => ∃ t : Addr, σ = [some (.ref a), some (.ref x), some (.ref t)] ∧ Same H H' ∧ Vc H' t (comb (d + 1) ns M), ?_, ?_⟩
    · refine ⟨_, rfl, _, rfl, true, x, a, ns, M, d + 1, rfl, h1.same s1, S.v.same s1, h2, S.l1, by have := S.l2; omega, S.w, by have := S.d2; omega, fun z hz => d2000 (dt_ints D h1 z hz) hB, S.big, fun H2 t s2 ht => ⟨t, rfl, s1.trans s2, ht⟩⟩
    rintro σ H2 ⟨t, rfl, s2, ht⟩
    have lc : (comb (d + 1) ns M).length = d + 1 := comb_lenN h2 S.w
    refine ⟨_, rfl, _, _, _, _, rfl, rfl, SqT.of ht, atI_en (j := 0) (by omega), _, _, rfl, rfl, _, rfl, ite2 (fun e => ?_) (fun e => ?_)⟩
    · have e : en (comb (d + 1) ns M) 0 < 0 := of_decide_eq_true e
      rw [comb_cb h2 S.w (by omega)] at e
      refine ⟨_, rfl, _, rfl, ?_⟩
      unfold tNoPart
      refine sl_h ht fun H3 r s3 hr => ?_
      rw [show (1 : Int) = ((1 : Nat) : Int) from rfl, cut_drop, ← List.map_drop] at hr
      refine ⟨r, (comb (d + 1) ns M).drop 1, rfl, SqT.of hr, _, rfl, q _ _ (s2.trans s3) ?_⟩
      rw [VtOf.the h1 h2, zer_drop lc]
      constructor
      · exact fun z => ⟨h3, e, fun j j1 j2 => by rw [← comb_cb h2 S.w (by omega)]; exact z j j1 j2⟩
      · exact fun z j j1 j2 => by rw [comb_cb h2 S.w (by omega)]; exact z.2.2 j j1 j2
    · refine q _ _ s2 ⟨(fun z => nomatch z), fun h => ?_⟩
      rw [VtOf.the h1 h2] at h
      rw [comb_cb h2 S.w (by omega)] at e
      exact absurd (decide_eq_true h.2.1) e


open Rk
def WgY (us : List (List Int)) (t w : List Int) (T : Int) (e : Nat) : Prop := w.length = us.length ∧ (∀ x ∈ w, (0 : Int) ≤ x) ∧ 1 ≤ T ∧ (∀ i, i < t.length → T * en t i = cb (en w) us i) ∧ (∀ x ∈ w, x.natAbs < 2 ^ e) ∧ T.natAbs < 2 ^ e
def WgN (us : List (List Int)) (t o : List Int) (e : Nat) : Prop := o.length = t.length ∧ Pok o ∧ (∀ u ∈ us, 0 ≤ dv t.length u (en o)) ∧ dv t.length t (en o) < 0 ∧ ∀ x ∈ o, x.natAbs < 2 ^ (e + 1)
def FndW (H : Hp) (r : Addr) (us : List (List Int)) (t : List Int) (e : Nat) : Prop := (∃ pw w T, H r = some (.tup [.str "yes", .ref pw, .int T]) ∧ Vc H pw w ∧ WgY us t w T e) ∨ (∃ po o, H r = some (.tup [.str "no", .ref po]) ∧ Vc H po o ∧ WgN us t o e)
theorem sm_nn {f : Nat → Int} : ∀ {n : Nat}, (∀ j, j < n → 0 ≤ f j) → 0 ≤ sm n f
  | 0, _ => Int.le_refl _
  | n + 1, h => by
    have h1 := sm_nn (f := f) (n := n) fun j hj => h j (by omega)
    have h2 := h n (by omega)
    show 0 ≤ sm n f + f n
    omega
theorem sm_pos1 {f : Nat → Int} : ∀ {n : Nat}, (∀ j, j < n → 0 ≤ f j) → (∃ j, j < n ∧ 0 < f j) → 0 < sm n f
  | 0, _, ⟨j, hj, _⟩ => absurd hj (Nat.not_lt_zero j)
  | n + 1, h, ⟨j, hj, p⟩ => by
    have h2 := h n (by omega)
    show 0 < sm n f + f n
    by_cases e : j = n
    · subst e
      have h1 := sm_nn (f := f) (n := j) fun i hi => h i (by omega)
      omega
    · have h1 := sm_pos1 (f := f) (n := n) (fun i hi => h i (by omega)) ⟨j, by omega, p⟩
      omega
theorem sm_sh {f : Nat → Int} : ∀ {n : Nat}, sm (n + 1) f = f 0 + sm n fun j => f (j + 1)
  | 0 => by
    show (0 : Int) + f 0 = f 0 + 0
    omega
  | n + 1 => by
    show sm (n + 1) f + f (n + 1) = f 0 + (sm n (fun j => f (j + 1)) + f (n + 1))
    rw [sm_sh]
    omega
theorem cb_sw {N : Nat} {M : List (List Int)} {x y : Nat → Int} : (sm M.length fun j => x j * dv N (M.getD j []) y) = sm N fun c => cb x M c * y c := by
  have e : (sm M.length fun j => x j * dv N (M.getD j []) y) = sm M.length fun j => sm N fun c => x j * (en (M.getD j []) c * y c) := sm_congr fun j _ => by
    unfold dv
    rw [sm_mul]
  rw [e, sm_swap]
  refine sm_congr fun c _ => ?_
  unfold cb
  rw [Int.mul_comm, ← sm_mul]
  refine sm_congr fun j _ => ?_
  rw [Int.mul_comm (y c), Int.mul_assoc]
theorem getD_memM {M : List (List Int)} {j : Nat} (h : j < M.length) : M.getD j [] ∈ M := getD_memW h
theorem dv_sh {d : Nat} {v : List Int} {y : Nat → Int} : dv (d + 1) v y = en v 0 * y 0 + dv d (v.drop 1) fun j => y (j + 1) := by
  unfold dv
  rw [sm_sh]
  congr 1
  refine sm_congr fun j _ => ?_
  show v.getD (j + 1) 0 * _ = (v.drop 1).getD j 0 * _
  rw [List.getD_eq_getElem?_getD, List.getD_eq_getElem?_getD, List.getElem?_drop, Nat.add_comm 1 j]
theorem en_ge {ns : List Int} {b : Int} (h : ∀ x ∈ ns, b ≤ x) {j : Nat} (hj : j < ns.length) : b ≤ en ns j := h _ (en_mem hj)
theorem dt_item {p a : Addr} {H : Hp} {B n : Nat} {xs : List V} (d : Dt p H B n (.ref a)) (h : H a = some (.tup xs)) (i : Nat) (x : V) (hx : xs[i]? = some x) : ∃ m, Dt p H B m x := by
  cases d with
  | tup h' hl hd =>
    rw [h] at h'
    cases h'
    exact ⟨_, hd x (List.mem_of_getElem? hx)⟩
  | lst h' _ _ _ =>
    rw [h] at h'
    cases h'
theorem VtOf.same {H H' : Hp} {v : V} {L : Nat} {R : List Int → Prop} (h : VtOf H v L R) (s : Same H H') : VtOf H' v L R := by
  obtain ⟨a, ns, e, h1, h2⟩ := h
  exact ⟨a, ns, e, h1.same s, h2⟩
theorem PtOf.same {H H' : Hp} {v : V} {d : Nat} {R : List Int → Prop} (h : PtOf H v d R) (s : Same H H') : PtOf H' v d R := by
  obtain ⟨a, ns, e, h1, h2⟩ := h
  exact ⟨a, ns, e, h1.same s, h2⟩
theorem Dt.was {p a : Addr} {H H' : Hp} {B n : Nat} (d : Dt p H B n (.ref a)) (s : Same H H') {o : HO} (h : H' a = some o) : H a = some o := by
  cases d with
  | tup h' _ _ =>
    rw [s _ _ h'] at h
    rw [h', h]
  | lst h' _ _ _ =>
    rw [s _ _ h'] at h
    rw [h', h]
theorem VtOf.back {p : Addr} {H H' : Hp} {B n : Nat} {v : V} {L : Nat} {R : List Int → Prop} (h : VtOf H' v L R) (s : Same H H') (d : Dt p H B n v) : VtOf H v L R := by
  obtain ⟨a, ns, rfl, h1, h2⟩ := h
  exact ⟨a, ns, rfl, d.was s h1, h2⟩
theorem PtOf.back {p : Addr} {H H' : Hp} {B n : Nat} {v : V} {d : Nat} {R : List Int → Prop} (h : PtOf H' v d R) (s : Same H H') (D : Dt p H B n v) : PtOf H v d R := by
  obtain ⟨a, ns, rfl, h1, h2⟩ := h
  exact ⟨a, ns, rfl, D.was s h1, h2⟩
theorem Sys.big4 {H : Hp} {a : Addr} {d : Nat} {M : List (List Int)} (h : Sys H a d M) : ∀ v ∈ M, ∀ n ∈ v, n.natAbs < 2 ^ 4000 := fun v hv n hn => Nat.lt_of_lt_of_le (h.b v hv n hn) (Nat.pow_le_pow_right (by decide) (by decide))
theorem en_replicate {n j : Nat} {x : Int} (h : j < n) : en (List.replicate n x) j = x := by
  show (List.replicate n x).getD j 0 = x
  rw [List.getD_eq_getElem?_getD, List.getElem?_replicate, if_pos h]
  rfl
theorem en_drop1 {l : List Int} {j : Nat} : en (l.drop 1) j = en l (j + 1) := by
  show (l.drop 1).getD j 0 = l.getD (j + 1) 0
  rw [List.getD_eq_getElem?_getD, List.getD_eq_getElem?_getD, List.getElem?_drop, Nat.add_comm 1 j]
theorem en_app {v : List Int} {j n : Nat} {x : Int} (hv : v.length = n) : en (v ++ [x]) j = if j < n then en v j else if j = n then x else 0 := by
  show (v ++ [x]).getD j 0 = _
  rw [List.getD_eq_getElem?_getD]
  by_cases c : j < n
  · rw [if_pos c, List.getElem?_append_left (by omega)]
    show _ = v.getD j 0
    rw [List.getD_eq_getElem?_getD]
  · rw [if_neg c, List.getElem?_append_right (by omega)]
    by_cases e : j = n
    · rw [if_pos e, show j - v.length = 0 by omega]
      rfl
    · rw [if_neg e]
      obtain ⟨m, hm⟩ : ∃ m, j - v.length = m + 1 := ⟨j - v.length - 1, by omega⟩
      rw [hm]
      rfl
theorem getD_mapL {M : List (List Int)} {f : List Int → List Int} {j : Nat} (h : j < M.length) : (M.map f).getD j [] = f (M.getD j []) := getD_some (by
  rw [List.getElem?_map, List.getElem?_eq_getElem h, getD_some (List.getElem?_eq_getElem h)]
  rfl)
theorem dt_vec {p a : Addr} {H : Hp} {B n : Nat} {ns : List Int} (h : Vc H a ns) (hl : ns.length ≤ B) (hb : ∀ x ∈ ns, x.natAbs < 2 ^ B) : Dt p H B (n + 1) (.ref a) := .tup h (by rw [List.length_map]; exact hl) fun x hx => by
  obtain ⟨y, hy, rfl⟩ := List.mem_map.mp hx
  exact .int _ _ (hb y hy)
theorem wg_y {H : Hp} {us : List (List Int)} {t : List Int} {e : Nat} {Q : Addr → Hp → Prop} (q : ∀ (H' : Hp) (r : Addr), Same H H' → FndW H' r us t e → Q r H') :
    ∀ (H' : Hp) (r pw : Addr) (w : List Int) (T : Int), Same H H' → H' r = some (.tup [.str "yes", .ref pw, .int T]) → Vc H' pw w → w.length = us.length → (∀ x ∈ w, 0 ≤ x) → 1 ≤ T → (∀ i, i < t.length → T * en t i = sm us.length fun j => en w j * en (us.getD j []) i) → (∀ x ∈ w, x.natAbs < 2 ^ e) → T.natAbs < 2 ^ e → Q r H' :=
  fun H' r pw w T s h1 h2 h3 h4 h5 h6 h7 h8 => q H' r s (.inl ⟨pw, w, T, h1, h2, h3, h4, h5, h6, h7, h8⟩)
theorem wg_n {H : Hp} {us : List (List Int)} {t : List Int} {e : Nat} {Q : Addr → Hp → Prop} (q : ∀ (H' : Hp) (r : Addr), Same H H' → FndW H' r us t e → Q r H') :
    ∀ (H' : Hp) (r po : Addr) (o : List Int), Same H H' → H' r = some (.tup [.str "no", .ref po]) → Vc H' po o → o.length = t.length → Pok o → (∀ j, j < us.length → 0 ≤ dv t.length (us.getD j []) (en o)) → dv t.length t (en o) < 0 → (∀ x ∈ o, x.natAbs < 2 ^ (e + 1)) → Q r H' :=
  fun H' r po o s h1 h2 h3 h4 h5 h6 h7 => q H' r s (.inr ⟨po, o, h1, h2, h3, h4, fun u hu => by
     obtain ⟨j, hj, rfl⟩ := List.getElem_of_mem hu
     have := h5 j hj
     rwa [show us.getD j [] = us[j] from getD_some (List.getElem?_eq_getElem hj)] at this, h6, h7⟩)

theorem rep_flat (x : Int) : ∀ n : Nat, (List.replicate n [V.int x]).flatten = (List.replicate n x).map V.int
  | 0 => rfl
  | n + 1 => by
    rw [List.replicate_succ, List.replicate_succ, List.flatten_cons, rep_flat x n]
    rfl
theorem rep_hx {H : Hp} {a : Addr} {d : Nat} {x : Int} {Q : VK} (ha : H a = some (.tup [V.int x])) (d1 : 1 ≤ d) (d2 : d ≤ 1000) (q : ∀ (H' : Hp) (b : Addr), Same H H' → Vc H' b (List.replicate d x) → Q (.ref b) H') : rRepA K (.ref a) (.int d) H Q := by
  by_cases h1 : d = 1
  · subst h1
    exact .inr ⟨a, _, rfl, rfl, SqT.of ha, q _ _ (Same.refl _) ha⟩
  · refine .inl ⟨a, _, _, rfl, rfl, SqT.of ha, (fun z => nomatch z), by omega, by omega, (by show 1 ≤ 1000; decide), fun b nb => q _ _ (same_upd nb) ?_⟩
    unfold Vc
    rw [upd_same, Int.toNat_natCast, rep_flat]

open Rk
/-! ### what follows from a system -/
def YesR (d : Nat) (M : List (List Int)) (row : List Int) (T A : Int) (ns : List Int) : Prop := (∀ x ∈ ns, (0 : Int) ≤ x) ∧ cb (en ns) M 0 + A = T * en row 0 ∧ ∀ j, 1 ≤ j → j ≤ d → cb (en ns) M j = T * en row j
def NoR (d : Nat) (M : List (List Int)) (row ns : List Int) : Prop := Sol d M ns ∧ dv (d + 1) row (en ns) < 0
def FolP (d : Nat) (M : List (List Int)) (row : List Int) (H : Hp) (v : V) : Prop :=
  (∃ a w T A, v = .ref a ∧ H a = some (.tup [.str "yes", w, .int T, .int A]) ∧ 1 ≤ T ∧ 0 ≤ A ∧ VtOf H w M.length (YesR d M row T A)) ∨
  (∃ a x, v = .ref a ∧ H a = some (.tup [.str "none", x]) ∧ VtOf H x M.length (EmpR d M)) ∨
  (∃ a x, v = .ref a ∧ H a = some (.tup [.str "no", x]) ∧ PtOf H x d (NoR d M row))
theorem cb_snoc {M : List (List Int)} {w : List Int} {u : List Int} {c : Nat} (hl : w.length = M.length + 1) : cb (en w) (M ++ [u]) c = cb (en (w.take M.length)) M c + en w M.length * en u c := by
  unfold cb
  rw [List.length_append]
  show (sm M.length fun j => en w j * en ((M ++ [u]).getD j []) c) + en w M.length * en ((M ++ [u]).getD M.length []) c = _
  have e1 : (M ++ [u]).getD M.length [] = u := by
    rw [List.getD_eq_getElem?_getD, List.getElem?_append_right (Nat.le_refl _), Nat.sub_self]
    rfl
  rw [e1]
  congr 1
  refine sm_congr fun j hj => ?_
  have e2 : (M ++ [u]).getD j [] = M.getD j [] := by
    rw [List.getD_eq_getElem?_getD, List.getD_eq_getElem?_getD, List.getElem?_append_left hj]
  have e3 : en (w.take M.length) j = en w j := by
    show (w.take M.length).getD j 0 = w.getD j 0
    rw [List.getD_eq_getElem?_getD, List.getD_eq_getElem?_getD, List.getElem?_take_of_lt hj]
  rw [e2, e3]
theorem dv_unit {d : Nat} {e : Int} {o : Nat → Int} : dv (d + 1) (e :: List.replicate d (0 : Int)) o = e * o 0 := by
  rw [dv_sh]
  show e * o 0 + sm d (fun j => (List.replicate d (0 : Int)).getD j 0 * o (j + 1)) = _
  rw [sm_zero fun j hj => by rw [List.getD_eq_getElem?_getD, List.getElem?_replicate, if_pos hj]; exact Int.zero_mul _, Int.add_zero]
theorem en_unit {d j : Nat} {e : Int} (hj : j < d + 1) : en (e :: List.replicate d (0 : Int)) j = if j = 0 then e else 0 := by
  cases j with
  | zero => rfl
  | succ j =>
    show (List.replicate d (0 : Int)).getD j 0 = _
    rw [List.getD_eq_getElem?_getD, List.getElem?_replicate, if_neg (Nat.succ_ne_zero j), if_pos (by omega)]
    rfl
/-- a point with a step along a direction -/
theorem step_no {d : Nat} {M : List (List Int)} {row x o : List Int} {s : Int} (hx : x.length = d + 1) (ho : o.length = d + 1) (sx : Sol d M x) (so : ∀ v ∈ M, 0 ≤ dv (d + 1) v (en o)) (s0 : 0 ≤ s) :
    (comb (d + 1) [1, s] [x, o]).length = d + 1 ∧ (∀ j, j < d + 1 → en (comb (d + 1) [1, s] [x, o]) j = en x j + s * en o j) ∧ (∀ v, dv (d + 1) v (en (comb (d + 1) [1, s] [x, o])) = dv (d + 1) v (en x) + s * dv (d + 1) v (en o)) ∧ Sol d M (comb (d + 1) [1, s] [x, o]) := by
  have w2 : ∀ v ∈ [x, o], v.length = d + 1 := fun v hv => by
    rcases List.mem_cons.mp hv with rfl | hv
    · exact hx
    · rw [List.mem_singleton.mp hv]
      exact ho
  have e1 : ∀ j, j < d + 1 → en (comb (d + 1) [1, s] [x, o]) j = en x j + s * en o j := fun j hj => by
    rw [comb_cb rfl w2 hj]
    show (0 : Int) + 1 * en x j + s * en o j = _
    omega
  have e2 : ∀ v, dv (d + 1) v (en (comb (d + 1) [1, s] [x, o])) = dv (d + 1) v (en x) + s * dv (d + 1) v (en o) := fun v => by
    unfold dv
    rw [← sm_mul, ← sm_add]
    refine sm_congr fun j hj => ?_
    rw [e1 j hj, Int.mul_add, Int.mul_left_comm]
  refine ⟨comb_lenN rfl w2, e1, e2, fun v hv => ?_⟩
  rw [e2]
  have := Int.mul_nonneg s0 (so v hv)
  have := sx v hv
  omega
theorem fol_steps {m q : Int} (hq : 0 < q) : 0 ≤ (if m > 0 then m else 0) / q + 1 ∧ m < ((if m > 0 then m else 0) / q + 1) * q := by
  have h0 : 0 ≤ (if m > 0 then m else 0) := by split <;> omega
  have h1 : m ≤ (if m > 0 then m else 0) := by split <;> omega
  generalize (if m > 0 then m else 0) = y at *
  have a1 := Int.ediv_nonneg h0 (Int.le_of_lt hq)
  have a2 := Int.lt_ediv_add_one_mul_self y hq
  omega
/-- points by their common divisor -/
theorem dv_primr {N : Nat} {ns : List Int} {v : List Int} (hl : ns.length = N) (g : 0 < gl ns) : dv N v (en ns) = gl ns * dv N v (en (prim ns)) := by
  unfold dv
  rw [← sm_mul]
  exact sm_congr fun j hj => by rw [en_prim (by omega) g, Int.mul_left_comm]
theorem no_prim {d : Nat} {M : List (List Int)} {row ns : List Int} (hl : ns.length = d + 1) (p : 0 < en ns 0) (h : NoR d M row ns) : 0 < en (prim ns) 0 ∧ gl (prim ns) = 1 ∧ NoR d M row (prim ns) := by
  obtain ⟨g, p0⟩ := prim_pos0 p (by omega)
  refine ⟨p0, (pok_prim _).resolve_left fun z => ?_, fun v hv => ?_, ?_⟩
  · have := prim_zero z _ (en_mem (v := prim ns) (c := 0) (by rw [prim_len]; omega))
    omega
  · have := h.1 v hv
    rw [dv_primr hl g] at this
    refine Classical.byContradiction fun no => ?_
    have := Int.mul_neg_of_pos_of_neg g (show dv (d + 1) v (en (prim ns)) < 0 by omega)
    omega
  · have := h.2
    rw [dv_primr hl g] at this
    refine Classical.byContradiction fun no => ?_
    have := Int.mul_nonneg (Int.le_of_lt g) (show 0 ≤ dv (d + 1) row (en (prim ns)) by omega)
    omega
abbrev s_following_paper : Stmt := topS 19
theorem sc_following_paper : FnScope ["d", "rows", "inequality", "found", "other", "case", "start", "steps"] ["d", "rows", "inequality"] (defScope s_following_paper) := ⟨rfl, rfl, rfl, by decide +kernel, rfl, by decide +kernel, by decide +kernel⟩
def spFol : Sp := fun vs H Q _ => ∃ (d : Nat) (a ia : Addr) (M : List (List Int)) (row : List Int), vs = [.int (d : Int), .ref a, .ref ia] ∧ Sys H a d M ∧ Vc H ia row ∧ row.length = d + 1 ∧ M.length ≤ 90 ∧ (∀ v ∈ M, Lim 20 v) ∧ Lim 20 row ∧ ∀ (H' : Hp) (r : Addr), Same H H' → FolP d M row H' (.ref r) → ((∀ v ∈ M, Lim 8 v) → Lim 8 row → ∀ p, Dt p H' 300 2 (.ref r)) → Q (.ref r) H'
theorem ok_fol {f : Addr} {fd : FuncData} {k : Nat} (F : Fun K "following_paper" "following_paper" s_following_paper f fd) (Z : Glb mg) (Cweighing : Call P w K mg base k "weighing" ["vectors", "target"] spWg) (Cprimitive : Call P w K mg base k "primitive" ["v"] spPrimL) (Cdot : Call P w K mg base k "dot" ["v", "w"] spDot) (Ccombined : Call P w K mg base k "combined" ["weights", "vectors"] spComb) : FnOk P w K mg base CX0 (k + 1) f fd ["d", "rows", "inequality"] spFol := by
  refine F.ok sc_following_paper (fun vs H Q E h => ?_) (fun cdv A outer s H vs Q E hr h => ?_)
  · obtain ⟨d, a, ia, M, row, rfl, _⟩ := h
    rfl
  · obtain ⟨d, a, ia, M, row, rfl, S, hi, lr, m90, b1, b2, q⟩ := h
    refine ⟨_, (pss_cut (ps_set (i := 3) sc_following_paper.nd rfl (.inl rfl) (pe_call Cweighing.G hr (by rfl) Cweighing.m Cweighing.kp Cweighing.b .nil pass0 (pa_cons (pe_op op_cat (pv 1) (pe_lst (pa_cons (pe_op (r := rCatA K) op_catA (pe_tup (pa_cons pe_int pa_nil)) (pe_op (r := rRepA K) op_repA (pe_tup (pa_cons pe_int pa_nil)) (pv 0))) pa_nil))) (pa_cons (pv 2) pa_nil))))
      (pss_cut (ps_if (pt_cmpR op_eq (pe_ix (r := rIxT K) ix_tup (pv 3) pe_int (fun _ _ => rfl)) pe_str (nomark _)) (pss_one (ps_ret (pe_tup (pa_cons pe_str (pa_cons (pe_slice (r := rSlA K) sl_tupA (pe_ix (r := rIxT K) ix_tup (pv 3) pe_int (fun _ _ => rfl)) po_none (po_some (pe_un un_neg pe_int))) (pa_cons (pe_ix (r := rIxT K) ix_tup (pv 3) pe_int (fun _ _ => rfl)) (pa_cons (pe_ix (r := rIxT K) ix_tup (pe_ix (r := rIxT K) ix_tup (pv 3) pe_int (fun _ _ => rfl)) (pe_un un_neg pe_int) (fun _ _ => rfl)) pa_nil))))))) pss_nil)
      (pss_cut (ps_set (i := 4) sc_following_paper.nd rfl (.inl rfl) (pe_ix (r := rIxT K) ix_tup (pv 3) pe_int (fun _ _ => rfl)))
      (pss_cut (ps_if (pt_cmpR op_gt (pe_ix (r := rIxT K) ix_tup (pv 4) pe_int (fun _ _ => rfl)) pe_int (nomark _)) (pss_one (ps_ret (pe_tup (pa_cons pe_str (pa_cons (pv 4) pa_nil))))) pss_nil)
      (pss_cut (ps_set (i := 5) sc_following_paper.nd rfl (.inl rfl) (pe_call Cweighing.G hr (by rfl) Cweighing.m Cweighing.kp Cweighing.b .nil pass0 (pa_cons (pv 1) (pa_cons (pe_op (r := rCatA K) op_catA (pe_tup (pa_cons (pe_un un_neg pe_int) pa_nil)) (pe_op (r := rRepA K) op_repA (pe_tup (pa_cons pe_int pa_nil)) (pv 0))) pa_nil))))
      (pss_cut (ps_if (pt_cmpR op_eq (pe_ix (r := rIxT K) ix_tup (pv 5) pe_int (fun _ _ => rfl)) pe_str (nomark _)) (pss_one (ps_ret (pe_tup (pa_cons pe_str (pa_cons (pe_ix (r := rIxT K) ix_tup (pv 5) pe_int (fun _ _ => rfl)) pa_nil))))) pss_nil)
      (pss_cut (ps_set (i := 6) sc_following_paper.nd rfl (.inl rfl) (pe_ix (r := rIxT K) ix_tup (pv 5) pe_int (fun _ _ => rfl)))
      (pss_cut (ps_set (i := 7) sc_following_paper.nd rfl (.inl rfl) (pe_op op_add (pe_op op_fdivW (pe_callB (call_max2 rfl) (by rfl) Z.m_max (by decide +kernel) (pa_cons pe_int (pa_cons (pe_call Cdot.G hr (by rfl) Cdot.m Cdot.kp Cdot.b .nil pass0 (pa_cons (pv 2) (pa_cons (pv 6) pa_nil))) pa_nil))) (pe_un un_neg (pe_call Cdot.G hr (by rfl) Cdot.m Cdot.kp Cdot.b .nil pass0 (pa_cons (pv 2) (pa_cons (pv 4) pa_nil))))) pe_int))
      (pss_one (ps_ret (pe_tup (pa_cons pe_str (pa_cons (pe_call Cprimitive.G hr (by rfl) Cprimitive.m Cprimitive.kp Cprimitive.b .nil pass0 (pa_cons (pe_call Ccombined.G hr (by rfl) Ccombined.m Ccombined.kp Ccombined.b .nil pass0 (pa_cons (pe_tup (pa_cons pe_int (pa_cons (pv 7) pa_nil))) (pa_cons (pe_lst (pa_cons (pv 6) (pa_cons (pv 4) pa_nil))) pa_nil))) pa_nil)) pa_nil))))))))))))), ?_⟩
    have l1 := S.l1
    have d1 := S.d1
    have d4 := S.d2
    have w6 : ∀ b, b ≤ 20 → wgE (d + 1) (b + 1) ≤ 20 + 6 * (b + 4) := fun b hb => by
      unfold wgE
      have := Nat.mul_le_mul (show d + 1 + 1 ≤ 6 by omega) (Nat.le_refl (b + 1 + 3))
      omega
    have up1 : ∀ {x : Int} {b : Nat}, x.natAbs < 2 ^ b → x.natAbs < 2 ^ (b + 1) := fun h => up_pow h (by omega)
    have one : ∀ {x : Int} {b : Nat}, x.natAbs ≤ 1 → x.natAbs < 2 ^ (b + 1) := fun {x b} h => by
      have : 2 ^ 1 ≤ 2 ^ (b + 1) := Nat.pow_le_pow_right (by decide) (by omega)
      omega
    have lu : ∀ e : Int, (e :: List.replicate d (0 : Int)).length = d + 1 := fun e => by rw [List.length_cons, List.length_replicate]
    have bu : ∀ (e : Int) (b : Nat), e.natAbs ≤ 1 → ∀ x ∈ (e :: List.replicate d (0 : Int)), x.natAbs < 2 ^ (b + 1) := fun e b he x hx => by
      rcases List.mem_cons.mp hx with rfl | hx
      · exact one he
      · rw [List.eq_of_mem_replicate hx]
        exact one (by decide)
    -- the bound that holds
    obtain ⟨b, bl, c1, c2, cs⟩ : ∃ b, b ≤ 20 ∧ (∀ v ∈ M, Lim b v) ∧ Lim b row ∧ ((∀ v ∈ M, Lim 8 v) → Lim 8 row → b ≤ 8) := by
      by_cases h : (∀ v ∈ M, Lim 8 v) ∧ Lim 8 row
      · exact ⟨8, by decide, h.1, h.2, fun _ _ => Nat.le_refl 8⟩
      · exact ⟨20, Nat.le_refl 20, b1, b2, fun h1 h2 => absurd ⟨h1, h2⟩ h⟩
    have we := w6 b bl
    -- the first weighing
    have lM1 : (M ++ [(1 : Int) :: List.replicate d 0]).length = M.length + 1 := by rw [List.length_append]; rfl
    refine ⟨fun σ H' => ∃ r : Addr, σ = [some (.int (d : Int)), some (.ref a), some (.ref ia), some (.ref r), none, none, none, none] ∧ Same H H' ∧ FndW H' r (M ++ [(1 : Int) :: List.replicate d 0]) row (wgE (d + 1) (b + 1)), ?_, ?_⟩
    · refine ⟨_, rfl, (show 1 ≤ sizeLine by decide), fun z nz => ⟨(show 1 ≤ sizeLine by decide), fun z2 nz2 => ⟨_, rfl, ?_⟩⟩⟩
      have sz := same_upd (o := .tup [.int 1]) nz
      have hz := upd_same (H := H) (a := z) (o := .tup [.int 1])
      have sz2 := same_upd (o := .tup [.int 0]) nz2
      have hz2 := upd_same (H := upd H z (.tup [.int 1])) (a := z2) (o := .tup [.int 0])
      have hz' := sz2 _ _ hz
      have s02 := sz.trans sz2
      generalize upd (upd H z (.tup [.int 1])) z2 (.tup [.int 0]) = H2 at *
      refine rep_hx (d := d) hz2 d1 (by omega) fun H3 b3 s3 h3 => cat_h (s3 _ _ hz') h3 (by rw [List.length_map, List.length_replicate]; show 1 + d ≤ 1000; omega) fun H4 r4 s4 h4 => ⟨(show 1 ≤ sizeLine by decide), fun l nl => ?_⟩
      have s04 := s02.trans (s3.trans s4)
      obtain ⟨rs4, er4, rl4, rg4⟩ := S.v.same s04
      have sl := same_upd (o := .lst [.ref r4]) nl
      refine ⟨a, l, _, _, rfl, rfl, sl _ _ er4, upd_same, by rw [List.length_map, rl4]; exact Nat.le_of_lt (small1000 (show M.length + 1 ≤ 1000 by omega)), fun c nc => ⟨_, rfl, ?_⟩⟩
      have sc := same_upd (o := .lst (rs4.map V.ref ++ [.ref r4])) nc
      have s46 := sl.trans sc
      have s06 := s04.trans s46
      have V6 : VL (upd (upd H4 l (.lst [.ref r4])) c (.lst (rs4.map V.ref ++ [.ref r4]))) c (M ++ [(1 : Int) :: List.replicate d 0]) := by
        refine ⟨rs4 ++ [r4], by rw [upd_same, List.map_append]; rfl, by rw [List.length_append, lM1, rl4]; rfl, fun i r hr => ?_⟩
        rcases app_get hr with h1 | ⟨h1, rfl⟩
        · obtain ⟨u, h2, h3⟩ := rg4 i r h1
          exact ⟨u, by rw [List.getElem?_append_left (lt_of_get h2)]; exact h2, h3.same s46⟩
        · refine ⟨(1 : Int) :: List.replicate d 0, by rw [h1, rl4, List.getElem?_append_right (Nat.le_refl _), Nat.sub_self]; rfl, ?_⟩
          exact s46 _ _ h4
      exact ⟨c, ia, _, row, b + 1, rfl, V6, hi.same s06, by omega, by rw [lM1]; omega, fun v hv => by
        rcases List.mem_append.mp hv with hv | hv
        · rw [S.w v hv, lr]
        · rw [List.mem_singleton.mp hv, lu, lr], by omega, by rw [lr]; omega, fun v hv x hx => by
        rcases List.mem_append.mp hv with hv | hv
        · exact up1 (c1 v hv x hx)
        · rw [List.mem_singleton.mp hv] at hx
          exact bu 1 b (by decide) x hx, fun x hx => up1 (c2 x hx), wg_y fun H8 r8 s8 f8 => ⟨r8, rfl, s06.trans s8, by rw [lr] at f8; exact f8⟩, wg_n fun H8 r8 s8 f8 => ⟨r8, rfl, s06.trans s8, by rw [lr] at f8; exact f8⟩⟩
    rintro σ H1 ⟨r1, rfl, s1, f1⟩
    -- it follows
    refine ⟨fun σ H' => H' = H1 ∧ σ = [some (.int (d : Int)), some (.ref a), some (.ref ia), some (.ref r1), none, none, none, none] ∧ ∃ (po : Addr) (o : List Int), H1 r1 = some (.tup [.str "no", .ref po]) ∧ Vc H1 po o ∧ o.length = d + 1 ∧ Pok o ∧ (∀ v ∈ M, 0 ≤ dv (d + 1) v (en o)) ∧ 0 ≤ en o 0 ∧ dv (d + 1) row (en o) < 0 ∧ ∀ y ∈ o, y.natAbs < 2 ^ (wgE (d + 1) (b + 1) + 1), ?_, ?_⟩
    · rcases f1 with ⟨pw, w, T, h1, h2, y1, y2, y3, y4, y5, y6⟩ | ⟨po, o, h1, h2, n1, n2, n3, n4, n5⟩
      · rw [lr] at y4
        rw [lM1] at y1
        refine ⟨_, rfl, _, _, _, _, rfl, rfl, SqT.of h1, atI_nat (j := 0) rfl, rfl, _, rfl, iteT ?_⟩
        refine ⟨_, rfl, _, _, _, _, rfl, rfl, SqT.of h1, atI_nat (j := 1) rfl, ?_⟩
        refine noPart_slW (r := rSlA K) ?_
        refine ⟨(1 : Int), rfl, (-1 : Int), rfl, ?_⟩
        refine sl_h h2 fun H2 r2 s2 h22 => ?_
        have ew : w.take M.length ++ [en w M.length] = w := by
          have : w[M.length]? = some (en w M.length) := by rw [List.getElem?_eq_getElem (by omega), en_at (by omega)]
          rw [← take_get this, List.take_of_length_le (by omega)]
        have h22' : Vc H2 r2 (w.take M.length) := by
          unfold Vc
          rw [h22]
          have := cut_butlast ((w.take M.length).map V.int) (.int (en w M.length))
          rw [show (w.take M.length).map V.int ++ [V.int (en w M.length)] = (w.take M.length ++ [en w M.length]).map V.int by rw [List.map_append]; rfl, ew] at this
          rw [this]
        refine ⟨_, rfl, _, _, _, _, rfl, rfl, SqT.of (s2 _ _ h1), atI_nat (j := 2) rfl, ?_⟩
        refine ⟨_, rfl, _, _, _, _, rfl, rfl, SqT.of (s2 _ _ h1), atI_nat (j := 1) rfl, _, rfl, pw, _, (-1), _, rfl, rfl, SqT.of (s2 _ _ h2), en_last y1, (show 4 ≤ sizeLine by decide), fun l nl => ?_⟩
        have sl := same_upd (o := .tup [.str "yes", .ref r2, .int T, .int (en w M.length)]) nl
        have A0 : 0 ≤ en w M.length := y2 _ (en_mem (by omega))
        refine q _ l (s1.trans (s2.trans sl)) (.inl ⟨l, _, T, en w M.length, rfl, upd_same, y3, A0, r2, _, rfl, h22'.same sl, by rw [List.length_take]; omega, fun x hx => y2 x (List.mem_of_mem_take hx), ?_, fun j j1 j2 => ?_⟩) fun m1 m2 p => ?_
        · have := y4 0 (by omega)
          rw [cb_snoc y1, en_unit (by omega), if_pos rfl, Int.mul_one] at this
          exact this.symm
        · have := y4 j (by omega)
          rw [cb_snoc y1, en_unit (by omega), if_neg (by omega), Int.mul_zero, Int.add_zero] at this
          exact this.symm
        · have b8 := cs m1 m2
          refine .tup upd_same (by show 4 ≤ 300; decide) fun y hy => ?_
          rcases List.mem_cons.mp hy with rfl | hy
          · exact .str _ _
          rcases List.mem_cons.mp hy with rfl | hy
          · exact dt_vec (h22'.same sl) (by rw [List.length_take]; omega) fun y hy => up_pow (y5 y (List.mem_of_mem_take hy)) (by omega)
          rcases List.mem_cons.mp hy with rfl | hy
          · exact .int _ _ (up_pow y6 (by omega))
          · rw [List.mem_singleton.mp hy]
            exact .int _ _ (up_pow (y5 _ (en_mem (by omega))) (by omega))
      · rw [lr] at n1 n3 n4
        refine ⟨_, rfl, _, _, _, _, rfl, rfl, SqT.of h1, atI_nat (j := 0) rfl, rfl, _, rfl, iteF ⟨rfl, rfl, po, o, h1, h2, n1, n2, fun v hv => n3 v (List.mem_append.mpr (.inl hv)), ?_, n4, n5⟩⟩
        have := n3 _ (List.mem_append.mpr (.inr (List.mem_singleton.mpr rfl)))
        rw [dv_unit, Int.one_mul] at this
        exact this
    rintro σ H2 ⟨rfl, rfl, po, o, h1, h2, lo, oP, oM, o0, oR, bo⟩
    refine ⟨fun σ H' => H' = H2 ∧ σ = [some (.int (d : Int)), some (.ref a), some (.ref ia), some (.ref r1), some (.ref po), none, none, none], ⟨_, rfl, _, _, _, _, rfl, rfl, SqT.of h1, atI_nat (j := 1) rfl, rfl, rfl⟩, ?_⟩
    rintro σ H3 ⟨rfl, rfl⟩
    -- a point
    refine ⟨fun σ H' => H' = H3 ∧ σ = [some (.int (d : Int)), some (.ref a), some (.ref ia), some (.ref r1), some (.ref po), none, none, none] ∧ en o 0 = 0, ?_, ?_⟩
    · refine ⟨_, rfl, _, _, _, _, rfl, rfl, SqT.of h2, atI_en (j := 0) (by omega), _, _, rfl, rfl, _, rfl, ite2 (fun c => ?_) (fun c => ⟨rfl, rfl, by
        have : ¬ 0 < en o 0 := fun z => c (decide_eq_true z)
        omega⟩)⟩
      have c := of_decide_eq_true c
      refine ⟨_, rfl, (show 2 ≤ sizeLine by decide), fun l nl => ?_⟩
      have sl := same_upd (o := .tup [.str "no", .ref po]) nl
      refine q _ l (s1.trans sl) (.inr (.inr ⟨l, _, rfl, upd_same, po, o, rfl, h2.same sl, lo, c, oP.resolve_left fun z => ?_, oM, oR⟩)) fun m1 m2 p => ?_
      · have := prim_zero z _ (en_mem (v := o) (c := 0) (by omega))
        omega
      · have b8 := cs m1 m2
        refine .tup upd_same (by show 2 ≤ 300; decide) fun y hy => ?_
        rcases List.mem_cons.mp hy with rfl | hy
        · exact .str _ _
        · rw [List.mem_singleton.mp hy]
          exact dt_vec (h2.same sl) (by omega) fun y hy => up_pow (bo y hy) (by omega)
    rintro σ H4 ⟨rfl, rfl, oz⟩
    -- the second weighing
    refine ⟨fun σ H' => ∃ r : Addr, σ = [some (.int (d : Int)), some (.ref a), some (.ref ia), some (.ref r1), some (.ref po), some (.ref r), none, none] ∧ Same H4 H' ∧ FndW H' r M (-1 :: List.replicate d 0) (wgE (d + 1) (b + 1)), ?_, ?_⟩
    · refine ⟨_, rfl, _, rfl, (show 1 ≤ sizeLine by decide), fun z nz => ⟨(show 1 ≤ sizeLine by decide), fun z2 nz2 => ⟨_, rfl, ?_⟩⟩⟩
      have sz := same_upd (o := .tup [.int (-1)]) nz
      have hz := upd_same (H := H4) (a := z) (o := .tup [.int (-1)])
      have sz2 := same_upd (o := .tup [.int 0]) nz2
      have hz2 := upd_same (H := upd H4 z (.tup [.int (-1)])) (a := z2) (o := .tup [.int 0])
      have hz' := sz2 _ _ hz
      have s02 := sz.trans sz2
      generalize upd (upd H4 z (.tup [.int (-1)])) z2 (.tup [.int 0]) = H5 at *
      refine rep_hx (d := d) hz2 d1 (by omega) fun H6 b6 s6 h6 => cat_h (s6 _ _ hz') h6 (by rw [List.length_map, List.length_replicate]; show 1 + d ≤ 1000; omega) fun H7 r7 s7 h7 => ?_
      have s04 := s02.trans (s6.trans s7)
      exact ⟨a, r7, M, -1 :: List.replicate d 0, b + 1, rfl, S.v.same (s1.trans s04), h7, by rw [lu]; omega, by omega, fun v hv => by rw [lu]; exact S.w v hv, by omega, by rw [lu]; omega, fun v hv x hx => up1 (c1 v hv x hx), bu (-1) b (by decide), wg_y fun H8 r8 s8 f8 => ⟨r8, rfl, s04.trans s8, by rw [lu] at f8; exact f8⟩, wg_n fun H8 r8 s8 f8 => ⟨r8, rfl, s04.trans s8, by rw [lu] at f8; exact f8⟩⟩
    rintro σ H5 ⟨r5, rfl, s5, f5⟩
    have s15 := s1.trans s5
    -- none
    refine ⟨fun σ H' => H' = H5 ∧ σ = [some (.int (d : Int)), some (.ref a), some (.ref ia), some (.ref r1), some (.ref po), some (.ref r5), none, none] ∧ ∃ (pp : Addr) (x : List Int), H5 r5 = some (.tup [.str "no", .ref pp]) ∧ Vc H5 pp x ∧ x.length = d + 1 ∧ 0 < en x 0 ∧ Sol d M x ∧ ∀ y ∈ x, y.natAbs < 2 ^ (wgE (d + 1) (b + 1) + 1), ?_, ?_⟩
    · rcases f5 with ⟨pw, w, T, h1', h2', y1, y2, y3, y4, y5, y6⟩ | ⟨pp, x, h1', h2', n1, n2, n3, n4, n5⟩
      · rw [lu] at y4
        refine ⟨_, rfl, _, _, _, _, rfl, rfl, SqT.of h1', atI_nat (j := 0) rfl, rfl, _, rfl, iteT ?_⟩
        refine ⟨_, rfl, _, _, _, _, rfl, rfl, SqT.of h1', atI_nat (j := 1) rfl, (show 2 ≤ sizeLine by decide), fun l nl => ?_⟩
        have sl := same_upd (o := .tup [.str "none", .ref pw]) nl
        refine q _ l (s15.trans sl) (.inr (.inl ⟨l, _, rfl, upd_same, pw, w, rfl, h2'.same sl, y1, y2, ?_, fun j j1 j2 => ?_⟩)) fun m1 m2 p => ?_
        · rw [← y4 0 (by omega), en_unit (by omega), if_pos rfl]
          omega
        · rw [← y4 j (by omega), en_unit (by omega), if_neg (by omega), Int.mul_zero]
        · have b8 := cs m1 m2
          refine .tup upd_same (by show 2 ≤ 300; decide) fun y hy => ?_
          rcases List.mem_cons.mp hy with rfl | hy
          · exact .str _ _
          · rw [List.mem_singleton.mp hy]
            exact dt_vec (h2'.same sl) (by omega) fun y hy => up_pow (y5 y hy) (by omega)
      · rw [lu] at n1 n3 n4
        rw [dv_unit] at n4
        exact ⟨_, rfl, _, _, _, _, rfl, rfl, SqT.of h1', atI_nat (j := 0) rfl, rfl, _, rfl, iteF ⟨rfl, rfl, pp, x, h1', h2', n1, by omega, n3, n5⟩⟩
    rintro σ H6 ⟨rfl, rfl, pp, x, g1, g2, lx, x0, sx, bx⟩
    refine ⟨fun σ H' => H' = H6 ∧ σ = [some (.int (d : Int)), some (.ref a), some (.ref ia), some (.ref r1), some (.ref po), some (.ref r5), some (.ref pp), none], ⟨_, rfl, _, _, _, _, rfl, rfl, SqT.of g1, atI_nat (j := 1) rfl, rfl, rfl⟩, ?_⟩
    rintro σ H7 ⟨rfl, rfl⟩
    have hi7 := hi.same s15
    have h27 := h2.same s5
    have bd : ∀ {v : List Int}, (∀ y ∈ v, y.natAbs < 2 ^ (wgE (d + 1) (b + 1) + 1)) → v.length = d + 1 → (dv (d + 1) row (en v)).natAbs < 2 ^ (wgE (d + 1) (b + 1) + b + 4) := fun {v} hv lv => by
      have h1 := sm_lim (f := fun j => en row j * en v j) (C := 2 ^ b * 2 ^ (wgE (d + 1) (b + 1) + 1)) (n := d + 1) fun j hj => by
        rw [Int.natAbs_mul]
        exact Nat.mul_le_mul (Nat.le_of_lt (c2.en j)) (Nat.le_of_lt (hv _ (en_mem (by omega))))
      have h2 : (dv (d + 1) row (en v)).natAbs ≤ (d + 1) * (2 ^ b * 2 ^ (wgE (d + 1) (b + 1) + 1)) := h1
      have h3 := Nat.mul_le_mul_right (2 ^ b * 2 ^ (wgE (d + 1) (b + 1) + 1)) (show d + 1 ≤ 5 by omega)
      have e : 2 ^ (wgE (d + 1) (b + 1) + b + 4) = 8 * (2 ^ b * 2 ^ (wgE (d + 1) (b + 1) + 1)) := by
        rw [← Nat.pow_add, show (8 : Nat) = 2 ^ 3 from rfl, ← Nat.pow_add]
        congr 1
        omega
      have p := Nat.mul_pos (Nat.two_pow_pos b) (Nat.two_pow_pos (wgE (d + 1) (b + 1) + 1))
      omega
    have bo4 : ∀ y ∈ o, y.natAbs < 2 ^ 4000 := fun y hy => up_pow (bo y hy) (by omega)
    have bx4 : ∀ y ∈ x, y.natAbs < 2 ^ 4000 := fun y hy => up_pow (bx y hy) (by omega)
    have br4 : ∀ y ∈ row, y.natAbs < 2 ^ 4000 := fun y hy => up_pow (c2 y hy) (by omega)
    have q0 : 0 < -dv (d + 1) row (en o) := by omega
    obtain ⟨st0, st1⟩ := fol_steps (m := dv (d + 1) row (en x)) q0
    have stb : ((if dv (d + 1) row (en x) > 0 then dv (d + 1) row (en x) else 0) / (-dv (d + 1) row (en o)) + 1).natAbs < 2 ^ (wgE (d + 1) (b + 1) + b + 5) := by
      have h1 := bd bx lx
      have h2 : 0 ≤ (if dv (d + 1) row (en x) > 0 then dv (d + 1) row (en x) else 0) := by split <;> omega
      have h3 : (if dv (d + 1) row (en x) > 0 then dv (d + 1) row (en x) else 0).natAbs ≤ (dv (d + 1) row (en x)).natAbs := by split <;> omega
      have h4 := Int.ediv_le_self (-dv (d + 1) row (en o)) h2
      have h5 := Int.ediv_nonneg h2 (Int.le_of_lt q0)
      have e : 2 ^ (wgE (d + 1) (b + 1) + b + 5) = 2 ^ (wgE (d + 1) (b + 1) + b + 4) + 2 ^ (wgE (d + 1) (b + 1) + b + 4) := by rw [Nat.pow_succ]; omega
      omega
    -- steps
    refine ⟨fun σ H' => Same H7 H' ∧ σ = [some (.int (d : Int)), some (.ref a), some (.ref ia), some (.ref r1), some (.ref po), some (.ref r5), some (.ref pp), some (.int ((if dv (d + 1) row (en x) > 0 then dv (d + 1) row (en x) else 0) / (-dv (d + 1) row (en o)) + 1))], ?_, ?_⟩
    · refine ⟨_, rfl, _, rfl, ia, pp, row, x, rfl, hi7, g2, by rw [lr, lx], by omega, br4, bx4, fun H8 s8 => ?_⟩
      rw [dvzS (by rw [lr, lx]), lr]
      refine ⟨_, _, rfl, _, rfl, _, rfl, ia, po, row, o, rfl, hi7.same s8, h27.same s8, by rw [lr, lo], by omega, br4, bo4, fun H9 s9 => ?_⟩
      rw [dvzS (by rw [lr, lo]), lr]
      refine ⟨_, rfl, _, _, rfl, rfl, wide_div q0 (by rw [Int.natAbs_neg]; exact bd bo lo) ?_ ?_, _, _, rfl, rfl, s8.trans s9, rfl⟩
      · omega
      · omega
    rintro σ H8 ⟨s8, rfl⟩
    generalize (if dv (d + 1) row (en x) > 0 then dv (d + 1) row (en x) else 0) / (-dv (d + 1) row (en o)) + 1 = st at *
    obtain ⟨k1, k2, k3, k4⟩ := step_no (row := row) lx lo sx oM st0
    have nr : NoR d M row (comb (d + 1) [1, st] [x, o]) := ⟨k4, by
      rw [k3]
      have e : -dv (d + 1) row (en o) * st = -(st * dv (d + 1) row (en o)) := by rw [Int.neg_mul, Int.mul_comm]
      have e2 : st * -dv (d + 1) row (en o) = -(st * dv (d + 1) row (en o)) := Int.mul_neg _ _
      omega⟩
    have c0 : 0 < en (comb (d + 1) [1, st] [x, o]) 0 := by
      rw [k2 0 (by omega), oz, Int.mul_zero]
      omega
    have cb' : ∀ y ∈ comb (d + 1) [1, st] [x, o], y.natAbs < 2 ^ (2 * wgE (d + 1) (b + 1) + b + 8) := fun y hy => by
      obtain ⟨j, hj, rfl⟩ := List.getElem_of_mem hy
      rw [← en_at hj, k2 j (by omega)]
      have h1 : (en x j).natAbs < 2 ^ (wgE (d + 1) (b + 1) + 1) := bx _ (en_mem (by omega))
      have h2 : (en o j).natAbs < 2 ^ (wgE (d + 1) (b + 1) + 1) := bo _ (en_mem (by omega))
      have h3 : (st * en o j).natAbs ≤ 2 ^ (wgE (d + 1) (b + 1) + b + 5) * 2 ^ (wgE (d + 1) (b + 1) + 1) := by
        rw [Int.natAbs_mul]
        exact Nat.mul_le_mul (Nat.le_of_lt stb) (Nat.le_of_lt h2)
      rw [← Nat.pow_add] at h3
      have h4 : 2 ^ (wgE (d + 1) (b + 1) + 1) ≤ 2 ^ (2 * wgE (d + 1) (b + 1) + b + 6) := Nat.pow_le_pow_right (by decide) (by omega)
      have h5 : wgE (d + 1) (b + 1) + b + 5 + (wgE (d + 1) (b + 1) + 1) = 2 * wgE (d + 1) (b + 1) + b + 6 := by omega
      rw [h5] at h3
      have e : 2 ^ (2 * wgE (d + 1) (b + 1) + b + 8) = 4 * 2 ^ (2 * wgE (d + 1) (b + 1) + b + 6) := by
        rw [show (4 : Nat) = 2 ^ 2 from rfl, ← Nat.pow_add]
        congr 1
        omega
      have p := Nat.two_pow_pos (2 * wgE (d + 1) (b + 1) + b + 6)
      omega
    obtain ⟨z0, z1, z2⟩ := no_prim k1 c0 nr
    -- the point
    refine ⟨_, rfl, (show 2 ≤ sizeLine by decide), fun t nt => ⟨_, rfl, _, rfl, (show 2 ≤ sizeLine by decide), fun l nl => ?_⟩⟩
    have st1' := same_upd (o := .tup [.int 1, .int st]) nt
    have ht := upd_same (H := H8) (a := t) (o := .tup [.int 1, .int st])
    have sl := same_upd (o := .lst [.ref pp, .ref po]) nl
    have hl := upd_same (H := upd H8 t (.tup [.int 1, .int st])) (a := l) (o := .lst [.ref pp, .ref po])
    have ht' := sl _ _ ht
    have s89 := st1'.trans sl
    generalize upd (upd H8 t (.tup [.int 1, .int st])) l (.lst [.ref pp, .ref po]) = H9 at *
    have s79 := s8.trans s89
    have VL9 : VL H9 l [x, o] := ⟨[pp, po], hl, rfl, fun i r hr => by
      match i, hr with
      | 0, hr => cases hr; exact ⟨x, rfl, g2.same s79⟩
      | 1, hr => cases hr; exact ⟨o, rfl, h27.same s79⟩
      | i + 2, hr => exact absurd hr (by simp)⟩
    refine ⟨true, t, l, [1, st], [x, o], d + 1, rfl, ht', VL9, rfl, by show 1 ≤ 2; decide, by show 2 ≤ 900; decide, fun v hv => ?_, by omega, fun y hy => ?_, fun v hv y hy => ?_, fun H10 r10 s10 h10 => ?_⟩
    · rcases List.mem_cons.mp hv with rfl | hv
      · exact lx
      · rw [List.mem_singleton.mp hv]
        exact lo
    · rcases List.mem_cons.mp hy with rfl | hy
      · exact Nat.lt_of_lt_of_le (by decide : 1 < 2 ^ 1) (Nat.pow_le_pow_right (by decide) (by decide))
      · rw [List.mem_singleton.mp hy]
        exact up_pow stb (by omega)
    · rcases List.mem_cons.mp hv with rfl | hv
      · exact up_pow (bx y hy) (by omega)
      · rw [List.mem_singleton.mp hv] at hy
        exact up_pow (bo y hy) (by omega)
    · refine ⟨true, r10, _, rfl, h10, by rw [k1]; omega, fun y hy => up_pow (cb' y hy) (by omega), fun H11 r11 s11 h11 => ⟨(show 2 ≤ sizeLine by decide), fun l2 nl2 => ?_⟩⟩
      have sl2 := same_upd (o := .tup [.str "no", .ref r11]) nl2
      refine q _ l2 (s15.trans (s79.trans (s10.trans (s11.trans sl2)))) (.inr (.inr ⟨l2, _, rfl, upd_same, r11, _, rfl, h11.same sl2, by rw [prim_len, k1], z0, z1, z2⟩)) fun m1 m2 p => ?_
      have b8 := cs m1 m2
      refine .tup upd_same (by show 2 ≤ 300; decide) fun y hy => ?_
      rcases List.mem_cons.mp hy with rfl | hy
      · exact .str _ _
      · rw [List.mem_singleton.mp hy]
        exact dt_vec (h11.same sl2) (by rw [prim_len, k1]; omega) (prim_lim fun y hy => up_pow (cb' y hy) (by omega))

open Rk
/-- the row of a sum with a number added is a multiple of the inequality -/
theorem yes_eq {d : Nat} {M : List (List Int)} {row ns u : List Int} {T A : Int} (lr : row.length = d + 1) (lu : u.length = d + 1) (hu : ∀ j, j < d + 1 → en u j = cb (en ns) M j) (h0 : ∀ x ∈ ns, (0 : Int) ≤ x) : (en u 0 + A) :: u.drop 1 = row.map (fun x => T * x) ↔ YesR d M row T A ns := by
  have l1 : ((en u 0 + A) :: u.drop 1).length = d + 1 := by rw [List.length_cons, List.length_drop, lu]; rfl
  have l2 : (row.map fun x => T * x).length = d + 1 := by rw [List.length_map, lr]
  have e1 : ∀ j, en ((en u 0 + A) :: u.drop 1) (j + 1) = en u (j + 1) := fun j => by
    show (u.drop 1).getD j 0 = u.getD (j + 1) 0
    rw [List.getD_eq_getElem?_getD, List.getD_eq_getElem?_getD, List.getElem?_drop, Nat.add_comm 1 j]
  constructor
  · intro h
    refine ⟨h0, ?_, fun j j1 j2 => ?_⟩
    · have : en ((en u 0 + A) :: u.drop 1) 0 = en (row.map fun x => T * x) 0 := by rw [h]
      rw [en_map (by omega)] at this
      rw [← hu 0 (by omega)]
      exact this
    · obtain ⟨i, rfl⟩ : ∃ i, j = i + 1 := ⟨j - 1, by omega⟩
      have : en ((en u 0 + A) :: u.drop 1) (i + 1) = en (row.map fun x => T * x) (i + 1) := by rw [h]
      rw [e1, en_map (by omega)] at this
      rw [← hu _ (by omega)]
      exact this
  · rintro ⟨_, h1, h2⟩
    refine List.ext_getElem (by rw [l1, l2]) fun j g1 g2 => ?_
    rw [← en_at g1, ← en_at g2, en_map (by omega)]
    cases j with
    | zero =>
      show en u 0 + A = _
      rw [hu 0 (by omega)]
      exact h1
    | succ j =>
      rw [e1, hu _ (by omega)]
      exact h2 (j + 1) (by omega) (by omega)
abbrev s_shows_following : Stmt := topS 21
theorem sc_shows_following : FnScope ["rows", "inequality", "value", "_", "weights", "multiple", "added", "total", "entry"] ["rows", "inequality", "value"] (defScope s_shows_following) := ⟨rfl, rfl, rfl, by decide +kernel, rfl, by decide +kernel, by decide +kernel⟩
def spShF : Sp := fun vs H Q _ => ∃ (d : Nat) (a ia x : Addr) (M : List (List Int)) (row : List Int) (y0 wv mv av : V) (p : Addr) (B n : Nat), vs = [.ref a, .ref ia, .ref x] ∧ Sys H a d M ∧ Vc H ia row ∧ row.length = d + 1 ∧ Lim 200 row ∧ H x = some (.tup [y0, wv, mv, av]) ∧ Dt p H B n wv ∧ Dt p H B n mv ∧ Dt p H B n av ∧ B ≤ 500 ∧ ∀ (H' : Hp) (b : Bool), Same H H' → (b = true ↔ ∃ T A : Int, mv = .int T ∧ av = .int A ∧ 1 ≤ T ∧ 0 ≤ A ∧ VtOf H wv M.length (YesR d M row T A)) → Q (.bl b) H'
theorem ok_shf {f : Addr} {fd : FuncData} {k : Nat} (F : Fun K "shows_following" "shows_following" s_shows_following f fd) (Z : Glb mg) (Cis_weights : Call P w K mg base k "is_weights" ["length", "value"] spIsWts) (Cis_integer : Call P w K mg base k "is_integer" ["value"] (spIsI K "value")) (Ccombined : Call P w K mg base k "combined" ["weights", "vectors"] spComb) : FnOk P w K mg base CX0 (k + 1) f fd ["rows", "inequality", "value"] spShF := by
  refine F.ok sc_shows_following (fun vs H Q E h => ?_) (fun cdv A outer s H vs Q E hr h => ?_)
  · obtain ⟨d, a, ia, x, M, row, y0, wv, mv, av, p, B, n, rfl, _⟩ := h
    rfl
  · obtain ⟨d, a, ia, x, M, row, y0, wv, mv, av, p, B, n, rfl, S, hi, lr, br, hx, D1, D2, D3, hB, q⟩ := h
    obtain ⟨rs, ea, rl, rg⟩ := id S.v
    refine ⟨_, (pss_cut (ps_asg (pv 2) (pg_tup rfl (pgs_cons (pg_name (i := 3) sc_shows_following.nd rfl (.inl rfl)) (pgs_cons (pg_name (i := 4) sc_shows_following.nd rfl (.inl rfl)) (pgs_cons (pg_name (i := 5) sc_shows_following.nd rfl (.inr rfl)) (pgs_cons (pg_name (i := 6) sc_shows_following.nd rfl (.inl rfl)) pgs_nil))))))
      (pss_cut (ps_if (PW.pt (pw_or (pt_not (pt_val (pe_call Cis_weights.G hr (by rfl) Cis_weights.m Cis_weights.kp Cis_weights.b .nil pass0 (pa_cons (pe_callB call_len_seq (by rfl) Z.m_len PySem.boot_len (pa_cons (pv 0) pa_nil)) (pa_cons (pv 4) pa_nil))))) (pw_or (pt_not (pt_val (pe_call Cis_integer.G hr (by rfl) Cis_integer.m Cis_integer.kp Cis_integer.b .nil pass0 (pa_cons (pv 5) pa_nil)))) (pw_or1 (pt_not (pt_val (pe_call Cis_integer.G hr (by rfl) Cis_integer.m Cis_integer.kp Cis_integer.b .nil pass0 (pa_cons (pv 6) pa_nil)))))))) (pss_one (ps_ret pe_bl)) pss_nil)
      (pss_cut (ps_if (PW.pt (pw_or (pt_cmpR op_lt (pv 5) pe_int (nomark _)) (pw_or1 (pt_cmpR op_lt (pv 6) pe_int (nomark _))))) (pss_one (ps_ret pe_bl)) pss_nil)
      (pss_cut (ps_set (i := 7) sc_shows_following.nd rfl (.inl rfl) (pe_call Ccombined.G hr (by rfl) Ccombined.m Ccombined.kp Ccombined.b .nil pass0 (pa_cons (pv 4) (pa_cons (pv 0) pa_nil))))
      (pss_one (ps_ret (pe_cmpR (r := rEqD K) (op_eqD hr.units) (pe_op (r := rCatA K) op_catA (pe_tup (pa_cons (pe_op op_add (pe_ix (r := rIxT K) ix_tup (pv 7) pe_int (fun _ _ => rfl)) (pv 6)) pa_nil)) (pe_slice (r := rSlA K) sl_tupA (pv 7) (po_some pe_int) po_none)) (pe_callTy call_tuple_of (by rfl) Z.m_tuple (by decide +kernel) (pa_cons (pe_lc (own := [("entry", 8)]) (g := gName 8) (tt := tYes) (by rfl) sc_shows_following.nd (pi_tup (pv 1)) (blkOk_by (own := [("entry", 8)]) (N := ["rows", "inequality", "value", "_", "weights", "multiple", "added", "total", "entry"]) (sc := defScope s_shows_following) (by first | decide +kernel | kernel_rfl)) (fun _ _ _ _ _ => (pg_name (i := 8) sc_shows_following.nd rfl (.inl rfl))) (fun _ _ _ _ _ => pts_nil) (fun _ _ _ _ _ => (pe_op op_mulW (pv 5) (pv 8)))) pa_nil)) (nomark _)))))))), ?_⟩
    refine ⟨fun σ H' => H' = H ∧ σ = [some (.ref a), some (.ref ia), some (.ref x), some y0, some wv, some mv, some av, none, none], ⟨_, rfl, x, [y0, wv, mv, av], rfl, SqT.of hx, rfl, _, _, rfl, _, _, rfl, _, _, rfl, _, _, rfl, rfl, rfl, rfl⟩, ?_⟩
    rintro σ H1 ⟨rfl, rfl⟩
    -- the kinds
    refine ⟨fun σ H' => ∃ (wx : Addr) (ns : List Int) (T A : Int), wv = .ref wx ∧ mv = .int T ∧ av = .int A ∧ σ = [some (.ref a), some (.ref ia), some (.ref x), some y0, some wv, some (.int T), some (.int A), none, none] ∧ Same H1 H' ∧ Vc H1 wx ns ∧ ns.length = M.length ∧ (∀ x ∈ ns, (0 : Int) ≤ x) ∧ T.natAbs < 2 ^ B ∧ A.natAbs < 2 ^ B, ?_, ?_⟩
    · refine ⟨_, rfl, _, _, rfl, .inl (SqL.of ea), _, rfl, M.length, wv, p, B, n, by rw [List.length_map, rl]; rfl, D1, hB, fun H2 b s2 hb => ?_⟩
      cases b with
      | false => exact ⟨false, rfl, iteT (q _ _ s2 ⟨(fun z => nomatch z), fun ⟨T, A, _, _, _, _, h⟩ => by have := hb.mpr (h.wts fun ns r => r.1); cases this⟩)⟩
      | true =>
        obtain ⟨wx, ns, rfl, h1, h2, h3⟩ := hb.mp rfl
        refine ⟨true, rfl, iteF ⟨_, rfl, mv, rfl, (D2.same s2).isInt, ?_⟩⟩
        have D2' := D2
        cases mv with
        | int T =>
          refine ⟨true, rfl, iteF ⟨_, rfl, av, rfl, (D3.same s2).isInt, ?_⟩⟩
          have D3' := D3
          cases av with
          | int A =>
            refine ⟨true, rfl, iteF ⟨wx, ns, T, A, rfl, rfl, rfl, rfl, s2, h1, h2, h3, ?_, ?_⟩⟩
            · cases D2' with
              | int _ _ h => exact h
            · cases D3' with
              | int _ _ h => exact h
          | _ => exact ⟨false, rfl, iteT (q _ _ s2 ⟨(fun z => nomatch z), fun ⟨T, A, _, e, _⟩ => nomatch e⟩)⟩
        | _ => exact ⟨false, rfl, iteT (q _ _ s2 ⟨(fun z => nomatch z), fun ⟨T, A, e, _⟩ => nomatch e⟩)⟩
    rintro σ H2 ⟨wx, ns, T, A, rfl, rfl, rfl, rfl, s2, h1, h2, h3, bT, bA⟩
    refine ⟨fun σ H' => H' = H2 ∧ σ = [some (.ref a), some (.ref ia), some (.ref x), some y0, some (.ref wx), some (.int T), some (.int A), none, none] ∧ 1 ≤ T ∧ 0 ≤ A, ?_, ?_⟩
    · refine ⟨_, rfl, _, _, rfl, rfl, _, rfl, ite2 (fun c => ?_) (fun c => ⟨_, rfl, _, _, rfl, rfl, _, rfl, ite2 (fun c2 => ?_) (fun c2 => ⟨rfl, rfl, ?_, ?_⟩)⟩)⟩
      · exact q _ _ s2 ⟨(fun z => nomatch z), fun ⟨T', A', e, _, h, _⟩ => by cases e; have := of_decide_eq_true c; omega⟩
      · exact q _ _ s2 ⟨(fun z => nomatch z), fun ⟨T', A', _, e, _, h, _⟩ => by cases e; have := of_decide_eq_true c2; omega⟩
      · have : ¬ T < 1 := fun z => c (decide_eq_true z)
        omega
      · have : ¬ A < 0 := fun z => c2 (decide_eq_true z)
        omega
    rintro σ H3 ⟨rfl, rfl, T1, A0⟩
    have S2 := S.same s2
    have l1 := S.l1
    have l2 := S.l2
    have d2 := S.d2
    refine ⟨fun σ H' => ∃ t : Addr, σ = [some (.ref a), some (.ref ia), some (.ref x), some y0, some (.ref wx), some (.int T), some (.int A), some (.ref t), none] ∧ Same H3 H' ∧ Vc H' t (comb (d + 1) ns M), ⟨_, rfl, _, rfl, true, wx, a, ns, M, d + 1, rfl, h1.same s2, S2.v, h2, l1, by omega, S.w, by omega, fun z hz => d2000 (dt_ints D1 h1 z hz) hB, S.big, fun H4 t s4 ht => ⟨t, rfl, s4, ht⟩⟩, ?_⟩
    rintro σ H4 ⟨t, rfl, s4, ht⟩
    have lc : (comb (d + 1) ns M).length = d + 1 := comb_lenN h2 S.w
    refine ⟨_, rfl, _, _, _, _, rfl, rfl, SqT.of ht, atI_en (j := 0) (by omega), _, rfl, _, _, rfl, rfl, (show 1 ≤ sizeLine by decide), fun z nz => ⟨_, rfl, _, rfl, ?_⟩⟩
    have sz := same_upd (o := .tup [.int (en (comb (d + 1) ns M) 0 + A)]) nz
    have hz := upd_same (H := H4) (a := z) (o := .tup [.int (en (comb (d + 1) ns M) 0 + A)])
    unfold tNoPart
    refine sl_h (sz _ _ ht) fun H5 r s5 hr => ?_
    rw [show (1 : Int) = ((1 : Nat) : Int) from rfl, cut_drop, ← List.map_drop] at hr
    refine cat_h (s5 _ _ hz) hr (by rw [List.length_map, List.length_drop, lc]; show 1 + (d + 1 - 1) ≤ 1000; omega) fun H6 r6 s6 h6 => ?_
    have sA := sz.trans (s5.trans s6)
    have h6' : Vc H6 r6 ((en (comb (d + 1) ns M) 0 + A) :: (comb (d + 1) ns M).drop 1) := h6
    have hi6 : H6 ia = some (.tup (row.map V.int)) := hi.same (s2.trans (s4.trans sA))
    refine ⟨_, rfl, ia, rfl, ⟨_, SqT.of hi6⟩, fun D nD => ?_⟩
    refine lc_tup (xs := row.map V.int) (fun i H' => Same H6 H' ∧ H' D = some (.lst (((row.map fun x => T * x).take i).map V.int))) ⟨same_upd nD, upd_same⟩ (fun i H' _ hP => SqT.of (hP.1 _ _ hi6)) (fun i y H' hy hP => ?_) (fun H' hP => ?_)
    · obtain ⟨y, hy', rfl⟩ := map_get hy
      refine ⟨rfl, ?_⟩
      unfold tYes
      refine iteT ?_
      refine ⟨_, rfl, _, rfl, _, _, rfl, rfl, cmul (a := 500) (b := 200) (up_pow bT hB) (br y (List.mem_of_getElem? hy')), _, hP.2, ?_, fun z o hz => ?_, ?_⟩
      · rw [List.length_map, List.length_take, List.length_map, lr]
        exact Nat.lt_of_le_of_lt (Nat.min_le_right _ _) (small1000 (by omega))
      · rw [upd_ne (ne_of_none hz nD)]
        exact hP.1 _ _ hz
      · rw [upd_same, take_get (x := T * y) (by rw [List.getElem?_map, hy']; rfl), List.map_append]
        rfl
    · obtain ⟨s7, e7⟩ := hP
      rw [List.take_of_length_le (by rw [List.length_map, List.length_map]; exact Nat.le_refl _)] at e7
      refine ⟨D, _, rfl, .inl ⟨SqL.of e7, fun l nl => ?_⟩⟩
      have sl := same_upd (o := .tup ((row.map fun x => T * x).map V.int)) nl
      refine ⟨_, _, .tup (SqT.of (sl _ _ (s7 _ _ h6'))) (dp_ints _), .tup (SqT.of upd_same) (dp_ints _), shaped_ints _ (by rw [List.length_cons, List.length_drop, lc]; omega), shaped_ints _ (by rw [List.length_map]; omega), ?_⟩
      rw [PyData.eqv, eqv_ints]
      refine q _ _ (s2.trans (s4.trans (sA.trans (s7.trans sl)))) ?_
      rw [decide_eq_true_iff, yes_eq (ns := ns) (M := M) lr lc (fun j hj => comb_cb h2 S.w hj) h3]
      constructor
      · exact fun h => ⟨T, A, rfl, rfl, T1, A0, (VtOf.the h1 h2).mpr h⟩
      · rintro ⟨T', A', e1, e2, _, _, h⟩
        cases e1
        cases e2
        exact (VtOf.the h1 h2).mp h
abbrev s_check_following : Stmt := topS 20
theorem sc_check_following : FnScope ["d", "rows", "inequality", "value"] ["d", "rows", "inequality", "value"] (defScope s_check_following) := ⟨rfl, rfl, rfl, by decide +kernel, rfl, by decide +kernel, by decide +kernel⟩
def spChF : Sp := fun vs H Q _ => ∃ (d : Nat) (a ia : Addr) (M : List (List Int)) (row : List Int) (v : V) (p : Addr) (B n : Nat), vs = [.int (d : Int), .ref a, .ref ia, v] ∧ Sys H a d M ∧ Vc H ia row ∧ row.length = d + 1 ∧ Lim 200 row ∧ Dt p H B n v ∧ B ≤ 500 ∧ ∀ (H' : Hp) (b : Bool), Same H H' → (b = true ↔ FolP d M row H v) → Q (.bl b) H'
theorem ok_chf {f : Addr} {fd : FuncData} {k : Nat} (F : Fun K "check_following" "check_following" s_check_following f fd) (Z : Glb mg) (Cis_worded : Call P w K mg base k "is_worded" ["value", "word", "length"] spWord) (Cshows_following : Call P w K mg base k "shows_following" ["rows", "inequality", "value"] spShF) (Cshows_empty : Call P w K mg base k "shows_empty" ["rows", "value"] (spShow EmpR fun _ M => M.length)) (Cis_solution : Call P w K mg base k "is_solution" ["d", "rows", "value"] (spIsSol Sol)) (Cdot : Call P w K mg base k "dot" ["v", "w"] spDot) : FnOk P w K mg base CX0 (k + 1) f fd ["d", "rows", "inequality", "value"] spChF := by
  refine F.ok sc_check_following (fun vs H Q E h => ?_) (fun cdv A outer s H vs Q E hr h => ?_)
  · obtain ⟨d, a, ia, M, row, v, p, B, n, rfl, _⟩ := h
    rfl
  · obtain ⟨d, a, ia, M, row, v, p, B, n, rfl, S, hi, lr, br, D, hB, q⟩ := h
    refine ⟨_, (pss_cut (ps_if (pt_val (pe_call Cis_worded.G hr (by rfl) Cis_worded.m Cis_worded.kp Cis_worded.b .nil pass0 (pa_cons (pv 3) (pa_cons pe_str (pa_cons pe_int pa_nil))))) (pss_one (ps_ret (pe_call Cshows_following.G hr (by rfl) Cshows_following.m Cshows_following.kp Cshows_following.b .nil pass0 (pa_cons (pv 1) (pa_cons (pv 2) (pa_cons (pv 3) pa_nil)))))) pss_nil)
      (pss_cut (ps_if (pt_val (pe_call Cis_worded.G hr (by rfl) Cis_worded.m Cis_worded.kp Cis_worded.b .nil pass0 (pa_cons (pv 3) (pa_cons pe_str (pa_cons pe_int pa_nil))))) (pss_one (ps_ret (pe_call Cshows_empty.G hr (by rfl) Cshows_empty.m Cshows_empty.kp Cshows_empty.b .nil pass0 (pa_cons (pv 1) (pa_cons (pe_ix (r := rIxT K) ix_tup (pv 3) pe_int (fun _ _ => rfl)) pa_nil))))) pss_nil)
      (pss_cut (ps_if (pt_val (pe_call Cis_worded.G hr (by rfl) Cis_worded.m Cis_worded.kp Cis_worded.b .nil pass0 (pa_cons (pv 3) (pa_cons pe_str (pa_cons pe_int pa_nil))))) (pss_one (ps_ret (pe_and (pe_call Cis_solution.G hr (by rfl) Cis_solution.m Cis_solution.kp Cis_solution.b .nil pass0 (pa_cons (pv 0) (pa_cons (pv 1) (pa_cons (pe_ix (r := rIxT K) ix_tup (pv 3) pe_int (fun _ _ => rfl)) pa_nil)))) (pe_one (pe_cmpR op_lt (pe_call Cdot.G hr (by rfl) Cdot.m Cdot.kp Cdot.b .nil pass0 (pa_cons (pv 2) (pa_cons (pe_ix (r := rIxT K) ix_tup (pv 3) pe_int (fun _ _ => rfl)) pa_nil))) pe_int (nomark _)))))) pss_nil)
      (pss_one (ps_ret pe_bl))))), ?_⟩
    refine ⟨fun σ H' => σ = [some (.int (d : Int)), some (.ref a), some (.ref ia), some v] ∧ H' = H ∧ ¬ WordOf H v "yes" 4, ?_, ?_⟩
    · refine ⟨_, rfl, 4, "yes", v, p, B, n, rfl, D, by decide, hB, fun b hb => ⟨b, rfl, ?_⟩⟩
      cases b with
      | false => exact iteF ⟨rfl, rfl, fun z => by have := hb.mpr z; cases this⟩
      | true =>
        obtain ⟨x, xs, rfl, h1, h2⟩ := hb.mp rfl
        obtain ⟨y, u, t, rfl⟩ : ∃ y u t, xs = [y, u, t] := by
          match xs, h2 with
          | [y, u, t], _ => exact ⟨y, u, t, rfl⟩
        obtain ⟨m1, D1⟩ := dt_item D h1 1 y rfl
        obtain ⟨m2, D2⟩ := dt_item D h1 2 u rfl
        obtain ⟨m3, D3⟩ := dt_item D h1 3 t rfl
        have u1 : m1 ≤ m1 + m2 + m3 := by omega
        have u2 : m2 ≤ m1 + m2 + m3 := by omega
        have u3 : m3 ≤ m1 + m2 + m3 := by omega
        refine iteT ⟨_, rfl, _, rfl, _, rfl, d, a, ia, x, M, row, _, y, u, t, p, B, m1 + m2 + m3, rfl, S, hi, lr, br, h1, D1.up (Nat.le_refl B) u1, D2.up (Nat.le_refl B) u2, D3.up (Nat.le_refl B) u3, hB, fun H1 b s1 hb => q _ _ s1 (hb.trans ?_)⟩
        constructor
        · rintro ⟨T, A, rfl, rfl, T1, A0, h⟩
          exact .inl ⟨x, y, T, A, rfl, h1, T1, A0, h⟩
        · rintro (⟨a', w', T, A, e, g1, g2, g3, g4⟩ | ⟨a', x', e, g1, _⟩ | ⟨a', x', e, g1, _⟩) <;> cases e <;> rw [h1] at g1 <;> cases g1
          exact ⟨T, A, rfl, rfl, g2, g3, g4⟩
    rintro σ H1 ⟨rfl, rfl, n1⟩
    refine ⟨fun σ H' => σ = [some (.int (d : Int)), some (.ref a), some (.ref ia), some v] ∧ H' = H1 ∧ ¬ WordOf H1 v "none" 2, ?_, ?_⟩
    · refine ⟨_, rfl, 2, "none", v, p, B, n, rfl, D, by decide, hB, fun b hb => ⟨b, rfl, ?_⟩⟩
      cases b with
      | false => exact iteF ⟨rfl, rfl, fun z => by have := hb.mpr z; cases this⟩
      | true =>
        obtain ⟨x, xs, rfl, h1, h2⟩ := hb.mp rfl
        obtain ⟨y, rfl⟩ : ∃ y, xs = [y] := by
          match xs, h2 with
          | [y], _ => exact ⟨y, rfl⟩
        obtain ⟨m, D1⟩ := dt_item D h1 1 y rfl
        refine iteT ⟨_, rfl, _, rfl, _, _, _, _, rfl, rfl, SqT.of h1, atI_nat (j := 1) rfl, d, a, M, y, p, B, m, rfl, S, D1, hB, fun H2 t s2 ht => q _ _ s2 (ht.trans ?_)⟩
        exact ⟨fun h => .inr (.inl ⟨x, y, rfl, h1, h⟩), fun h => by
          rcases h with ⟨a', w', T, A, e, g1, g2, g3, g4⟩ | ⟨a', x', e, g1, g2⟩ | ⟨a', x', e, g1, _⟩ <;> cases e <;> rw [h1] at g1 <;> cases g1
          exact g2⟩
    rintro σ H2 ⟨rfl, rfl, n2⟩
    refine ⟨fun σ H' => σ = [some (.int (d : Int)), some (.ref a), some (.ref ia), some v] ∧ H' = H2 ∧ ¬ WordOf H2 v "no" 2, ?_, ?_⟩
    · refine ⟨_, rfl, 2, "no", v, p, B, n, rfl, D, by decide, hB, fun b hb => ⟨b, rfl, ?_⟩⟩
      cases b with
      | false => exact iteF ⟨rfl, rfl, fun z => by have := hb.mpr z; cases this⟩
      | true =>
        obtain ⟨x, xs, rfl, h1, h2⟩ := hb.mp rfl
        obtain ⟨y, rfl⟩ : ∃ y, xs = [y] := by
          match xs, h2 with
          | [y], _ => exact ⟨y, rfl⟩
        obtain ⟨m, D1⟩ := dt_item D h1 1 y rfl
        have iff : PtOf H2 y d (NoR d M row) ↔ FolP d M row H2 (.ref x) := ⟨fun h => .inr (.inr ⟨x, y, rfl, h1, h⟩), fun h => by
          rcases h with ⟨a', w', T, A, e, g1, g2, g3, g4⟩ | ⟨a', x', e, g1, g2⟩ | ⟨a', x', e, g1, g2⟩ <;> cases e <;> rw [h1] at g1 <;> cases g1
          exact g2⟩
        refine iteT ⟨_, rfl, _, rfl, _, rfl, _, _, _, _, rfl, rfl, SqT.of h1, atI_nat (j := 1) rfl, d, a, M, y, p, B, m, rfl, S.v, by have := S.l2; omega, by have := S.d2; omega, fun v hv => ⟨S.w v hv, S.big4 v hv⟩, D1, hB, fun H3 t s3 ht => ⟨t, rfl, ?_⟩⟩
        cases t with
        | false => exact iteF (q _ _ s3 ⟨(fun z => nomatch z), fun h => by have := ht.mpr ((iff.mpr h).imp fun _ h => h.1); cases this⟩)
        | true =>
          obtain ⟨z, ns, rfl, g1, g2, g3, g4, g5⟩ := ht.mp rfl
          refine iteT ⟨_, rfl, _, rfl, _, _, _, _, rfl, rfl, SqT.of (s3 _ _ h1), atI_nat (j := 1) rfl, ia, z, row, ns, rfl, hi.same s3, g1.same s3, by rw [lr, g2], by have := S.d2; omega, fun n hn => Nat.lt_of_lt_of_le (br n hn) (Nat.pow_le_pow_right (by decide) (by decide)), fun n hn => d4000 (dt_ints D1 g1 n hn) hB, fun H4 s4 => ?_⟩
          rw [dvzS (by rw [lr, g2]), lr]
          refine ⟨_, _, rfl, rfl, q _ _ (s3.trans s4) ?_⟩
          rw [decide_eq_true_iff, ← iff]
          constructor
          · exact fun c => ⟨z, ns, rfl, g1, g2, g3, g4, g5, c⟩
          · rintro ⟨a', ns', e', k1, _, _, _, k5⟩
            cases e'
            rw [vc_eq g1 k1]
            exact k5.2
    rintro σ H3 ⟨rfl, rfl, n3⟩
    refine q _ _ (Same.refl _) ⟨(fun z => nomatch z), fun h => ?_⟩
    rcases h with ⟨a', w', T, A, e, g1, _⟩ | ⟨a', x', e, g1, _⟩ | ⟨a', x', e, g1, _⟩
    · exact absurd ⟨a', _, e, g1, rfl⟩ n1
    · exact absurd ⟨a', _, e, g1, rfl⟩ n2
    · exact absurd ⟨a', _, e, g1, rfl⟩ n3

open Rk
/-! ### the law's readings of papers -/
abbrev s__law_is_integer : Stmt := topS 25
theorem sc__law_is_integer : FnScope ["actual"] ["actual"] (defScope s__law_is_integer) := ⟨rfl, rfl, rfl, by decide +kernel, rfl, by decide +kernel, by decide +kernel⟩
theorem ok_lii {f : Addr} {fd : FuncData} {k : Nat} (F : Fun K "_law_is_integer" "_law_is_integer" s__law_is_integer f fd) (Z : Glb mg) : FnOk P w K mg base CX0 (k + 1) f fd ["actual"] (spIsI K "actual") := by
  refine F.ok sc__law_is_integer (fun vs H Q E h => ?_) (fun cdv A outer s H vs Q E hr h => ?_)
  · obtain ⟨v, rfl, _⟩ := h
    rfl
  · obtain ⟨v, rfl, ⟨t, i, b, ⟨T, ty, ht, hi, hb⟩, e⟩, q⟩ := h
    refine ⟨_, (pss_one (ps_ret (pe_and (pe_callB (id := "isinstance") (r := rIsi K) call_isi (by rfl) Z.m_isinstance (by decide +kernel) (pa_cons (pv 0) (pa_cons (pe_bltn (u := .type "int") (v := .ty "int") (by rfl) Z.m_int (by decide +kernel) rfl) pa_nil))) (pe_one (pe_not (pe_callB (id := "isinstance") (r := rIsi K) call_isi (by rfl) Z.m_isinstance (by decide +kernel) (pa_cons (pv 0) (pa_cons (pe_bltn (u := .type "bool") (v := .ty "bool") (by rfl) Z.m_bool (by decide +kernel) rfl) pa_nil)))))))), ?_⟩
    rw [e] at q
    refine ⟨_, rfl, _, _, _, _, _, rfl, ClsV.ty _, ty, kit_ty hi, i, rfl, ?_⟩
    cases i with
    | false => exact iteF q
    | true => exact iteT ⟨_, rfl, _, _, _, _, _, rfl, ClsV.ty _, ty, kit_ty hb, b, rfl, q⟩
theorem filter_nil {xs : List V} : (xs.filter fun x => !isI x).length = 0 ↔ xs.all isI = true := by
  rw [List.length_eq_zero_iff, List.filter_eq_nil_iff, List.all_eq_true]
  constructor
  · intro h x hx
    have := h x hx
    cases e : isI x with
    | true => rfl
    | false => rw [e] at this; exact absurd rfl this
  · intro h x hx
    rw [h x hx]
    exact Bool.false_ne_true
abbrev s__law_vector : Stmt := topS 45
theorem sc__law_vector : FnScope ["size", "value", "a"] ["size", "value"] (defScope s__law_vector) := ⟨rfl, rfl, rfl, by decide +kernel, rfl, by decide +kernel, by decide +kernel⟩
theorem ok_lvecD {f : Addr} {fd : FuncData} {k : Nat} (F : Fun K "_law_vector" "_law_vector" s__law_vector f fd) (Z : Glb mg)
    (C_law_is_integer : Call P w K mg base k "_law_is_integer" ["actual"] (spIsI K "actual")) : FnOk P w K mg base CX0 (k + 1) f fd ["size", "value"] (spIsVec "size" "value") := by
  refine F.ok sc__law_vector (fun vs H Q E h => ?_) (fun cdv A outer s H vs Q E hr h => ?_)
  · obtain ⟨L, v, p, B, n, rfl, _⟩ := h
    rfl
  · obtain ⟨L, v, p, B, n, rfl, d, hB, q⟩ := h
    refine ⟨_, (pss_cons (ps_if (PW.pt (pw_or (pt_not (pt_val (pe_callB (id := "isinstance") (r := rIsi K) call_isi (by rfl) Z.m_isinstance (by decide +kernel) (pa_cons (pv 1) (pa_cons (pe_bltn (u := .type "tuple") (v := .ty "tuple") (by rfl) Z.m_tuple (by decide +kernel) rfl) pa_nil))))) (pw_or1 (pt_cmpR op_ne (pe_callB call_len_seq (by rfl) Z.m_len PySem.boot_len (pa_cons (pv 1) pa_nil)) (pv 0) (nomark _))))) (pss_one (ps_ret pe_bl)) pss_nil)
      (pss_one (ps_ret (pe_cmpR op_eq (pe_callB call_len_seq (by rfl) Z.m_len PySem.boot_len (pa_cons (pe_lc (own := [("a", 2)]) (g := gName 2) (by rfl) sc__law_vector.nd (pi_tup (pv 1)) (blkOk_by (own := [("a", 2)]) (N := ["size", "value", "a"]) (sc := defScope s__law_vector) (by first | decide +kernel | kernel_rfl)) (fun _ _ _ _ _ => (pg_name (i := 2) sc__law_vector.nd rfl (.inl rfl))) (fun _ _ _ _ _ => (pts_one (pt_not (pt_val (pe_call C_law_is_integer.G hr (by rfl) C_law_is_integer.m C_law_is_integer.kp C_law_is_integer.b .nil pass0 (pa_cons (pv 2) pa_nil)))))) (fun _ _ _ _ _ => (pv 2))) pa_nil)) pe_int (nomark _))))), ?_⟩
    rcases d.kinds with ⟨a, xs, m, rfl, ha, hl, rfl, hx, ⟨T, ty, ht, _⟩, _⟩ | ⟨i, rfl, _, ⟨T, ty, ht, _⟩, _⟩ | ⟨i, b, _, ⟨T, ty, ht, _⟩, _, nt, _⟩
    · refine ⟨_, rfl, _, _, _, _, _, rfl, ClsV.ty _, ty, kit_ty ht, true, rfl, iteF ?_⟩
      refine ⟨_, rfl, _, _, rfl, .inr (SqT.of ha), _, rfl, rfl, _, rfl, ?_⟩
      by_cases hL : xs.length = L
      · rw [show (!decide (V.int (xs.length : Int) = V.int (L : Int))) = false by simp [hL]]
        refine iteF ⟨_, rfl, a, rfl, ⟨_, SqT.of ha⟩, fun D nD => ?_⟩
        refine lc_tup (xs := xs) (fun i H' => ∃ H0, Same H H0 ∧ H0 D = none ∧ H' = upd H0 D (.lst ((xs.take i).filter fun x => !isI x))) ⟨H, Same.refl _, nD, rfl⟩ (fun i H' _ hP => ?_) (fun i x H' hxi hP => ?_) (fun H' hP => ?_)
        · obtain ⟨H0, s0, n0, rfl⟩ := hP
          exact SqT.of ((s0.trans (same_upd n0)) _ _ ha)
        · obtain ⟨H0, s0, n0, rfl⟩ := hP
          have dx := (hx x (List.mem_of_getElem? hxi)).same (s0.trans (same_upd (o := .lst ((xs.take i).filter fun x => !isI x)) n0))
          refine ⟨rfl, _, rfl, _, rfl, dx.isInt, _, rfl, ?_⟩
          cases ei : isI x with
          | true =>
            refine iteF ⟨H0, s0, n0, ?_⟩
            rw [take_get hxi, List.filter_append]
            simp [ei]
          | false =>
            refine iteT ⟨_, rfl, _, upd_same, ?_, H0, s0, n0, ?_⟩
            · refine Nat.lt_of_le_of_lt (List.length_filter_le _ _) ?_
              rw [List.length_take]
              exact Nat.lt_of_le_of_lt (Nat.min_le_right _ _) (small1000 (by omega))
            · rw [upd_upd, take_get hxi, List.filter_append]
              simp [ei]
        · obtain ⟨H0, s0, n0, rfl⟩ := hP
          rw [List.take_length]
          refine ⟨_, _, rfl, .inl (SqL.of upd_same), rfl, q _ _ (s0.trans (same_upd n0)) ?_⟩
          rw [vec_iff ha, decide_eq_true_iff, ← filter_nil]
          exact ⟨fun z => ⟨hL, by have := V.int.inj z; omega⟩, fun z => by rw [z.2]; rfl⟩
      · rw [show (!decide (V.int (xs.length : Int) = V.int (L : Int))) = true by simp; omega]
        exact iteT (q _ _ (Same.refl _) ⟨(fun z => nomatch z), fun z => absurd ((vec_iff ha).mp z).1 hL⟩)
    · exact ⟨_, rfl, _, _, _, _, _, rfl, ClsV.ty _, ty, kit_ty ht, false, rfl, iteT (q _ _ (Same.refl _) ⟨(fun z => nomatch z), fun z => by obtain ⟨a, xs, e, _⟩ := vec_tup z; cases e⟩)⟩
    · exact ⟨_, rfl, _, _, _, _, _, rfl, ClsV.ty _, ty, kit_ty ht, false, rfl, iteT (q _ _ (Same.refl _) ⟨(fun z => nomatch z), fun z => absurd z (not_vec nt)⟩)⟩
/-- what is left over of ints by a test -/
theorem left_nil {ns : List Int} {p : Int → Bool} : (((ns.filter p).length : Nat) : Int) = 0 ↔ ∀ x ∈ ns, p x = false := by
  constructor
  · intro h x hx
    have : ns.filter p = [] := List.length_eq_zero_iff.mp (by omega)
    have := List.filter_eq_nil_iff.mp this x hx
    simpa using this
  · intro h
    rw [List.filter_eq_nil_iff.mpr fun x hx => by rw [h x hx]; exact Bool.false_ne_true]
    rfl
abbrev s__law_zeros : Stmt := topS 49
theorem sc__law_zeros : FnScope ["row", "a"] ["row"] (defScope s__law_zeros) := ⟨rfl, rfl, rfl, by decide +kernel, rfl, by decide +kernel, by decide +kernel⟩
def spZer : Sp := fun vs H Q _ => ∃ (k : Bool) (a : Addr) (ns : List Int), vs = [.ref a] ∧ Tk k H a (ns.map V.int) ∧ ns.length ≤ 900 ∧ ∀ (H' : Hp) (t : Bool), Same H H' → (t = true ↔ ∀ j, j < ns.length → en ns j = 0) → Q (.bl t) H'
theorem all_en {ns : List Int} {R : Int → Prop} : (∀ x ∈ ns, R x) ↔ ∀ j, j < ns.length → R (en ns j) := by
  constructor
  · exact fun h j hj => h _ (en_mem hj)
  · intro h x hx
    obtain ⟨j, hj, rfl⟩ := List.getElem_of_mem hx
    have := h j hj
    rwa [en_at hj] at this
theorem ok_lzer {f : Addr} {fd : FuncData} {k : Nat} (F : Fun K "_law_zeros" "_law_zeros" s__law_zeros f fd) (Z : Glb mg) : FnOk P w K mg base CX0 (k + 1) f fd ["row"] spZer := by
  refine F.ok sc__law_zeros (fun vs H Q E h => ?_) (fun cdv A outer s H vs Q E hr h => ?_)
  · obtain ⟨kd, a, ns, rfl, _⟩ := h
    rfl
  · obtain ⟨kd, a, ns, rfl, hv, hl, q⟩ := h
    refine ⟨_, (pss_one (ps_ret (pe_cmpR op_eq (pe_callB call_len_seq (by rfl) Z.m_len PySem.boot_len (pa_cons (pe_lc (own := [("a", 1)]) (g := gName 1) (by rfl) sc__law_zeros.nd (PI.or (pi_list (pv 0)) (pi_tup (pv 0))) (blkOk_by (own := [("a", 1)]) (N := ["row", "a"]) (sc := defScope s__law_zeros) (by first | decide +kernel | kernel_rfl)) (fun _ _ _ _ _ => (pg_name (i := 1) sc__law_zeros.nd rfl (.inl rfl))) (fun _ _ _ _ _ => (pts_one (pt_cmpR op_ne (pv 1) pe_int (nomark _)))) (fun _ _ _ _ _ => (pv 1))) pa_nil)) pe_int (nomark _)))), ?_⟩
    have fin : ∀ H' : Hp, Same H H' → Q (.bl (decide (V.int (((ns.filter fun x => x != 0).map V.int).length : Int) = V.int 0))) H' := fun H' s => q _ _ s (by
      rw [decide_eq_true_iff, List.length_map]
      constructor
      · intro h j hj
        have := left_nil.mp (V.int.inj h) _ (en_mem hj)
        simpa using this
      · intro h
        exact congrArg V.int (left_nil.mpr fun x hx => by
          have := (all_en (R := fun z => z = 0)).mpr h x hx
          simp [this]))
    have fst : ∀ (H' : Hp) (D : Addr) (i : Nat) (n : Int), H D = none → ns[i]? = some n → Same H H' → H' D = some (.lst (((ns.take i).filter fun x => x != 0).map V.int)) → (n != 0) = true → ∃ acc, H' D = some (.lst acc) ∧ acc.length < sizeLine ∧ Same H (upd H' D (.lst (acc ++ [.int n]))) ∧ (upd H' D (.lst (acc ++ [.int n]))) D = some (.lst (((ns.take (i + 1)).filter fun x => x != 0).map V.int)) := fun H' D i n nD hn s e h => by
      refine ⟨_, e, ?_, fun y o hy => ?_, ?_⟩
      · rw [List.length_map]
        refine Nat.lt_of_le_of_lt (List.length_filter_le _ _) ?_
        rw [List.length_take]
        exact Nat.lt_of_le_of_lt (Nat.min_le_right _ _) (small1000 (by omega))
      · rw [upd_ne (ne_of_none hy nD)]
        exact s _ _ hy
      · rw [upd_same, take_get hn, List.filter_append, List.filter_cons, if_pos h, List.map_append]
        rfl
    have snd : ∀ (H' : Hp) (D : Addr) (i : Nat) (n : Int), ns[i]? = some n → H' D = some (.lst (((ns.take i).filter fun x => x != 0).map V.int)) → (n != 0) = false → H' D = some (.lst (((ns.take (i + 1)).filter fun x => x != 0).map V.int)) := fun H' D i n hn e h => by
      rw [take_get hn, List.filter_append, List.filter_cons, if_neg (by rw [h]; exact Bool.false_ne_true), List.filter_nil, List.append_nil]
      exact e
    have tst : ∀ n : Int, (!decide (V.int n = V.int 0)) = (n != 0) := fun n => by
      by_cases e : n = 0
      · rw [e]
        rfl
      · rw [decide_eq_false fun z => e (V.int.inj z)]
        simpa using e
    cases kd with
    | true =>
      have hv' : H a = some (.tup (ns.map V.int)) := hv
      refine .inr ⟨_, rfl, a, rfl, ⟨_, SqT.of hv'⟩, fun D nD => ?_⟩
      refine lc_tup (xs := ns.map V.int) (fun i H' => Same H H' ∧ H' D = some (.lst (((ns.take i).filter fun x => x != 0).map V.int))) ⟨same_upd nD, upd_same⟩ (fun i H' _ hP => SqT.of (hP.1 _ _ hv')) (fun i x H' hx hP => ?_) (fun H' hP => ?_)
      · obtain ⟨n, hn, rfl⟩ := map_get hx
        refine ⟨rfl, _, rfl, rfl, _, rfl, ?_⟩
        rw [tst]
        exact ite2 (fun c => ⟨_, rfl, fst H' D i n nD hn hP.1 hP.2 c⟩) (fun c => ⟨hP.1, snd H' D i n hn hP.2 (by simpa using c)⟩)
      · rw [List.length_map, List.take_length] at hP
        exact ⟨D, _, rfl, .inl (SqL.of hP.2), rfl, fin _ hP.1⟩
    | false =>
      have hv' : H a = some (.lst (ns.map V.int)) := hv
      refine .inl ⟨_, rfl, a, rfl, ⟨_, SqL.of hv'⟩, fun D nD => ?_⟩
      refine lc_list (xs := ns.map V.int) (fun i H' => Same H H' ∧ H' D = some (.lst (((ns.take i).filter fun x => x != 0).map V.int))) ⟨same_upd nD, upd_same⟩ (fun i H' _ hP => SqL.of (hP.1 _ _ hv')) (fun i x H' hx hP => ?_) (fun H' hP => ?_)
      · obtain ⟨n, hn, rfl⟩ := map_get hx
        refine ⟨rfl, _, rfl, rfl, _, rfl, ?_⟩
        rw [tst]
        exact ite2 (fun c => ⟨_, rfl, fst H' D i n nD hn hP.1 hP.2 c⟩) (fun c => ⟨hP.1, snd H' D i n hn hP.2 (by simpa using c)⟩)
      · rw [List.length_map, List.take_length] at hP
        exact ⟨D, _, rfl, .inl (SqL.of hP.2), rfl, fin _ hP.1⟩
/-- the turns of a comprehension over a tuple of ints with a test -/
theorem turnsT {p : Int → Bool} {ns : List Int} {H1 H' : Hp} {D : Addr} {i : Nat} {n : Int} (l9 : ns.length ≤ 900) (nD : H1 D = none) (hn : ns[i]? = some n) (s : Same H1 H') (e : H' D = some (.lst (((ns.take i).filter p).map V.int))) :
    (p n = true → ∃ acc, H' D = some (.lst acc) ∧ acc.length < sizeLine ∧ Same H1 (upd H' D (.lst (acc ++ [.int n]))) ∧ (upd H' D (.lst (acc ++ [.int n]))) D = some (.lst (((ns.take (i + 1)).filter p).map V.int))) ∧ (p n = false → H' D = some (.lst (((ns.take (i + 1)).filter p).map V.int))) := by
  refine ⟨fun h => ⟨_, e, ?_, fun y o hy => ?_, ?_⟩, fun h => ?_⟩
  · rw [List.length_map]
    refine Nat.lt_of_le_of_lt (List.length_filter_le _ _) ?_
    rw [List.length_take]
    exact Nat.lt_of_le_of_lt (Nat.min_le_right _ _) (small1000 (by omega))
  · rw [upd_ne (ne_of_none hy nD)]
    exact s _ _ hy
  · rw [upd_same, take_get hn, List.filter_append, List.filter_cons, if_pos h, List.map_append]
    rfl
  · rw [take_get hn, List.filter_append, List.filter_cons, if_neg (by rw [h]; exact Bool.false_ne_true), List.filter_nil, List.append_nil]
    exact e
theorem dt_len {K : PySem.W.Frag} {p a : Addr} {H : Hp} {B n : Nat} {ns : List Int} (d : Dt p H B n (.ref a)) (h : Vc H a ns) : ns.length ≤ B := by
  have h : H a = some (.tup (ns.map V.int)) := h
  cases d with
  | tup h' hl _ =>
    rw [h] at h'
    cases h'
    rwa [List.length_map] at hl
  | lst h' _ _ _ =>
    rw [h] at h'
    cases h'
abbrev s__law_weights : Stmt := topS 48
theorem sc__law_weights : FnScope ["many", "value", "a"] ["many", "value"] (defScope s__law_weights) := ⟨rfl, rfl, rfl, by decide +kernel, rfl, by decide +kernel, by decide +kernel⟩
theorem ok_lwts {f : Addr} {fd : FuncData} {k : Nat} (F : Fun K "_law_weights" "_law_weights" s__law_weights f fd) (Z : Glb mg) (C_law_vector : Call P w K mg base k "_law_vector" ["size", "value"] (spIsVec "size" "value")) : FnOk P w K mg base CX0 (k + 1) f fd ["many", "value"] spIsWts := by
  refine F.ok sc__law_weights (fun vs H Q E h => ?_) (fun cdv A outer s H vs Q E hr h => ?_)
  · obtain ⟨L, v, p, B, n, rfl, _⟩ := h
    rfl
  · obtain ⟨L, v, p, B, n, rfl, d, hB, q⟩ := h
    refine ⟨_, (pss_one (ps_ret (pe_and (pe_call C_law_vector.G hr (by rfl) C_law_vector.m C_law_vector.kp C_law_vector.b .nil pass0 (pa_cons (pv 0) (pa_cons (pv 1) pa_nil))) (pe_one (pe_cmpR op_eq (pe_callB call_len_seq (by rfl) Z.m_len PySem.boot_len (pa_cons (pe_lc (own := [("a", 2)]) (g := gName 2) (by rfl) sc__law_weights.nd (pi_tup (pv 1)) (blkOk_by (own := [("a", 2)]) (N := ["many", "value", "a"]) (sc := defScope s__law_weights) (by first | decide +kernel | kernel_rfl)) (fun _ _ _ _ _ => (pg_name (i := 2) sc__law_weights.nd rfl (.inl rfl))) (fun _ _ _ _ _ => (pts_one (pt_cmpR op_lt (pv 2) pe_int (nomark _)))) (fun _ _ _ _ _ => (pv 2))) pa_nil)) pe_int (nomark _)))))), ?_⟩
    refine ⟨_, rfl, _, rfl, L, v, p, B, n, rfl, d, hB, fun H1 b s1 hb => ⟨b, rfl, ?_⟩⟩
    cases b with
    | false => exact iteF (q _ _ s1 ⟨(fun z => nomatch z), fun ⟨a, ns, e, h1, h2, _⟩ => by have := hb.mpr ⟨a, ns, e, h1, h2⟩; cases this⟩)
    | true =>
      obtain ⟨a, ns, rfl, hv, hL⟩ := hb.mp rfl
      have hv1 : H1 a = some (.tup (ns.map V.int)) := hv.same s1
      have l5 := dt_len (K := K) d hv
      refine iteT ⟨_, rfl, a, rfl, ⟨_, SqT.of hv1⟩, fun D nD => ?_⟩
      refine lc_tup (xs := ns.map V.int) (fun i H' => Same H1 H' ∧ H' D = some (.lst (((ns.take i).filter fun x => decide (x < 0)).map V.int))) ⟨same_upd nD, upd_same⟩ (fun i H' _ hP => SqT.of (hP.1 _ _ hv1)) (fun i x H' hx hP => ?_) (fun H' hP => ?_)
      · obtain ⟨x, hx', rfl⟩ := map_get hx
        obtain ⟨t1, t2⟩ := turnsT (p := fun x => decide (x < 0)) (by omega) nD hx' hP.1 hP.2
        exact ⟨rfl, _, rfl, _, _, rfl, rfl, _, rfl, ite2 (fun c => ⟨_, rfl, t1 c⟩) (fun c => ⟨hP.1, t2 (by simpa using c)⟩)⟩
      · obtain ⟨s2, e2⟩ := hP
        rw [List.length_map, List.take_length] at e2
        refine ⟨D, _, rfl, .inl (SqL.of e2), rfl, q _ _ (s1.trans s2) ?_⟩
        rw [decide_eq_true_iff, List.length_map]
        constructor
        · intro h
          exact ⟨a, ns, rfl, hv, hL, fun x hx => by have := left_nil.mp (V.int.inj h) x hx; simpa using this⟩
        · rintro ⟨a', ns', e', h1, h2, h3⟩
          cases e'
          rw [vc_eq hv h1]
          exact congrArg V.int (left_nil.mpr fun x hx => by simpa using h3 x hx)

open Rk
abbrev s__law_sum : Stmt := topS 38
theorem sc__law_sum : FnScope ["weights", "rows", "found", "j", "k"] ["weights", "rows"] (defScope s__law_sum) := ⟨rfl, rfl, rfl, by decide +kernel, rfl, by decide +kernel, by decide +kernel⟩
def lsum (w : Nat) (ws : List Int) (M : List (List Int)) : List Int := (List.range w).map fun j => cb (en ws) M j
theorem lsum_len (w : Nat) (ws : List Int) (M : List (List Int)) : (lsum w ws M).length = w := by unfold lsum; rw [List.length_map, List.length_range]
theorem lsum_en {w j : Nat} {ws : List Int} {M : List (List Int)} (h : j < w) : en (lsum w ws M) j = cb (en ws) M j := map_len_range h
def spLSm : Sp := fun vs H Q _ => ∃ (a b : Addr) (ws : List Int) (M : List (List Int)) (w : Nat), vs = [.ref a, .ref b] ∧ Vc H a ws ∧ VL H b M ∧ ws.length = M.length ∧ 1 ≤ M.length ∧ M.length ≤ 100 ∧ (∀ v ∈ M, v.length = w) ∧ w ≤ 100 ∧ (∀ x ∈ ws, x.natAbs < 2 ^ 2000) ∧ (∀ v ∈ M, ∀ x ∈ v, x.natAbs < 2 ^ 2000) ∧ ∀ (H' : Hp) (r : Addr), Same H H' → Vc H' r (lsum w ws M) → Q (.ref r) H'
theorem ok_lsm {f : Addr} {fd : FuncData} {k : Nat} (F : Fun K "_law_sum" "_law_sum" s__law_sum f fd) (Z : Glb mg) : FnOk P w K mg base CX0 (k + 1) f fd ["weights", "rows"] spLSm := by
  refine F.ok sc__law_sum (fun vs H Q E h => ?_) (fun cdv A outer s H vs Q E hr h => ?_)
  · obtain ⟨a, b, ws, M, w, rfl, _⟩ := h
    rfl
  · obtain ⟨a, b, ws, M, w, rfl, ha, hV, lw, l1, l2, hw, w9, bw, bM, q⟩ := h
    obtain ⟨rs, eb, rl, rg⟩ := id hV
    refine ⟨_, (pss_cut (ps_set (i := 2) sc__law_sum.nd rfl (.inl rfl) (pe_lst pa_nil))
      (pss_cons (ps_for PassesOwn.never rfl (pi_range1 rfl Z.m_range (pa_cons (pe_callB call_len_seq (by rfl) Z.m_len PySem.boot_len (pa_cons (pe_ix (r := rIxL K) ix_list (pv 1) pe_int (fun _ _ => rfl)) pa_nil)) pa_nil)) (pg_name (i := 3) sc__law_sum.nd rfl (.inr rfl)) (pss_one (ps_expr (pe_bm PySem.F.plainAttrs_list PySem.F.slot_list_append PySem.F.type_list_append mt_append (pv 2) (pa_cons (pe_callB (cr_sum rfl) (by rfl) Z.m_sum (by decide +kernel) (pa_cons (pe_lc (own := [("k", 4)]) (g := gName 4) (tt := tYes) (by rfl) sc__law_sum.nd (pi_range1 rfl Z.m_range (pa_cons (pe_callB call_len_seq (by rfl) Z.m_len PySem.boot_len (pa_cons (pv 1) pa_nil)) pa_nil)) (blkOk_by (own := [("k", 4)]) (N := ["weights", "rows", "found", "j", "k"]) (sc := defScope s__law_sum) (by first | decide +kernel | kernel_rfl)) (fun _ _ _ _ _ => (pg_name (i := 4) sc__law_sum.nd rfl (.inl rfl))) (fun _ _ _ _ _ => pts_nil) (fun _ _ _ _ _ => (pe_op op_mulW (pe_ix (r := rIxT K) ix_tup (pv 0) (pv 4) (fun _ _ => rfl)) (pe_ix (r := rIxT K) ix_tup (pe_ix (r := rIxL K) ix_list (pv 1) (pv 4) (fun _ _ => rfl)) (pv 3) (fun _ _ => rfl))))) pa_nil)) pa_nil)))))
      (pss_one (ps_ret (pe_callTy call_tuple_of (by rfl) Z.m_tuple (by decide +kernel) (pa_cons (pv 2) pa_nil)))))), ?_⟩
    have er0 : rs[0]? = some (rs[0]'(by omega)) := List.getElem?_eq_getElem (by omega)
    obtain ⟨v0, ev0, hv0⟩ := rg _ _ er0
    have lv0 := hw v0 (List.mem_of_getElem? ev0)
    refine ⟨fun σ H' => ∃ l : Addr, σ = [some (.ref a), some (.ref b), some (.ref l), none, none] ∧ Same H H' ∧ H l = none ∧ H' l = some (.lst []), ⟨Nat.zero_le _, fun l nl => ⟨l, rfl, same_upd nl, nl, upd_same⟩⟩, ?_⟩
    rintro σ H1 ⟨l, rfl, s1, nl, el⟩
    have eb1 := s1 _ _ eb
    refine ⟨_, rfl, _, _, _, _, rfl, rfl, SqL.of eb1, atI_nat (get_ref er0), _, _, rfl, .inr (SqT.of (s1 _ _ hv0)), (v0.map V.int).length, rfl, by rw [List.length_map]; omega, by rw [List.length_map]; omega, ?_⟩
    rw [List.length_map, lv0]
    refine for_range (lo := 0) (n := w) (fun i σ H' => ∃ (y3 y4 : Option V), σ = [some (.ref a), some (.ref b), some (.ref l), y3, y4] ∧ Same H H' ∧ H' l = some (.lst (((lsum w ws M).take i).map V.int))) ⟨none, none, rfl, s1, el⟩ (fun i σ H' hi hP => ?_) (fun σ H' hP => ?_)
    · obtain ⟨y3, y4, rfl, sP, eP⟩ := hP
      have e0 : (0 : Int) + (i : Int) = ((i : Nat) : Int) := Int.zero_add _
      rw [e0]
      have eb2 := sP _ _ eb
      have ha2 := sP _ _ ha
      refine ⟨_, rfl, .inl ⟨rfl, _, SqL.of eP⟩, _, rfl, _, _, rfl, .inl (SqL.of eb2), (rs.map V.ref).length, rfl, by rw [List.length_map]; omega, by rw [List.length_map]; omega, fun D nD => ?_⟩
      rw [List.length_map, rl]
      refine lc_range (lo := 0) (n := M.length) (fun j H2 => Same H' H2 ∧ H2 D = some (.lst (((List.range j).map fun j => en ws j * en (M.getD j []) i).map V.int))) ⟨same_upd nD, upd_same⟩ (fun j H2 hj hP2 => ?_) (fun H2 hP2 => ?_)
      · rw [show (0 : Int) + (j : Int) = ((j : Nat) : Int) from Int.zero_add _]
        obtain ⟨s2, e2⟩ := hP2
        have erj : rs[j]? = some (rs[j]'(by omega)) := List.getElem?_eq_getElem (by omega)
        obtain ⟨v, ev, hv⟩ := rg _ _ erj
        have mv := List.mem_of_getElem? ev
        have gv : M.getD j [] = v := getD_some ev
        refine ⟨rfl, ?_⟩
        unfold tYes
        refine iteT ?_
        refine ⟨_, rfl, _, rfl, _, _, _, _, rfl, rfl, SqT.of (s2 _ _ ha2), atI_en (j := j) (by omega), _, rfl, _, rfl, _, _, _, _, rfl, rfl, SqL.of (s2 _ _ eb2), atI_nat (get_ref erj), _, rfl, _, _, _, _, rfl, rfl, SqT.of (s2 _ _ (sP _ _ hv)), atI_en (j := i) (by rw [hw v mv]; exact hi), _, _, rfl, rfl, cmul (en_lim bw (Nat.two_pow_pos _) j) (en_lim (bM v mv) (Nat.two_pow_pos _) i), _, e2, ?_, fun y o hy => ?_, ?_⟩
        · rw [List.length_map, List.length_map, List.length_range]
          exact small1000 (by omega)
        · rw [upd_ne (ne_of_none hy nD)]
          exact s2 _ _ hy
        · rw [upd_same, List.range_succ, List.map_append, List.map_append, ← gv]
          rfl
      · obtain ⟨s2, e2⟩ := hP2
        refine ⟨D, _, rfl, SqL.of e2, ?_⟩
        rw [sum_smW]
        refine ⟨l, _, _, rfl, rfl, s2 _ _ eP, ?_, _, _, rfl, fun y o hy => ?_, ?_⟩
        · rw [List.length_map, List.length_take]
          exact Nat.lt_of_le_of_lt (Nat.min_le_left _ _) (small1000 (by omega))
        · rw [upd_ne (ne_of_none hy nl)]
          exact s2 _ _ (sP _ _ hy)
        · have : (lsum w ws M)[i]? = some (sm M.length fun j => en ws j * en (M.getD j []) i) := by
            unfold lsum
            rw [List.getElem?_map, List.getElem?_range hi]
            rfl
          rw [upd_same, take_get this, List.map_append]
          rfl
    · obtain ⟨y3, y4, rfl, sP, eP⟩ := hP
      rw [List.take_of_length_le (by rw [lsum_len]; exact Nat.le_refl _)] at eP
      exact ⟨_, rfl, l, _, rfl, .inl ⟨SqL.of eP, fun r nr => q _ _ (sP.trans (same_upd nr)) upd_same⟩⟩
abbrev s__law_is_point : Stmt := topS 46
theorem sc__law_is_point : FnScope ["d", "value"] ["d", "value"] (defScope s__law_is_point) := ⟨rfl, rfl, rfl, by decide +kernel, rfl, by decide +kernel, by decide +kernel⟩
def spIsPL : Sp := fun vs H Q _ => ∃ (d : Nat) (v : V) (p : Addr) (B n : Nat), vs = [.int d, v] ∧ Dt p H B n v ∧ B ≤ 390 ∧ ∀ (H' : Hp) (b : Bool), Same H H' → (b = true ↔ PtOf H v d fun _ => True) → Q (.bl b) H'
theorem ok_lisp {f : Addr} {fd : FuncData} {k : Nat} (F : Fun K "_law_is_point" "_law_is_point" s__law_is_point f fd) (Z : Glb mg) (C_law_vector : Call P w K mg base k "_law_vector" ["size", "value"] (spIsVec "size" "value"))
    (C_law_prim : Call P w K mg base k "_law_prim" ["row"] spPrimK) : FnOk P w K mg base CX0 (k + 1) f fd ["d", "value"] spIsPL := by
  refine F.ok sc__law_is_point (fun vs H Q E h => ?_) (fun cdv A outer s H vs Q E hr h => ?_)
  · obtain ⟨d, v, p, B, n, rfl, _⟩ := h
    rfl
  · obtain ⟨d, v, p, B, n, rfl, D, hB, q⟩ := h
    refine ⟨_, (pss_one (ps_ret (pe_and (pe_call C_law_vector.G hr (by rfl) C_law_vector.m C_law_vector.kp C_law_vector.b .nil pass0 (pa_cons (pe_op op_add (pv 0) pe_int) (pa_cons (pv 1) pa_nil))) (pe_and (pe_cmpR op_gt (pe_ix (r := rIxT K) ix_tup (pv 1) pe_int (fun _ _ => rfl)) pe_int (nomark _)) (pe_one (pe_cmpR (r := rEqD K) (op_eqD hr.units) (pe_call C_law_prim.G hr (by rfl) C_law_prim.m C_law_prim.kp C_law_prim.b .nil pass0 (pa_cons (pv 1) pa_nil)) (pv 1) (nomark _))))))), ?_⟩
    refine ⟨_, rfl, _, _, rfl, rfl, _, rfl, d + 1, v, p, B, n, rfl, D, by omega, fun H1 b s1 hb => ⟨b, rfl, ?_⟩⟩
    cases b with
    | false => exact iteF (q _ _ s1 ⟨(fun z => nomatch z), fun ⟨a, ns, e, h1, h2, _⟩ => by have := hb.mpr ⟨a, ns, e, h1, h2⟩; cases this⟩)
    | true =>
      obtain ⟨a, ns, rfl, hv, hL⟩ := hb.mp rfl
      have hv1 := hv.same s1
      have l5 := dt_len (K := K) D hv
      refine iteT ⟨_, rfl, _, _, _, _, rfl, rfl, SqT.of hv1, atI_en (j := 0) (by omega), _, _, rfl, rfl, _, rfl, ite2 (fun e => ?_) (fun e => ?_)⟩
      · have e1 : 0 < en ns 0 := of_decide_eq_true e
        refine ⟨_, rfl, true, a, ns, rfl, hv1, by omega, fun x hx => up_pow (dt_ints D hv x hx) (by omega), fun H2 r2 s2 h2 => ?_⟩
        refine ⟨_, rfl, _, _, .tup (SqT.of h2) (dp_ints _), .tup (SqT.of (s2 _ _ hv1)) (dp_ints _), shaped_ints _ (by rw [prim_len]; omega), shaped_ints _ (by omega), ?_⟩
        rw [PyData.eqv, eqv_ints]
        refine q _ _ (s1.trans s2) ?_
        rw [decide_eq_true_iff]
        constructor
        · intro z
          refine ⟨a, ns, rfl, hv, hL, e1, ?_, trivial⟩
          have := pok_prim ns
          rw [z] at this
          refine this.resolve_left fun g => ?_
          have := prim_zero g _ (en_mem (v := ns) (c := 0) (by omega))
          omega
        · rintro ⟨a', ns', e', h1, h2, h3, h4, _⟩
          cases e'
          have := vc_eq hv h1
          subst this
          exact Pok.prim (.inr h4)
      · refine q _ _ s1 ⟨(fun z => nomatch z), ?_⟩
        rintro ⟨a', ns', e', h1, h2, h3, h4, _⟩
        cases e'
        have := vc_eq hv h1
        subst this
        exact absurd (decide_eq_true h3) e

open Rk
/-- the rows that a test leaves -/
structure Left (H : Hp) (D : Addr) (i : Nat) (P : Nat → Prop) : Prop where
  e : ∃ acc : List V, H D = some (.lst acc) ∧ acc.length ≤ i ∧ (acc = [] ↔ ∀ j, j < i → ¬ P j)
theorem Left.start {H : Hp} {D : Addr} {P : Nat → Prop} : Left (upd H D (.lst [])) D 0 P := ⟨[], upd_same, Nat.le_refl 0, fun _ j hj => absurd hj (Nat.not_lt_zero j), fun _ => rfl⟩
theorem Left.no {H H' : Hp} {D : Addr} {i : Nat} {P : Nat → Prop} (h : Left H D i P) (s : Same H H') (n : ¬ P i) : Left H' D (i + 1) P := by
  obtain ⟨acc, e, l, a⟩ := h.e
  refine ⟨acc, s _ _ e, by omega, a.trans ⟨fun h j hj => ?_, fun h j hj => h j (by omega)⟩⟩
  by_cases c : j = i
  · exact c ▸ n
  · exact h j (by omega)
theorem Left.yes {H H' H1 : Hp} {D : Addr} {i : Nat} {P : Nat → Prop} (h : Left H D i P) (s : Same H H') (n : P i) (hi : i < 1000) (nD : H1 D = none) (s1 : Same H1 H') (x : V) : ∃ acc, H' D = some (.lst acc) ∧ acc.length < sizeLine ∧ Same H1 (upd H' D (.lst (acc ++ [x]))) ∧ Left (upd H' D (.lst (acc ++ [x]))) D (i + 1) P := by
  obtain ⟨acc, e, l, a⟩ := h.e
  refine ⟨acc, s _ _ e, small1000 (by omega), fun y o hy => ?_, ⟨acc ++ [x], upd_same, by rw [List.length_append]; show acc.length + 1 ≤ i + 1; omega, ?_⟩⟩
  · rw [upd_ne (ne_of_none hy nD)]
    exact s1 _ _ hy
  · constructor
    · intro z
      cases acc <;> cases z
    · exact fun z => absurd n (z i (by omega))
theorem Left.end {H : Hp} {D : Addr} {n : Nat} {P : Nat → Prop} (h : Left H D n P) : ∃ acc : List V, H D = some (.lst acc) ∧ (V.int (acc.length : Int) = V.int 0 ↔ ∀ j, j < n → ¬ P j) := by
  obtain ⟨acc, e, l, a⟩ := h.e
  refine ⟨acc, e, Iff.trans ?_ a⟩
  constructor
  · intro z
    have := V.int.inj z
    exact List.length_eq_zero_iff.mp (by omega)
  · intro z
    rw [z]
    rfl

open Rk
/-! ### a comprehension whose turns draw, its entries told -/
def DrP (R : Int → Prop) (p : Addr) (H : Hp) (D : Addr) (i : Nat) (H' : Hp) : Prop := (∃ q, Plq H p q ∧ Plq H' p q ∧ q ≠ D) ∧ Keep p H H' ∧ ∃ ns : List Int, H' D = some (.lst (ns.map V.int)) ∧ ns.length = i ∧ ∀ n ∈ ns, R n
theorem drP0 {R : Int → Prop} {p D : Addr} {H : Hp} (hp : Pl H p) (nD : H D = none) : DrP R p H D 0 (upd H D (.lst [])) := by
  obtain ⟨q, hq⟩ := hp.q
  exact ⟨⟨q, hq, hq.same (same_upd nD), (hq.ne_free nD).2⟩, Same.keep (same_upd nD), [], upd_same, rfl, fun n h => nomatch h⟩
theorem drP_step {R : Int → Prop} {p D : Addr} {H H' H2 : Hp} {i : Nat} {n : Int} (nD : H D = none) (hP : Pl H p) (h : DrP R p H D i H') (k : Kp p H' H2) (P2 : Pl H2 p) (hn : R n) :
    ∃ acc, H2 D = some (.lst acc) ∧ acc.length = i ∧ DrP R p H D (i + 1) (upd H2 D (.lst (acc ++ [.int n]))) := by
  obtain ⟨⟨q, hq0, hq, qD⟩, K1, ns, e, hl, hb⟩ := h
  have ne : D ≠ p := ne_pool hP nD
  refine ⟨ns.map V.int, k.k _ _ ne e, by rw [List.length_map]; exact hl, ⟨q, hq0, (hq.kp k P2).upd ne.symm qD, qD⟩, ?_, ns ++ [n], ?_, ?_, ?_⟩
  · intro x o hx ho
    have hxD : x ≠ D := ne_of_none ho nD
    rw [upd_ne hxD]
    exact k.k _ _ hx (K1 _ _ hx ho)
  · rw [upd_same, List.map_append]
    rfl
  · rw [List.length_append, hl]
    rfl
  · intro m hm
    rcases List.mem_append.mp hm with hm | hm
    · exact hb m hm
    · rw [List.mem_singleton.mp hm]
      exact hn
theorem DrP.pt {R : Int → Prop} {p D : Addr} {H H' : Hp} {i : Nat} (h : DrP R p H D i H') : Pl H' p := by
  obtain ⟨⟨q, _, h2, _⟩, _⟩ := h
  exact h2.pl
theorem DrP.kp {R : Int → Prop} {p D : Addr} {H H' : Hp} {i : Nat} (h : DrP R p H D i H') : Kp p H H' := by
  obtain ⟨⟨q, h1, h2, h3⟩, K1, _⟩ := h
  refine ⟨K1, fun q5 h5 => ?_⟩
  have := hd_inj h1.hd h5
  subst this
  exact h2.hd
theorem DrP.ls {R : Int → Prop} {p D : Addr} {H H' : Hp} {i : Nat} (h : DrP R p H D i H') : ∃ ns : List Int, H' D = some (.lst (ns.map V.int)) ∧ ns.length = i ∧ ∀ n ∈ ns, R n := h.2.2
theorem drR_ls {R : List Int → Prop} {i : Nat} {p D : Addr} {H H' : Hp} (h : DrR (fun H v r => Vc H r v ∧ R v) p H D i H') : ∃ vs : List (List Int), VL H' D vs ∧ vs.length = i ∧ ∀ v ∈ vs, R v := by
  obtain ⟨_, _, rs, fs, e, l1, l2, g⟩ := h
  refine ⟨fs, ⟨rs, e, by omega, fun j r hr => ?_⟩, l2, fun v hv => ?_⟩
  · have hj := lt_of_get hr
    have hf : fs[j]? = some (fs[j]'(by omega)) := List.getElem?_eq_getElem (by omega)
    exact ⟨_, hf, (g j r _ hr hf).1.1⟩
  · obtain ⟨j, hj⟩ := List.getElem?_of_mem hv
    have hl := lt_of_get hj
    have hr : rs[j]? = some (rs[j]'(by omega)) := List.getElem?_eq_getElem (by omega)
    exact (g j _ v hr hj).1.2

open Rk
/-- a row drawn -/
def GR (d : Nat) (v : List Int) : Prop := v.length = d + 1 ∧ ∀ n ∈ v, n.natAbs ≤ 3
abbrev s__law_row : Stmt := topS 51
theorem sc__law_row : FnScope ["pool", "d", "row", "k"] ["pool", "d"] (defScope s__law_row) := ⟨rfl, rfl, rfl, by decide +kernel, rfl, by decide +kernel, by decide +kernel⟩
def spRow : Sp := fun vs H Q _ => ∃ (p : Addr) (d : Nat), vs = [.ref p, .int d] ∧ 1 ≤ d ∧ d ≤ 10 ∧ Pl H p ∧ ∀ (H' : Hp) (r : Addr) (v : List Int), Pl H' p → Kp p H H' → Vc H' r v → GR d v → Q (.ref r) H'
theorem ok_row {f : Addr} {fd : FuncData} {k : Nat} (F : Fun K "_law_row" "_law_row" s__law_row f fd) (Z : Glb mg)
    (C_law_draw : Call P w K mg base k "_law_draw" ["pool", "many"] spDraw) (C_law_zeros : Call P w K mg base k "_law_zeros" ["row"] spZer)
    (C_law_prim : Call P w K mg base k "_law_prim" ["row"] spPrimK) : FnOk P w K mg base CX0 (k + 1) f fd ["pool", "d"] spRow := by
  refine F.ok sc__law_row (fun vs H Q E h => ?_) (fun cdv A outer s H vs Q E hr h => ?_)
  · obtain ⟨p, d, rfl, _⟩ := h
    rfl
  · obtain ⟨p, d, rfl, d1, hd, hP, q⟩ := h
    refine ⟨_, (pss_cut (ps_setLc (i := 2) (own := [("k", 3)]) (g := gName 3) (tt := tYes) (by rfl) sc__law_row.nd rfl rfl (sw_true rfl rfl rfl (by decide +kernel)) (pi_range1 rfl Z.m_range (pa_cons (pe_op op_add (pv 1) pe_int) pa_nil)) (blkOk_by (own := [("k", 3)]) (N := ["pool", "d", "row", "k"]) (sc := defScope s__law_row) (by first | decide +kernel | kernel_rfl)) (fun _ _ _ _ _ => (pg_name (i := 3) sc__law_row.nd rfl (.inl rfl))) (fun _ _ _ _ _ => pts_nil) (fun _ _ _ _ _ => (pe_op op_sub (pe_call C_law_draw.G hr (by rfl) C_law_draw.m C_law_draw.kp C_law_draw.b .nil pass0 (pa_cons (pv 0) (pa_cons pe_int pa_nil))) pe_int)))
      (pss_cut (ps_if (pt_val (pe_call C_law_zeros.G hr (by rfl) C_law_zeros.m C_law_zeros.kp C_law_zeros.b .nil pass0 (pa_cons (pe_slice (r := rSlL K) sl_list (pv 2) (po_some pe_int) po_none) pa_nil))) (pss_one (ps_asg pe_int (pg_sub (pv 2) (pe_op op_add pe_int (pe_call C_law_draw.G hr (by rfl) C_law_draw.m C_law_draw.kp C_law_draw.b .nil pass0 (pa_cons (pv 0) (pa_cons (pv 1) pa_nil)))) set_list))) pss_nil)
      (pss_one (ps_ret (pe_call C_law_prim.G hr (by rfl) C_law_prim.m C_law_prim.kp C_law_prim.b .nil pass0 (pa_cons (pv 2) pa_nil)))))), ?_⟩
    -- the entries
    refine ⟨fun σ H' => ∃ (l : Addr) (ns : List Int), σ = [some (.ref p), some (.int (d : Int)), some (.ref l), none] ∧ Pl H' p ∧ Kp p H H' ∧ l ≠ p ∧ H l = none ∧ (∃ q0, Plq H' p q0 ∧ q0 ≠ l) ∧ H' l = some (.lst (ns.map V.int)) ∧ ns.length = d + 1 ∧ ∀ n ∈ ns, n.natAbs ≤ 3, ?_, ?_⟩
    · refine ⟨_, rfl, _, _, rfl, rfl, d + 1, rfl, by omega, by omega, fun D nD => ?_⟩
      have nDp : D ≠ p := ne_pool hP nD
      refine lc_range (lo := 0) (n := d + 1) (DrP (fun x => x.natAbs ≤ 3) p H D) (drP0 hP nD) (fun j H9 hj hX => ?_) (fun H9 hX => ?_)
      · refine ⟨rfl, ?_⟩
        unfold tYes
        refine iteT ?_
        refine ⟨_, rfl, p, _, rfl, by decide, by decide, hX.pt, fun n H10 l8 u8 P10 B10 => ⟨_, _, rfl, rfl, ?_⟩⟩
        obtain ⟨acc, h1, h2, h3⟩ := drP_step (n := n - 3) nD hP hX B10.kp P10 (by omega)
        exact ⟨acc, h1, small1000 (by omega), h3⟩
      · obtain ⟨xs, eD, hlen, hB⟩ := hX.ls
        obtain ⟨⟨q0, _, hq, qD⟩, _⟩ := id hX
        exact ⟨D, xs, rfl, hX.pt, hX.kp, nDp, nD, ⟨q0, hq, qD⟩, eD, hlen, hB⟩
    rintro σ H1 ⟨l, ns, rfl, P1, K1, nlp, nl, ⟨q0, hq0, nq0⟩, el, ll, bl⟩
    -- not zeros
    refine ⟨fun σ H' => ∃ (ns : List Int), σ = [some (.ref p), some (.int (d : Int)), some (.ref l), none] ∧ Pl H' p ∧ Kp p H H' ∧ H' l = some (.lst (ns.map V.int)) ∧ ns.length = d + 1 ∧ ∀ n ∈ ns, n.natAbs ≤ 3, ?_, ?_⟩
    · refine ⟨_, rfl, _, rfl, ?_⟩
      unfold tNoPart
      refine ⟨l, _, rfl, SqL.of el, fun c nc => ?_⟩
      have sc := same_upd (o := .lst (cutV (ns.map V.int) (some 1) none)) nc
      have ec : (upd H1 c (.lst (cutV (ns.map V.int) (some 1) none))) c = some (.lst ((ns.drop 1).map V.int)) := by
        rw [upd_same, show (1 : Int) = ((1 : Nat) : Int) from rfl, cut_drop, List.map_drop]
      have cp : c ≠ p := ne_pool P1 nc
      have Pc := P1.same sc
      have Kc := K1.trans (Same.kp sc)
      have elc := sc _ _ el
      have hqc := hq0.same sc
      generalize upd H1 c (.lst (cutV (ns.map V.int) (some 1) none)) = H2 at *
      refine ⟨false, c, ns.drop 1, rfl, ec, by rw [List.length_drop]; omega, fun H3 t s3 ht => ⟨t, rfl, ?_⟩⟩
      cases t with
      | false => exact iteF ⟨ns, rfl, Pc.same s3, Kc.trans (Same.kp s3), s3 _ _ elc, ll, bl⟩
      | true =>
        refine iteT ⟨_, rfl, _, rfl, _, rfl, p, _, rfl, by omega, Nat.lt_of_le_of_lt (show ((d : Nat) : Int).natAbs ≤ 2 ^ 9 by omega) (Nat.pow_lt_pow_right (by decide) (by decide)), Pc.same s3, fun n H4 n0 n1 P4 B4 => ?_⟩
        obtain ⟨n', rfl⟩ := Int.eq_ofNat_of_zero_le n0
        have el4 := B4.keep _ _ nlp (s3 _ _ elc)
        refine ⟨_, _, rfl, rfl, l, _, _, n' + 1, rfl, by show V.int (1 + (n' : Int)) = _; rw [show (1 : Int) + ((n' : Nat) : Int) = ((n' + 1 : Nat) : Int) by omega], el4, ixNs (by rw [List.length_map]; omega), ns.set (n' + 1) 1, rfl, ?_⟩
        obtain ⟨_, P5⟩ : ∃ q0, Plq (upd H4 l (.lst ((ns.map V.int).set (n' + 1) (.int 1)))) p q0 := ⟨q0, ((hqc.same s3).kp B4.kp P4).upd nlp.symm nq0⟩
        have K4 := (Kc.trans (Same.kp s3)).trans B4.kp
        refine ⟨P5.pl, ⟨fun x o hx ho => by rw [upd_ne (ne_of_none ho nl)]; exact K4.k _ _ hx ho, fun q1 h1 => ?_⟩, by rw [upd_same, List.map_set], by rw [List.length_set]; exact ll, fun n hn => ?_⟩
        · obtain ⟨l', e⟩ := K4.h q1 h1
          exact ⟨l', by rw [upd_ne nlp.symm]; exact e⟩
        · rcases List.mem_or_eq_of_mem_set hn with h | rfl
          · exact bl n h
          · decide
    rintro σ H2 ⟨ms, rfl, P2, K2, el2, lm, bm⟩
    refine ⟨_, rfl, false, l, ms, rfl, el2, by omega, fun n hn => Nat.lt_of_le_of_lt (bm n hn) (Nat.lt_of_lt_of_le (by decide : 3 < 2 ^ 2) (Nat.pow_le_pow_right (by decide) (by decide))), fun H3 r s3 h3 => q _ _ _ (P2.same s3) (K2.trans (Same.kp s3)) h3 ⟨by rw [prim_len, lm], fun n hn => prim_small bm n hn⟩⟩

open Rk
/-- a point of the second library: entries up to 6 -/
def GQ (d : Nat) (v : List Int) : Prop := v.length = d + 1 ∧ (∀ n ∈ v, n.natAbs ≤ 6) ∧ 0 < en v 0 ∧ gl v = 1
abbrev s__law_point : Stmt := topS 40
theorem sc__law_point : FnScope ["pool", "d", "below", "w", "k"] ["pool", "d", "below"] (defScope s__law_point) := ⟨rfl, rfl, rfl, by decide +kernel, rfl, by decide +kernel, by decide +kernel⟩
def spPointS : Sp := fun vs H Q _ => ∃ (p : Addr) (d : Nat) (m : Int), vs = [.ref p, .int d, .int m] ∧ d ≤ 10 ∧ 1 ≤ m ∧ m ≤ 3 ∧ Pl H p ∧ ∀ (H' : Hp) (r : Addr) (v : List Int), Pl H' p → Kp p H H' → Vc H' r v → GQ d v → Q (.ref r) H'
theorem ok_pointS {f : Addr} {fd : FuncData} {k : Nat} (F : Fun K "_law_point" "_law_point" s__law_point f fd) (Z : Glb mg)
    (C_law_draw : Call P w K mg base k "_law_draw" ["pool", "many"] spDraw)
    (C_law_prim : Call P w K mg base k "_law_prim" ["row"] spPrimK) : FnOk P w K mg base CX0 (k + 1) f fd ["pool", "d", "below"] spPointS := by
  refine F.ok sc__law_point (fun vs H Q E h => ?_) (fun cdv A outer s H vs Q E hr h => ?_)
  · obtain ⟨p, d, m, rfl, _⟩ := h
    rfl
  · obtain ⟨p, d, m, rfl, hd, m1, m5, hP, q⟩ := h
    refine ⟨_, (pss_cut (ps_set (i := 3) sc__law_point.nd rfl (.inl rfl) (pe_ifExp (pt_cmpR op_gt (pe_call C_law_draw.G hr (by rfl) C_law_draw.m C_law_draw.kp C_law_draw.b .nil pass0 (pa_cons (pv 0) (pa_cons pe_int pa_nil))) pe_int (nomark _)) pe_int (pe_op op_add pe_int (pe_call C_law_draw.G hr (by rfl) C_law_draw.m C_law_draw.kp C_law_draw.b .nil pass0 (pa_cons (pv 0) (pa_cons (pv 2) pa_nil))))))
      (pss_one (ps_ret (pe_call C_law_prim.G hr (by rfl) C_law_prim.m C_law_prim.kp C_law_prim.b .nil pass0 (pa_cons (pe_op (r := rCatA K) op_catA (pe_tup (pa_cons (pv 3) pa_nil)) (pe_callTy call_tuple_of (by rfl) Z.m_tuple (by decide +kernel) (pa_cons (pe_lc (own := [("k", 4)]) (g := gName 4) (tt := tYes) (by rfl) sc__law_point.nd (pi_range1 rfl Z.m_range (pa_cons (pv 1) pa_nil)) (blkOk_by (own := [("k", 4)]) (N := ["pool", "d", "below", "w", "k"]) (sc := defScope s__law_point) (by first | decide +kernel | kernel_rfl)) (fun _ _ _ _ _ => (pg_name (i := 4) sc__law_point.nd rfl (.inl rfl))) (fun _ _ _ _ _ => pts_nil) (fun _ _ _ _ _ => (pe_op op_sub (pe_call C_law_draw.G hr (by rfl) C_law_draw.m C_law_draw.kp C_law_draw.b .nil pass0 (pa_cons (pv 0) (pa_cons pe_int pa_nil))) pe_int))) pa_nil))) pa_nil))))), ?_⟩
    refine ⟨fun σ H' => ∃ b : Int, σ = [some (.ref p), some (.int (d : Int)), some (.int m), some (.int b), none] ∧ Pl H' p ∧ Kp p H H' ∧ 1 ≤ b ∧ b ≤ 3, ?_, ?_⟩
    · refine ⟨_, rfl, p, _, rfl, by decide, by decide, hP, fun n H1 l1 u1 P1 B1 => ?_⟩
      refine ⟨_, _, rfl, rfl, _, rfl, ite2 (fun _ => ?_) (fun _ => ?_)⟩
      · exact ⟨1, rfl, P1, B1.kp, by decide, by decide⟩
      · refine ⟨_, rfl, _, rfl, p, m, rfl, by omega, Nat.lt_of_le_of_lt (show m.natAbs ≤ 5 by omega) (by decide), P1, fun n2 H2 l2 u2 P2 B2 => ⟨_, _, rfl, rfl, ?_⟩⟩
        exact ⟨1 + n2, rfl, P2, B1.kp.trans B2.kp, by omega, by omega⟩
    intro σ H1 hW
    obtain ⟨b, rfl, P1, K1, hb1, hb3⟩ := hW
    refine ⟨_, rfl, (show 1 ≤ sizeLine by decide), fun t1 nt1 => ?_⟩
    have st := same_upd (o := .tup [V.int b]) nt1
    have et : (upd H1 t1 (.tup [V.int b])) t1 = some (.tup [V.int b]) := upd_same
    have P2 := P1.same st
    have ne1 := ne_pool P1 nt1
    have K2 : Kp p H (upd H1 t1 (.tup [V.int b])) := K1.trans (Same.kp st)
    generalize upd H1 t1 (.tup [V.int b]) = H2 at *
    refine ⟨_, rfl, d, rfl, by omega, by omega, fun D nD => ?_⟩
    refine lc_range (lo := 0) (n := d) (DrP (fun x => x.natAbs ≤ 3) p H2 D) (drP0 P2 nD) (fun j H9 hj hX => ?_) (fun H9 hX => ?_)
    · refine ⟨rfl, ?_⟩
      unfold tYes
      refine iteT ?_
      refine ⟨_, rfl, p, _, rfl, by decide, by decide, hX.pt, fun n H10 l8 u8 P10 B10 => ⟨_, _, rfl, rfl, ?_⟩⟩
      obtain ⟨acc, h1, h2, h3⟩ := drP_step (n := n - 3) nD P2 hX B10.kp P10 (by omega)
      exact ⟨acc, h1, small1000 (by omega), h3⟩
    · have K9 := hX.kp
      have P9 := hX.pt
      obtain ⟨xs, eD, hlen, hB⟩ := hX.ls
      have et9 := K9.k _ _ ne1 et
      refine ⟨D, _, rfl, .inl ⟨SqL.of eD, fun T nT => ?_⟩⟩
      have sT := same_upd (o := .tup (xs.map V.int)) nT
      refine cat_h (sT _ _ et9) upd_same (by rw [List.length_map]; show 1 + _ ≤ 1000; omega) fun H10 r10 s10 e10 => ?_
      have v10 : Vc H10 r10 (b :: xs) := by
        unfold Vc
        rw [e10]
        rfl
      have hb2 : ∀ n ∈ b :: xs, n.natAbs ≤ 3 := fun n hn => by
        rcases List.mem_cons.mp hn with rfl | hn
        · omega
        · exact hB n hn
      refine ⟨true, r10, b :: xs, rfl, v10, by rw [List.length_cons]; omega, fun n hn => Nat.lt_of_le_of_lt (hb2 n hn) (by decide), fun H5 r s5 R5 => ?_⟩
      have g := gl_pos (ns := b :: xs) List.mem_cons_self (show b ≠ 0 by omega)
      have ss := (sT.trans s10).trans s5
      refine q H5 r _ (P9.same ss) ((K2.trans K9).trans (Same.kp ss)) R5 ⟨by rw [prim_len, List.length_cons, hlen], fun n hn => Nat.le_trans (prim_small hb2 n hn) (by decide), ?_, gl_prim (by omega)⟩
      show 0 < (prim (b :: xs)).getD 0 0
      rw [List.getD_eq_getElem?_getD, prim_get (i := 0) rfl g]
      exact Int.ediv_pos_of_pos_of_dvd (by omega) (Int.le_of_lt g) (gl_dvd List.mem_cons_self)

open Rk
theorem in_strs (n : Str) (ns : List Str) : inV (.str n) (ns.map V.str) = decide (n ∈ ns) := by
  unfold inV
  rw [List.any_map, Bool.eq_iff_iff, List.any_eq_true, decide_eq_true_iff]
  constructor
  · rintro ⟨x, hx, h⟩
    have h1 : (x == n) = true := h
    exact eq_of_beq h1 ▸ hx
  · intro h
    exact ⟨n, h, (show (n == n) = true from beq_self_eq_true _)⟩
abbrev s__law_right : Stmt := topS 50
theorem sc__law_right : FnScope ["d", "rows", "row", "value", "point", "total", "a", "other"] ["d", "rows", "row", "value"] (defScope s__law_right) := ⟨rfl, rfl, rfl, by decide +kernel, rfl, by decide +kernel, by decide +kernel⟩
def spLRF : Sp := fun vs H Q _ => ∃ (d : Nat) (a ia : Addr) (M : List (List Int)) (row : List Int) (v : V) (p : Addr) (B n : Nat), vs = [.int (d : Int), .ref a, .ref ia, v] ∧ Sys H a d M ∧ Vc H ia row ∧ row.length = d + 1 ∧ Lim 200 row ∧ Dt p H B n v ∧ B ≤ 390 ∧ ∀ (H' : Hp) (b : Bool), Same H H' → (b = true ↔ FolP d M row H v) → Q (.bl b) H'
theorem ok_lrf {f : Addr} {fd : FuncData} {k : Nat} (F : Fun K "_law_right" "_law_right" s__law_right f fd) (Z : Glb mg) (C_law_is_point : Call P w K mg base k "_law_is_point" ["d", "value"] spIsPL) (C_law_dot : Call P w K mg base k "_law_dot" ["v", "w"] spDot) (C_law_weights : Call P w K mg base k "_law_weights" ["many", "value"] spIsWts) (C_law_sum : Call P w K mg base k "_law_sum" ["weights", "rows"] spLSm) (C_law_zeros : Call P w K mg base k "_law_zeros" ["row"] spZer) (C_law_is_integer : Call P w K mg base k "_law_is_integer" ["actual"] (spIsI K "actual")) : FnOk P w K mg base CX0 (k + 1) f fd ["d", "rows", "row", "value"] spLRF := by
  refine F.ok sc__law_right (fun vs H Q E h => ?_) (fun cdv A outer s H vs Q E hr h => ?_)
  · obtain ⟨d, a, ia, M, row, v, p, B, n, rfl, _⟩ := h
    rfl
  · obtain ⟨d, a, ia, M, row, v, p, B, n, rfl, S, hi, lr, br, D, hB, q⟩ := h
    refine ⟨_, (pss_cut (ps_if (PW.pt (pw_or (pt_not (pt_val (pe_callB (id := "isinstance") (r := rIsi K) call_isi (by rfl) Z.m_isinstance (by decide +kernel) (pa_cons (pv 3) (pa_cons (pe_bltn (u := .type "tuple") (v := .ty "tuple") (by rfl) Z.m_tuple (by decide +kernel) rfl) pa_nil))))) (pw_or (pt_cmpR op_lt (pe_callB call_len_seq (by rfl) Z.m_len PySem.boot_len (pa_cons (pv 3) pa_nil)) pe_int (nomark _)) (pw_or1 (pt_not (pt_val (pe_callB (id := "isinstance") (r := rIsi K) call_isi (by rfl) Z.m_isinstance (by decide +kernel) (pa_cons (pe_ix (r := rIxT K) ix_tup (pv 3) pe_int (fun _ _ => rfl)) (pa_cons (pe_bltn (u := .type "str") (v := .ty "str") (by rfl) Z.m_str (by decide +kernel) rfl) pa_nil))))))))) (pss_one (ps_ret pe_bl)) pss_nil)
      (pss_cut (ps_if (PW.pt (pw_and (pt_cmpR op_eq (pe_ix (r := rIxT K) ix_tup (pv 3) pe_int (fun _ _ => rfl)) pe_str (nomark _)) (pw_and1 (pt_cmpR op_eq (pe_callB call_len_seq (by rfl) Z.m_len PySem.boot_len (pa_cons (pv 3) pa_nil)) pe_int (nomark _))))) (pss_cut (ps_set (i := 4) sc__law_right.nd rfl (.inr rfl) (pe_ix (r := rIxT K) ix_tup (pv 3) pe_int (fun _ _ => rfl)))
      (pss_cut (ps_if (PW.pt (pw_or (pt_not (pt_val (pe_call C_law_is_point.G hr (by rfl) C_law_is_point.m C_law_is_point.kp C_law_is_point.b .nil pass0 (pa_cons (pv 0) (pa_cons (pv 4) pa_nil))))) (pw_or1 (pt_cmpR op_ge (pe_call C_law_dot.G hr (by rfl) C_law_dot.m C_law_dot.kp C_law_dot.b .nil pass0 (pa_cons (pv 2) (pa_cons (pv 4) pa_nil))) pe_int (nomark _))))) (pss_one (ps_ret pe_bl)) pss_nil)
      (pss_one (ps_ret (pe_cmpR op_eq (pe_callB call_len_seq (by rfl) Z.m_len PySem.boot_len (pa_cons (pe_lc (own := [("other", 7)]) (g := gName 7) (by rfl) sc__law_right.nd (pi_list (pv 1)) (blkOk_by (own := [("other", 7)]) (N := ["d", "rows", "row", "value", "point", "total", "a", "other"]) (sc := defScope s__law_right) (by first | decide +kernel | kernel_rfl)) (fun _ _ _ _ _ => (pg_name (i := 7) sc__law_right.nd rfl (.inl rfl))) (fun _ _ _ _ _ => (pts_one (pt_cmpR op_lt (pe_call C_law_dot.G hr (by rfl) C_law_dot.m C_law_dot.kp C_law_dot.b .nil pass0 (pa_cons (pv 7) (pa_cons (pv 4) pa_nil))) pe_int (nomark _)))) (fun _ _ _ _ _ => (pv 7))) pa_nil)) pe_int (nomark _)))))) pss_nil)
      (pss_cut (ps_if (PW.pt (pw_or (pt_cmpR (r := rIn K true) op_notIn_seq (pe_ix (r := rIxT K) ix_tup (pv 3) pe_int (fun _ _ => rfl)) (pe_tup (pa_cons pe_str (pa_cons pe_str pa_nil))) (by rfl)) (pw_or1 (pt_not (pt_val (pe_call C_law_weights.G hr (by rfl) C_law_weights.m C_law_weights.kp C_law_weights.b .nil pass0 (pa_cons (pe_callB call_len_seq (by rfl) Z.m_len PySem.boot_len (pa_cons (pv 1) pa_nil)) (pa_cons (pe_ix (r := rIxT K) ix_tup (pv 3) pe_int (fun _ _ => rfl)) pa_nil)))))))) (pss_one (ps_ret pe_bl)) pss_nil)
      (pss_cut (ps_set (i := 5) sc__law_right.nd rfl (.inl rfl) (pe_call C_law_sum.G hr (by rfl) C_law_sum.m C_law_sum.kp C_law_sum.b .nil pass0 (pa_cons (pe_ix (r := rIxT K) ix_tup (pv 3) pe_int (fun _ _ => rfl)) (pa_cons (pv 1) pa_nil))))
      (pss_cut (ps_if (pt_cmpR op_eq (pe_ix (r := rIxT K) ix_tup (pv 3) pe_int (fun _ _ => rfl)) pe_str (nomark _)) (pss_one (ps_ret (pe_and (pe_cmpR op_eq (pe_callB call_len_seq (by rfl) Z.m_len PySem.boot_len (pa_cons (pv 3) pa_nil)) pe_int (nomark _)) (pe_and (pe_cmpR op_lt (pe_ix (r := rIxT K) ix_tup (pv 5) pe_int (fun _ _ => rfl)) pe_int (nomark _)) (pe_one (pe_call C_law_zeros.G hr (by rfl) C_law_zeros.m C_law_zeros.kp C_law_zeros.b .nil pass0 (pa_cons (pe_slice (r := rSlA K) sl_tupA (pv 5) (po_some pe_int) po_none) pa_nil))))))) pss_nil)
      (pss_cut (ps_if (PW.pt (pw_or (pt_cmpR op_ne (pe_callB call_len_seq (by rfl) Z.m_len PySem.boot_len (pa_cons (pv 3) pa_nil)) pe_int (nomark _)) (pw_or (pt_not (pt_val (pe_call C_law_is_integer.G hr (by rfl) C_law_is_integer.m C_law_is_integer.kp C_law_is_integer.b .nil pass0 (pa_cons (pe_ix (r := rIxT K) ix_tup (pv 3) pe_int (fun _ _ => rfl)) pa_nil)))) (pw_or (pt_not (pt_val (pe_call C_law_is_integer.G hr (by rfl) C_law_is_integer.m C_law_is_integer.kp C_law_is_integer.b .nil pass0 (pa_cons (pe_ix (r := rIxT K) ix_tup (pv 3) pe_int (fun _ _ => rfl)) pa_nil)))) (pw_or (pt_cmpR op_lt (pe_ix (r := rIxT K) ix_tup (pv 3) pe_int (fun _ _ => rfl)) pe_int (nomark _)) (pw_or1 (pt_cmpR op_lt (pe_ix (r := rIxT K) ix_tup (pv 3) pe_int (fun _ _ => rfl)) pe_int (nomark _)))))))) (pss_one (ps_ret pe_bl)) pss_nil)
      (pss_one (ps_ret (pe_cmpR (r := rEqD K) (op_eqD hr.units) (pe_op (r := rCatA K) op_catA (pe_tup (pa_cons (pe_op op_add (pe_ix (r := rIxT K) ix_tup (pv 5) pe_int (fun _ _ => rfl)) (pe_ix (r := rIxT K) ix_tup (pv 3) pe_int (fun _ _ => rfl))) pa_nil)) (pe_slice (r := rSlA K) sl_tupA (pv 5) (po_some pe_int) po_none)) (pe_callTy call_tuple_of (by rfl) Z.m_tuple (by decide +kernel) (pa_cons (pe_lc (own := [("a", 6)]) (g := gName 6) (tt := tYes) (by rfl) sc__law_right.nd (pi_tup (pv 2)) (blkOk_by (own := [("a", 6)]) (N := ["d", "rows", "row", "value", "point", "total", "a", "other"]) (sc := defScope s__law_right) (by first | decide +kernel | kernel_rfl)) (fun _ _ _ _ _ => (pg_name (i := 6) sc__law_right.nd rfl (.inl rfl))) (fun _ _ _ _ _ => pts_nil) (fun _ _ _ _ _ => (pe_op op_mulW (pe_ix (r := rIxT K) ix_tup (pv 3) pe_int (fun _ _ => rfl)) (pv 6)))) pa_nil)) (nomark _)))))))))), ?_⟩
    obtain ⟨rs, ea, rl, rg⟩ := id S.v
    have l1 := S.l1
    have l2 := S.l2
    have d1 := S.d1
    have d2 := S.d2
    have br4 : ∀ n ∈ row, n.natAbs < 2 ^ 4000 := fun n hn => Nat.lt_of_lt_of_le (br n hn) (Nat.pow_le_pow_right (by decide) (by decide))
    -- a word in front
    refine ⟨fun σ H' => ∃ (x : Addr) (z : Str) (xs : List V), v = .ref x ∧ σ = [some (.int (d : Int)), some (.ref a), some (.ref ia), some (.ref x), none, none, none, none] ∧ H' = H ∧ H x = some (.tup (.str z :: xs)) ∧ 1 ≤ xs.length ∧ xs.length ≤ B, ?_, ?_⟩
    · rcases D.kinds with ⟨x, xs, m, rfl, ha, hl, rfl, hx, ⟨T, ty, ht, _⟩, _⟩ | ⟨i, rfl, _, ⟨T, ty, ht, _⟩, _⟩ | ⟨i, b, _, ⟨T, ty, ht, _⟩, _, nt, _⟩
      · have nc : ∀ (R : Prop), (∀ z ys, xs = .str z :: ys → 1 ≤ ys.length → R) → ¬ R → ¬ FolP d M row H (.ref x) := fun R h n c => by
          rcases c with ⟨a', w', T, A, e, g1, _⟩ | ⟨a', z1, e, g1, _⟩ | ⟨a', z1, e, g1, _⟩ <;> cases e <;> rw [ha] at g1 <;> cases g1 <;> exact n (h _ _ rfl (by simp))
        refine ⟨_, rfl, _, _, _, _, _, rfl, ClsV.ty _, ty, kit_ty ht, true, rfl, iteF ?_⟩
        refine ⟨_, rfl, _, _, rfl, .inr (SqT.of ha), _, _, rfl, rfl, _, rfl, ite2 (fun c => ?_) (fun c => ?_)⟩
        · exact q _ _ (Same.refl _) ⟨(fun z => nomatch z), fun h => absurd h (nc (2 ≤ xs.length) (fun z ys e l => by rw [e]; simp; omega) (by have := of_decide_eq_true c; omega))⟩
        have c : 2 ≤ xs.length := by
          have : ¬ ((xs.length : Int) < 2) := fun z => c (decide_eq_true z)
          omega
        obtain ⟨x0, xr, rfl⟩ : ∃ x0 xr, xs = x0 :: xr := by
          cases xs with
          | nil => exact absurd c (by decide)
          | cons x0 xr => exact ⟨x0, xr, rfl⟩
        obtain ⟨T0, b0, ty0, kb0, s0⟩ := (hx x0 List.mem_cons_self).isStr (K := K)
        refine ⟨_, rfl, _, _, _, _, rfl, rfl, SqT.of ha, atI_nat (j := 0) rfl, _, _, _, _, _, rfl, ClsV.ty _, ty0, kit_ty kb0, b0, rfl, ?_⟩
        cases b0 with
        | false => exact iteT (q _ _ (Same.refl _) ⟨(fun z => nomatch z), fun h => absurd h (nc (∃ z, x0 = .str z) (fun z ys e l => by cases e; exact ⟨z, rfl⟩) fun z => by have := s0.mpr z; cases this)⟩)
        | true =>
          obtain ⟨t0, rfl⟩ := s0.mp rfl
          rw [List.length_cons] at c hl
          exact iteF ⟨x, t0, xr, rfl, rfl, rfl, ha, by omega, by omega⟩
      · exact ⟨_, rfl, _, _, _, _, _, rfl, ClsV.ty _, ty, kit_ty ht, false, rfl, iteT (q _ _ (Same.refl _) ⟨(fun z => nomatch z), fun h => by rcases h with ⟨a', z1, z2, z3, e, _⟩ | ⟨a', z1, e, _⟩ | ⟨a', z1, e, _⟩ <;> cases e⟩)⟩
      · exact ⟨_, rfl, _, _, _, _, _, rfl, ClsV.ty _, ty, kit_ty ht, false, rfl, iteT (q _ _ (Same.refl _) ⟨(fun z => nomatch z), fun h => by rcases h with ⟨a', z1, z2, z3, e, g, _⟩ | ⟨a', z1, e, g, _⟩ | ⟨a', z1, e, g, _⟩ <;> exact absurd g (nt _ _ e)⟩)⟩
    rintro σ H1 ⟨x, z, xs, rfl, rfl, rfl, hx, x1, xB⟩
    have it : ∀ (i : Nat) (y : V), xs[i]? = some y → ∃ m, Dt p H1 B m y := fun i y h => dt_item D hx (i + 1) y h
    -- no
    refine ⟨fun σ H' => σ = [some (.int (d : Int)), some (.ref a), some (.ref ia), some (.ref x), none, none, none, none] ∧ H' = H1 ∧ ¬ (z = "no" ∧ xs.length = 1), ?_, ?_⟩
    · refine ⟨_, rfl, _, _, _, _, rfl, rfl, SqT.of hx, atI_nat (j := 0) rfl, rfl, _, rfl, ite2 (fun c => ?_) (fun c => iteF ⟨rfl, rfl, fun e => c (decide_eq_true (congrArg V.str e.1))⟩)⟩
      have ez := V.str.inj (of_decide_eq_true c)
      subst ez
      refine ⟨_, rfl, _, _, rfl, .inr (SqT.of hx), rfl, _, rfl, ite2 (fun c2 => ?_) (fun c2 => ⟨rfl, rfl, fun e => c2 (decide_eq_true (by rw [List.length_cons, e.2]; rfl))⟩)⟩
      have c2 : xs.length = 1 := by
        have := V.int.inj (of_decide_eq_true c2)
        rw [List.length_cons] at this
        omega
      obtain ⟨y, rfl⟩ : ∃ y, xs = [y] := by
        match xs, c2 with
        | [y], _ => exact ⟨y, rfl⟩
      obtain ⟨m, D1⟩ := it 0 y rfl
      have iff : PtOf H1 y d (NoR d M row) ↔ FolP d M row H1 (.ref x) := ⟨fun h => .inr (.inr ⟨x, y, rfl, hx, h⟩), fun h => by
        rcases h with ⟨a', w', T, A, e, g1, g2, g3, g4⟩ | ⟨a', x', e, g1, g2⟩ | ⟨a', x', e, g1, g2⟩ <;> cases e <;> rw [hx] at g1 <;> cases g1
        exact g2⟩
      refine ⟨fun σ H' => H' = H1 ∧ σ = [some (.int (d : Int)), some (.ref a), some (.ref ia), some (.ref x), some y, none, none, none], ⟨_, rfl, _, _, _, _, rfl, rfl, SqT.of hx, atI_nat (j := 1) rfl, rfl, rfl⟩, ?_⟩
      rintro σ H2 ⟨rfl, rfl⟩
      refine ⟨fun σ H' => ∃ (u : Addr) (ns : List Int), y = .ref u ∧ σ = [some (.int (d : Int)), some (.ref a), some (.ref ia), some (.ref x), some y, none, none, none] ∧ Same H2 H' ∧ Vc H2 u ns ∧ ns.length = d + 1 ∧ 0 < en ns 0 ∧ gl ns = 1 ∧ dv (d + 1) row (en ns) < 0, ?_, ?_⟩
      · refine ⟨_, rfl, _, rfl, d, y, p, B, m, rfl, D1, hB, fun H3 b s3 hb => ?_⟩
        cases b with
        | false => exact ⟨false, rfl, iteT (q _ _ s3 ⟨(fun z => nomatch z), fun h => by have := hb.mpr ((iff.mpr h).imp fun _ _ => trivial); cases this⟩)⟩
        | true =>
          obtain ⟨u, ns, rfl, g1, g2, g3, g4, _⟩ := hb.mp rfl
          refine ⟨true, rfl, iteF ⟨_, rfl, _, rfl, ia, u, row, ns, rfl, hi.same s3, g1.same s3, by rw [lr, g2], by omega, br4, fun n hn => d4000 (dt_ints D1 g1 n hn) (by omega), fun H4 s4 => ?_⟩⟩
          rw [dvzS (by rw [lr, g2]), lr]
          refine ⟨_, _, rfl, rfl, _, rfl, ite2 (fun c => ?_) (fun c => ⟨u, ns, rfl, rfl, s3.trans s4, g1, g2, g3, g4, by
            have : ¬ 0 ≤ dv (d + 1) row (en ns) := fun z => c (decide_eq_true z)
            omega⟩)⟩
          refine q _ _ (s3.trans s4) ⟨(fun z => nomatch z), fun h => ?_⟩
          obtain ⟨a', ns', e', k1, _, _, _, k5⟩ := iff.mpr h
          cases e'
          have := k5.2
          rw [← vc_eq g1 k1] at this
          have := of_decide_eq_true c
          omega
      rintro σ H3 ⟨u, ns, rfl, rfl, s3, g1, g2, g3, g4, g5⟩
      obtain ⟨rs3, ea3, rl3, rg3⟩ := S.v.same s3
      have hu3 := g1.same s3
      refine ⟨_, rfl, a, rfl, ⟨_, SqL.of ea3⟩, fun D' nD => ?_⟩
      refine lc_list (xs := rs3.map V.ref) (fun i H' => Same H3 H' ∧ Left H' D' i fun j => dv (d + 1) (M.getD j []) (en ns) < 0) ⟨same_upd nD, Left.start⟩ (fun i H' _ hP => SqL.of (hP.1 _ _ ea3)) (fun i y' H' hy hP => ?_) (fun H' hP => ?_)
      · obtain ⟨r, hr1, rfl⟩ := ref_get hy
        obtain ⟨v, ev, hv⟩ := rg3 i r hr1
        have mv := List.mem_of_getElem? ev
        have hi := lt_of_get ev
        refine ⟨rfl, ?_⟩
        refine ⟨_, rfl, _, rfl, r, u, v, ns, rfl, hP.1 _ _ hv, hu3.same hP.1, by rw [S.w v mv, g2], by rw [S.w v mv]; omega, S.big4 v mv, fun n hn => d4000 (dt_ints D1 g1 n hn) (by omega), fun H5 s5 => ?_⟩
        have e : (dotz v ns).sum = dv (d + 1) (M.getD i []) (en ns) := by
          rw [dvzS (by rw [S.w v mv, g2]), S.w v mv, getD_some ev]
        refine ⟨_, _, rfl, rfl, _, rfl, ite2 (fun c => ?_) (fun c => ?_)⟩
        · exact ⟨_, rfl, hP.2.yes s5 (by rw [← e]; exact of_decide_eq_true c) (by omega) nD (hP.1.trans s5) _⟩
        · exact ⟨hP.1.trans s5, hP.2.no s5 fun z => c (decide_eq_true (by rw [e]; exact z))⟩
      · rw [List.length_map, rl3] at hP
        obtain ⟨s4, hL⟩ := hP
        obtain ⟨acc, eA, iffA⟩ := hL.end
        refine ⟨D', _, rfl, .inl (SqL.of eA), rfl, q _ _ (s3.trans s4) ?_⟩
        rw [decide_eq_true_iff, iffA, ← iff]
        constructor
        · intro h
          refine ⟨u, ns, rfl, g1, g2, g3, g4, fun v hv => ?_, g5⟩
          obtain ⟨j, hj, rfl⟩ := List.getElem_of_mem hv
          have := h j hj
          rw [getD_some (List.getElem?_eq_getElem hj)] at this
          omega
        · rintro ⟨a', ns', e', k1, _, _, _, k5⟩ j hj
          cases e'
          have := k5.1 _ (getD_memM hj)
          rw [← vc_eq g1 k1] at this
          omega
    rintro σ H2 ⟨rfl, rfl, n1⟩
    -- weights
    refine ⟨fun σ H' => ∃ (y : V) (ys : List V) (u : Addr) (ns : List Int), xs = y :: ys ∧ (z = "yes" ∨ z = "none") ∧ y = .ref u ∧ σ = [some (.int (d : Int)), some (.ref a), some (.ref ia), some (.ref x), none, none, none, none] ∧ Same H2 H' ∧ Vc H2 u ns ∧ ns.length = M.length ∧ ∀ x ∈ ns, (0 : Int) ≤ x, ?_, ?_⟩
    · refine ⟨_, rfl, _, _, _, _, rfl, rfl, SqT.of hx, atI_nat (j := 0) rfl, (show 2 ≤ sizeLine by decide), fun tt ntt => ⟨tt, _, rfl, .inr (SqT.of upd_same), rfl, rfl, ?_⟩⟩
      have st := same_upd (o := .tup [.str "yes", .str "none"]) ntt
      have e : inV (.str z) [.str "yes", .str "none"] = decide (z ∈ [("yes" : Str), "none"]) := in_strs z ["yes", "none"]
      rw [e]
      have noF : ¬ (z = "yes" ∨ z = "none") → ¬ FolP d M row H2 (.ref x) := fun h c => by
        rcases c with ⟨a', w', T, A, e, g1, _⟩ | ⟨a', z1, e, g1, _⟩ | ⟨a', z1, e, g1, _⟩ <;> cases e <;> rw [hx] at g1 <;> cases g1
        · exact h (.inl rfl)
        · exact h (.inr rfl)
        · exact n1 ⟨rfl, rfl⟩
      refine ⟨_, rfl, ite2 (fun c => ?_) (fun c => ?_)⟩
      · refine q _ _ st ⟨(fun z => nomatch z), fun h => absurd h (noF fun e => ?_)⟩
        rcases e with rfl | rfl <;> simp at c
      · have hz : z = "yes" ∨ z = "none" := Classical.byContradiction fun no => by
          have n1 : ¬ z = "yes" := fun e => no (.inl e)
          have n2 : ¬ z = "none" := fun e => no (.inr e)
          simp [n1, n2] at c
        obtain ⟨y, ys, rfl⟩ : ∃ y ys, xs = y :: ys := by
          cases xs with
          | nil => exact absurd x1 (by decide)
          | cons y ys => exact ⟨y, ys, rfl⟩
        obtain ⟨m, D1⟩ := it 0 y rfl
        have iffW : FolP d M row H2 (.ref x) → WtsOf H2 y M.length := fun h => by
          rcases h with ⟨a', w', T, A, e, g1, _, _, g2⟩ | ⟨a', z1, e, g1, g2⟩ | ⟨a', z1, e, g1, _⟩ <;> cases e <;> rw [hx] at g1 <;> cases g1
          · exact g2.wts fun ns r => r.1
          · exact g2.wts fun ns r => r.1
          · rcases hz with h | h <;> exact absurd h (by decide)
        refine ⟨_, rfl, _, _, rfl, .inl (SqL.of (st _ _ ea)), _, rfl, _, _, _, _, rfl, rfl, SqT.of (st _ _ hx), atI_nat (j := 1) rfl, M.length, y, p, B, m, by rw [List.length_map, rl]; rfl, D1.same st, by omega, fun H3 b s3 hb => ?_⟩
        have s13 := st.trans s3
        cases b with
        | false => exact ⟨false, rfl, iteT (q _ _ s13 ⟨(fun z => nomatch z), fun h => by obtain ⟨u', ns', e', k1, k2, k3⟩ := iffW h; have := hb.mpr ⟨u', ns', e', k1.same st, k2, k3⟩; cases this⟩)⟩
        | true =>
          obtain ⟨u, ns, rfl, h1, h2, h3⟩ := hb.mp rfl
          exact ⟨true, rfl, iteF ⟨_, ys, u, ns, rfl, hz, rfl, rfl, s13, D1.was st h1, h2, h3⟩⟩
    rintro σ H3 ⟨y, ys, u, ns, rfl, hz, rfl, rfl, s3, g1, g2, g3⟩
    obtain ⟨m, D1⟩ := it 0 _ rfl
    refine ⟨fun σ H' => ∃ t : Addr, σ = [some (.int (d : Int)), some (.ref a), some (.ref ia), some (.ref x), none, some (.ref t), none, none] ∧ Same H2 H' ∧ Vc H' t (lsum (d + 1) ns M), ⟨_, rfl, _, _, _, _, rfl, rfl, SqT.of (s3 _ _ hx), atI_nat (j := 1) rfl, _, rfl, u, a, ns, M, d + 1, rfl, g1.same s3, S.v.same s3, g2, l1, l2, S.w, by omega, fun z hz => d2000 (dt_ints D1 g1 z hz) (by omega), S.big, fun H4 t s4 ht => ⟨t, rfl, s3.trans s4, ht⟩⟩, ?_⟩
    rintro σ H4 ⟨t, rfl, s4, ht⟩
    have lc : (lsum (d + 1) ns M).length = d + 1 := lsum_len ..
    have hx4 := s4 _ _ hx
    -- none
    refine ⟨fun σ H' => σ = [some (.int (d : Int)), some (.ref a), some (.ref ia), some (.ref x), none, some (.ref t), none, none] ∧ H' = H4 ∧ z = "yes", ?_, ?_⟩
    · refine ⟨_, rfl, _, _, _, _, rfl, rfl, SqT.of hx4, atI_nat (j := 0) rfl, rfl, _, rfl, ite2 (fun c => ?_) (fun c => ⟨rfl, rfl, by
        rcases hz with h | h
        · exact h
        · exact absurd (decide_eq_true (congrArg V.str h)) c⟩)⟩
      have ez := V.str.inj (of_decide_eq_true c)
      subst ez
      refine ⟨_, rfl, _, _, rfl, .inr (SqT.of hx4), rfl, _, rfl, ite2 (fun c2 => ?_) (fun c2 => ?_)⟩
      · have c2 : ys = [] := by
          have := V.int.inj (of_decide_eq_true c2)
          rw [List.length_cons, List.length_cons] at this
          exact List.eq_nil_of_length_eq_zero (by omega)
        subst c2
        have iff : VtOf H2 (.ref u) M.length (EmpR d M) ↔ FolP d M row H2 (.ref x) := ⟨fun h => .inr (.inl ⟨x, _, rfl, hx, h⟩), fun h => by
          rcases h with ⟨a', w', T, A, e, g1, _⟩ | ⟨a', z1, e, g1, g2⟩ | ⟨a', z1, e, g1, _⟩ <;> cases e <;> rw [hx] at g1 <;> cases g1
          exact g2⟩
        refine ⟨_, rfl, _, _, _, _, rfl, rfl, SqT.of ht, atI_en (j := 0) (by omega), _, _, rfl, rfl, _, rfl, ite2 (fun e => ?_) (fun e => ?_)⟩
        · have e : en (lsum (d + 1) ns M) 0 < 0 := of_decide_eq_true e
          rw [lsum_en (by omega)] at e
          refine ⟨_, rfl, _, rfl, ?_⟩
          unfold tNoPart
          refine sl_h ht fun H5 r s5 hr => ?_
          rw [show (1 : Int) = ((1 : Nat) : Int) from rfl, cut_drop, ← List.map_drop] at hr
          refine ⟨true, r, (lsum (d + 1) ns M).drop 1, rfl, hr, by rw [List.length_drop, lc]; omega, fun H6 t6 s6 ht6 => q _ _ (s4.trans (s5.trans s6)) ?_⟩
          rw [ht6, ← iff, VtOf.the g1 g2, List.length_drop, lc]
          constructor
          · intro h
            refine ⟨g3, e, fun j j1 j2 => ?_⟩
            have := h (j - 1) (by omega)
            rw [en_drop1, show j - 1 + 1 = j by omega, lsum_en (by omega)] at this
            exact this
          · intro h j hj
            rw [en_drop1, lsum_en (by omega)]
            exact h.2.2 (j + 1) (by omega) (by omega)
        · refine q _ _ s4 ⟨(fun z => nomatch z), fun h => ?_⟩
          rw [← iff, VtOf.the g1 g2] at h
          rw [lsum_en (by omega)] at e
          exact absurd (decide_eq_true h.2.1) e
      · refine q _ _ s4 ⟨(fun z => nomatch z), fun h => absurd (decide_eq_true ?_) c2⟩
        rcases h with ⟨a', w', T, A, e, g1, _⟩ | ⟨a', z1, e, g1, g2⟩ | ⟨a', z1, e, g1, _⟩ <;> cases e <;> rw [hx] at g1 <;> cases g1
        rfl
    rintro σ H5 ⟨rfl, rfl, rfl⟩
    have noF : (∀ T A, ys = [.int T, .int A] → 1 ≤ T → 0 ≤ A → False) → ¬ FolP d M row H2 (.ref x) := fun h c => by
      rcases c with ⟨a', w', T, A, e, k1, k2, k3, _⟩ | ⟨a', z1, e, k1, _⟩ | ⟨a', z1, e, k1, _⟩ <;> cases e <;> rw [hx] at k1 <;> cases k1
      exact h T A rfl k2 k3
    refine ⟨fun σ H' => ∃ T A : Int, ys = [.int T, .int A] ∧ σ = [some (.int (d : Int)), some (.ref a), some (.ref ia), some (.ref x), none, some (.ref t), none, none] ∧ Same H2 H' ∧ Vc H' t (lsum (d + 1) ns M) ∧ T.natAbs < 2 ^ B ∧ 1 ≤ T ∧ 0 ≤ A, ?_, ?_⟩
    · refine ⟨_, rfl, _, _, rfl, .inr (SqT.of hx4), rfl, _, rfl, ite2 (fun c => ?_) (fun c => ?_)⟩
      · refine q _ _ s4 ⟨(fun z => nomatch z), fun h => absurd h (noF fun T A e _ _ => ?_)⟩
        subst e
        have : (V.int ((([V.str "yes", V.ref u, V.int T, V.int A] : List V).length : Nat) : Int)) = V.int 4 := rfl
        simp [this] at c
      have c : ys.length = 2 := by
        have c : V.int ((V.str "yes" :: V.ref u :: ys).length : Int) = V.int 4 := by simpa using c
        have := V.int.inj c
        rw [List.length_cons, List.length_cons] at this
        omega
      obtain ⟨mv, av, rfl⟩ : ∃ mv av, ys = [mv, av] := by
        match ys, c with
        | [mv, av], _ => exact ⟨mv, av, rfl⟩
      obtain ⟨m2, D2⟩ := it 1 mv rfl
      obtain ⟨m3, D3⟩ := it 2 av rfl
      refine ⟨_, rfl, _, _, _, _, rfl, rfl, SqT.of hx4, atI_nat (j := 2) rfl, mv, rfl, (D2.same s4).isInt, ?_⟩
      have D2' := D2
      cases mv with
      | int T =>
        refine ⟨true, rfl, iteF ⟨_, rfl, _, _, _, _, rfl, rfl, SqT.of hx4, atI_nat (j := 3) rfl, av, rfl, (D3.same s4).isInt, ?_⟩⟩
        cases av with
        | int A =>
          refine ⟨true, rfl, iteF ⟨_, rfl, _, _, _, _, rfl, rfl, SqT.of hx4, atI_nat (j := 2) rfl, _, _, rfl, rfl, _, rfl, ite2 (fun c2 => ?_) (fun c2 => ⟨_, rfl, _, _, _, _, rfl, rfl, SqT.of hx4, atI_nat (j := 3) rfl, _, _, rfl, rfl, _, rfl, ite2 (fun c3 => ?_) (fun c3 => ⟨T, A, rfl, rfl, s4, ht, ?_, ?_, ?_⟩)⟩)⟩⟩
          · exact q _ _ s4 ⟨(fun z => nomatch z), fun h => absurd h (noF fun T' A' e k2 k3 => by cases e; have := of_decide_eq_true c2; omega)⟩
          · exact q _ _ s4 ⟨(fun z => nomatch z), fun h => absurd h (noF fun T' A' e k2 k3 => by cases e; have := of_decide_eq_true c3; omega)⟩
          · cases D2' with
            | int _ _ h => exact h
          · have : ¬ T < 1 := fun z => c2 (decide_eq_true z)
            omega
          · have : ¬ A < 0 := fun z => c3 (decide_eq_true z)
            omega
        | _ => exact ⟨false, rfl, iteT (q _ _ s4 ⟨(fun z => nomatch z), fun h => absurd h (noF fun T' A' e _ _ => by cases e)⟩)⟩
      | _ => exact ⟨false, rfl, iteT (q _ _ s4 ⟨(fun z => nomatch z), fun h => absurd h (noF fun T' A' e _ _ => by cases e)⟩)⟩
    rintro σ H5 ⟨T, A, rfl, rfl, s5, ht5, bT, T1, A0⟩
    have hx5 := s5 _ _ hx
    have iff : YesR d M row T A ns ↔ FolP d M row H2 (.ref x) := ⟨fun h => .inl ⟨x, _, T, A, rfl, hx, T1, A0, (VtOf.the g1 g2).mpr h⟩, fun h => by
      rcases h with ⟨a', w', T', A', e, k1, k2, k3, k4⟩ | ⟨a', z1, e, k1, _⟩ | ⟨a', z1, e, k1, _⟩ <;> cases e <;> rw [hx] at k1 <;> cases k1
      exact (VtOf.the g1 g2).mp k4⟩
    refine ⟨_, rfl, _, _, _, _, rfl, rfl, SqT.of ht5, atI_en (j := 0) (by omega), _, rfl, _, _, _, _, rfl, rfl, SqT.of hx5, atI_nat (j := 3) rfl, _, _, rfl, rfl, (show 1 ≤ sizeLine by decide), fun z nz => ⟨_, rfl, _, rfl, ?_⟩⟩
    have sz := same_upd (o := .tup [.int (en (lsum (d + 1) ns M) 0 + A)]) nz
    have hz := upd_same (H := H5) (a := z) (o := .tup [.int (en (lsum (d + 1) ns M) 0 + A)])
    unfold tNoPart
    refine sl_h (sz _ _ ht5) fun H6 r s6 hr => ?_
    rw [show (1 : Int) = ((1 : Nat) : Int) from rfl, cut_drop, ← List.map_drop] at hr
    refine cat_h (s6 _ _ hz) hr (by rw [List.length_map, List.length_drop, lc]; show 1 + (d + 1 - 1) ≤ 1000; omega) fun H7 r7 s7 h7 => ?_
    have sA := sz.trans (s6.trans s7)
    have h7' : Vc H7 r7 ((en (lsum (d + 1) ns M) 0 + A) :: (lsum (d + 1) ns M).drop 1) := h7
    have hi7 : H7 ia = some (.tup (row.map V.int)) := hi.same (s5.trans sA)
    have hx7 := sA _ _ hx5
    refine ⟨_, rfl, ia, rfl, ⟨_, SqT.of hi7⟩, fun D nD => ?_⟩
    refine lc_tup (xs := row.map V.int) (fun i H' => Same H7 H' ∧ H' D = some (.lst (((row.map fun x => T * x).take i).map V.int))) ⟨same_upd nD, upd_same⟩ (fun i H' _ hP => SqT.of (hP.1 _ _ hi7)) (fun i y H' hy hP => ?_) (fun H' hP => ?_)
    · obtain ⟨y, hy', rfl⟩ := map_get hy
      refine ⟨rfl, ?_⟩
      unfold tYes
      refine iteT ?_
      refine ⟨_, rfl, _, _, _, _, rfl, rfl, SqT.of (hP.1 _ _ hx7), atI_nat (j := 2) rfl, _, rfl, _, _, rfl, rfl, cmul (a := 500) (b := 200) (up_pow bT (by omega)) (br y (List.mem_of_getElem? hy')), _, hP.2, ?_, fun z o hz => ?_, ?_⟩
      · rw [List.length_map, List.length_take, List.length_map, lr]
        exact Nat.lt_of_le_of_lt (Nat.min_le_right _ _) (small1000 (by omega))
      · rw [upd_ne (ne_of_none hz nD)]
        exact hP.1 _ _ hz
      · rw [upd_same, take_get (x := T * y) (by rw [List.getElem?_map, hy']; rfl), List.map_append]
        rfl
    · obtain ⟨s8, e8⟩ := hP
      rw [List.take_of_length_le (by rw [List.length_map, List.length_map]; exact Nat.le_refl _)] at e8
      refine ⟨D, _, rfl, .inl ⟨SqL.of e8, fun l nl => ?_⟩⟩
      have sl := same_upd (o := .tup ((row.map fun x => T * x).map V.int)) nl
      refine ⟨_, _, .tup (SqT.of (sl _ _ (s8 _ _ h7'))) (dp_ints _), .tup (SqT.of upd_same) (dp_ints _), shaped_ints _ (by rw [List.length_cons, List.length_drop, lc]; omega), shaped_ints _ (by rw [List.length_map]; omega), ?_⟩
      rw [PyData.eqv, eqv_ints]
      refine q _ _ (s5.trans (sA.trans (s8.trans sl))) ?_
      rw [decide_eq_true_iff, yes_eq (ns := ns) (M := M) lr lc (fun j hj => lsum_en hj) g3, iff]

open Rk
def spLSmL : Sp := fun vs H Q _ => ∃ (a b : Addr) (ws : List Int) (M : List (List Int)) (w : Nat), vs = [.ref a, .ref b] ∧ H a = some (.lst (ws.map V.int)) ∧ VL H b M ∧ ws.length = M.length ∧ 1 ≤ M.length ∧ M.length ≤ 100 ∧ (∀ v ∈ M, v.length = w) ∧ w ≤ 100 ∧ (∀ x ∈ ws, x.natAbs < 2 ^ 2000) ∧ (∀ v ∈ M, ∀ x ∈ v, x.natAbs < 2 ^ 2000) ∧ ∀ (H' : Hp) (r : Addr), Same H H' → Vc H' r (lsum w ws M) → Q (.ref r) H'
theorem ok_lsmL {f : Addr} {fd : FuncData} {k : Nat} (F : Fun K "_law_sum" "_law_sum" s__law_sum f fd) (Z : Glb mg) : FnOk P w K mg base CX0 (k + 1) f fd ["weights", "rows"] spLSmL := by
  refine F.ok sc__law_sum (fun vs H Q E h => ?_) (fun cdv A outer s H vs Q E hr h => ?_)
  · obtain ⟨a, b, ws, M, w, rfl, _⟩ := h
    rfl
  · obtain ⟨a, b, ws, M, w, rfl, ha, hV, lw, l1, l2, hw, w9, bw, bM, q⟩ := h
    obtain ⟨rs, eb, rl, rg⟩ := id hV
    refine ⟨_, (pss_cut (ps_set (i := 2) sc__law_sum.nd rfl (.inl rfl) (pe_lst pa_nil))
      (pss_cons (ps_for PassesOwn.never rfl (pi_range1 rfl Z.m_range (pa_cons (pe_callB call_len_seq (by rfl) Z.m_len PySem.boot_len (pa_cons (pe_ix (r := rIxL K) ix_list (pv 1) pe_int (fun _ _ => rfl)) pa_nil)) pa_nil)) (pg_name (i := 3) sc__law_sum.nd rfl (.inr rfl)) (pss_one (ps_expr (pe_bm PySem.F.plainAttrs_list PySem.F.slot_list_append PySem.F.type_list_append mt_append (pv 2) (pa_cons (pe_callB (cr_sum rfl) (by rfl) Z.m_sum (by decide +kernel) (pa_cons (pe_lc (own := [("k", 4)]) (g := gName 4) (tt := tYes) (by rfl) sc__law_sum.nd (pi_range1 rfl Z.m_range (pa_cons (pe_callB call_len_seq (by rfl) Z.m_len PySem.boot_len (pa_cons (pv 1) pa_nil)) pa_nil)) (blkOk_by (own := [("k", 4)]) (N := ["weights", "rows", "found", "j", "k"]) (sc := defScope s__law_sum) (by first | decide +kernel | kernel_rfl)) (fun _ _ _ _ _ => (pg_name (i := 4) sc__law_sum.nd rfl (.inl rfl))) (fun _ _ _ _ _ => pts_nil) (fun _ _ _ _ _ => (pe_op op_mulW (pe_ix (r := rIxL K) ix_list (pv 0) (pv 4) (fun _ _ => rfl)) (pe_ix (r := rIxT K) ix_tup (pe_ix (r := rIxL K) ix_list (pv 1) (pv 4) (fun _ _ => rfl)) (pv 3) (fun _ _ => rfl))))) pa_nil)) pa_nil)))))
      (pss_one (ps_ret (pe_callTy call_tuple_of (by rfl) Z.m_tuple (by decide +kernel) (pa_cons (pv 2) pa_nil)))))), ?_⟩
    have er0 : rs[0]? = some (rs[0]'(by omega)) := List.getElem?_eq_getElem (by omega)
    obtain ⟨v0, ev0, hv0⟩ := rg _ _ er0
    have lv0 := hw v0 (List.mem_of_getElem? ev0)
    refine ⟨fun σ H' => ∃ l : Addr, σ = [some (.ref a), some (.ref b), some (.ref l), none, none] ∧ Same H H' ∧ H l = none ∧ H' l = some (.lst []), ⟨Nat.zero_le _, fun l nl => ⟨l, rfl, same_upd nl, nl, upd_same⟩⟩, ?_⟩
    rintro σ H1 ⟨l, rfl, s1, nl, el⟩
    have eb1 := s1 _ _ eb
    refine ⟨_, rfl, _, _, _, _, rfl, rfl, SqL.of eb1, atI_nat (get_ref er0), _, _, rfl, .inr (SqT.of (s1 _ _ hv0)), (v0.map V.int).length, rfl, by rw [List.length_map]; omega, by rw [List.length_map]; omega, ?_⟩
    rw [List.length_map, lv0]
    refine for_range (lo := 0) (n := w) (fun i σ H' => ∃ (y3 y4 : Option V), σ = [some (.ref a), some (.ref b), some (.ref l), y3, y4] ∧ Same H H' ∧ H' l = some (.lst (((lsum w ws M).take i).map V.int))) ⟨none, none, rfl, s1, el⟩ (fun i σ H' hi hP => ?_) (fun σ H' hP => ?_)
    · obtain ⟨y3, y4, rfl, sP, eP⟩ := hP
      have e0 : (0 : Int) + (i : Int) = ((i : Nat) : Int) := Int.zero_add _
      rw [e0]
      have eb2 := sP _ _ eb
      have ha2 := sP _ _ ha
      refine ⟨_, rfl, .inl ⟨rfl, _, SqL.of eP⟩, _, rfl, _, _, rfl, .inl (SqL.of eb2), (rs.map V.ref).length, rfl, by rw [List.length_map]; omega, by rw [List.length_map]; omega, fun D nD => ?_⟩
      rw [List.length_map, rl]
      refine lc_range (lo := 0) (n := M.length) (fun j H2 => Same H' H2 ∧ H2 D = some (.lst (((List.range j).map fun j => en ws j * en (M.getD j []) i).map V.int))) ⟨same_upd nD, upd_same⟩ (fun j H2 hj hP2 => ?_) (fun H2 hP2 => ?_)
      · rw [show (0 : Int) + (j : Int) = ((j : Nat) : Int) from Int.zero_add _]
        obtain ⟨s2, e2⟩ := hP2
        have erj : rs[j]? = some (rs[j]'(by omega)) := List.getElem?_eq_getElem (by omega)
        obtain ⟨v, ev, hv⟩ := rg _ _ erj
        have mv := List.mem_of_getElem? ev
        have gv : M.getD j [] = v := getD_some ev
        refine ⟨rfl, ?_⟩
        unfold tYes
        refine iteT ?_
        refine ⟨_, rfl, _, rfl, _, _, _, _, rfl, rfl, SqL.of (s2 _ _ ha2), atI_en (j := j) (by omega), _, rfl, _, rfl, _, _, _, _, rfl, rfl, SqL.of (s2 _ _ eb2), atI_nat (get_ref erj), _, rfl, _, _, _, _, rfl, rfl, SqT.of (s2 _ _ (sP _ _ hv)), atI_en (j := i) (by rw [hw v mv]; exact hi), _, _, rfl, rfl, cmul (en_lim bw (Nat.two_pow_pos _) j) (en_lim (bM v mv) (Nat.two_pow_pos _) i), _, e2, ?_, fun y o hy => ?_, ?_⟩
        · rw [List.length_map, List.length_map, List.length_range]
          exact small1000 (by omega)
        · rw [upd_ne (ne_of_none hy nD)]
          exact s2 _ _ hy
        · rw [upd_same, List.range_succ, List.map_append, List.map_append, ← gv]
          rfl
      · obtain ⟨s2, e2⟩ := hP2
        refine ⟨D, _, rfl, SqL.of e2, ?_⟩
        rw [sum_smW]
        refine ⟨l, _, _, rfl, rfl, s2 _ _ eP, ?_, _, _, rfl, fun y o hy => ?_, ?_⟩
        · rw [List.length_map, List.length_take]
          exact Nat.lt_of_le_of_lt (Nat.min_le_left _ _) (small1000 (by omega))
        · rw [upd_ne (ne_of_none hy nl)]
          exact s2 _ _ (sP _ _ hy)
        · have : (lsum w ws M)[i]? = some (sm M.length fun j => en ws j * en (M.getD j []) i) := by
            unfold lsum
            rw [List.getElem?_map, List.getElem?_range hi]
            rfl
          rw [upd_same, take_get this, List.map_append]
          rfl
    · obtain ⟨y3, y4, rfl, sP, eP⟩ := hP
      rw [List.take_of_length_le (by rw [lsum_len]; exact Nat.le_refl _)] at eP
      exact ⟨_, rfl, l, _, rfl, .inl ⟨SqL.of eP, fun r nr => q _ _ (sP.trans (same_upd nr)) upd_same⟩⟩

open Rk
theorem GR.lim {d : Nat} {v : List Int} (h : GR d v) : Lim 4 v := fun x hx => Nat.lt_of_le_of_lt (h.2 x hx) (by decide)
theorem FolP.same {d : Nat} {M : List (List Int)} {row : List Int} {H H' : Hp} {v : V} (h : FolP d M row H v) (s : Same H H') : FolP d M row H' v := by
  rcases h with ⟨a, x, T, A, e, h1, h2, h3, h4⟩ | ⟨a, x, e, h1, h2⟩ | ⟨a, x, e, h1, h2⟩
  · exact .inl ⟨a, x, T, A, e, s _ _ h1, h2, h3, h4.same s⟩
  · exact .inr (.inl ⟨a, x, e, s _ _ h1, h2.same s⟩)
  · exact .inr (.inr ⟨a, x, e, s _ _ h1, h2.same s⟩)
theorem FolP.back {p : Addr} {B n d : Nat} {M : List (List Int)} {row : List Int} {H H' : Hp} {v : V} (h : FolP d M row H' v) (s : Same H H') (D : Dt p H B n v) : FolP d M row H v := by
  rcases h with ⟨a, x, T, A, rfl, h1, h2, h3, h4⟩ | ⟨a, x, rfl, h1, h2⟩ | ⟨a, x, rfl, h1, h2⟩
  · have g := D.was s h1
    obtain ⟨_, D1⟩ := dt_item D g 1 x rfl
    exact .inl ⟨a, x, T, A, rfl, g, h2, h3, h4.back s D1⟩
  · have g := D.was s h1
    obtain ⟨_, D1⟩ := dt_item D g 1 x rfl
    exact .inr (.inl ⟨a, x, rfl, g, h2.back s D1⟩)
  · have g := D.was s h1
    obtain ⟨_, D1⟩ := dt_item D g 1 x rfl
    exact .inr (.inr ⟨a, x, rfl, g, h2.back s D1⟩)
abbrev s_law : Stmt := topS 52
theorem sc_law : FnScope ["script", "pool", "d", "rows", "row", "total", "told", "values", "turn", "bent", "value", "point", "k", "other"] ["script"] (defScope s_law) := ⟨rfl, rfl, rfl, by decide +kernel, rfl, by decide +kernel, by decide +kernel⟩
def spLaw (K : PySem.W.Frag) : Sp := fun vs H Q _ => ∃ (a : Addr) (ns : List Int), vs = [.ref a] ∧ SqL K H a (ns.map V.int) ∧ ∀ H', Q (.bl true) H'
def spBents2 : Sp := fun vs H Q E => spBentN 2 vs H Q E ∨ spBentN 3 vs H Q E
theorem ok_law {f : Addr} {fd : FuncData} {k : Nat} (F : Fun K "law" "law" s_law f fd) (Z : Glb mg)
    (C_law_pool : Call P w K mg base k "_law_pool" ["script"] (spPool K))
    (C_law_draw : Call P w K mg base k "_law_draw" ["pool", "many"] spDraw)
    (C_law_row : Call P w K mg base k "_law_row" ["pool", "d"] spRow)
    (C_law_zeros : Call P w K mg base k "_law_zeros" ["row"] spZer)
    (C_law_prim : Call P w K mg base k "_law_prim" ["row"] spPrimK)
    (C_law_sumL : Call P w K mg base k "_law_sum" ["weights", "rows"] spLSmL)
    (Cfollowing_paper : Call P w K mg base k "following_paper" ["d", "rows", "inequality"] spFol)
    (Ccheck_following : Call P w K mg base k "check_following" ["d", "rows", "inequality", "value"] spChF)
    (Csatisfies : Call P w K mg base k "satisfies" ["rows", "point"] spSatL)
    (C_law_dot : Call P w K mg base k "_law_dot" ["v", "w"] spDot)
    (C_law_right : Call P w K mg base k "_law_right" ["d", "rows", "row", "value"] spLRF)
    (C_law_point : Call P w K mg base k "_law_point" ["pool", "d", "below"] spPointS)
    (C_law_bent : Call P w K mg base k "_law_bent" ["pool", "value"] spBents2)
    (C_law_same : Call P w K mg base k "_law_same" ["actual", "due"] (spSame 0)) : FnOk P w K mg base CX0 (k + 1) f fd ["script"] (spLaw K) := by
  refine F.ok sc_law (fun vs H Q E h => ?_) (fun cdv A outer s H vs Q E hr h => ?_)
  · obtain ⟨a, ns, rfl, _⟩ := h
    rfl
  · obtain ⟨sa, ns, rfl, hS, q⟩ := h
    refine ⟨_, (pss_cut (ps_set (i := 1) sc_law.nd rfl (.inr rfl) (pe_call C_law_pool.G hr (by rfl) C_law_pool.m C_law_pool.kp C_law_pool.b .nil pass0 (pa_cons (pv 0) pa_nil)))
      (pss_cut (ps_set (i := 2) sc_law.nd rfl (.inr rfl) (pe_op op_add pe_int (pe_call C_law_draw.G hr (by rfl) C_law_draw.m C_law_draw.kp C_law_draw.b .nil pass0 (pa_cons (pv 1) (pa_cons pe_int pa_nil)))))
      (pss_cut (ps_setLc (i := 3) (own := [("k", 12)]) (g := gName 12) (tt := tYes) (by rfl) sc_law.nd rfl rfl (sw_true rfl rfl rfl (by decide +kernel)) (pi_range1 rfl Z.m_range (pa_cons (pe_op op_add pe_int (pe_call C_law_draw.G hr (by rfl) C_law_draw.m C_law_draw.kp C_law_draw.b .nil pass0 (pa_cons (pv 1) (pa_cons pe_int pa_nil)))) pa_nil)) (blkOk_by (own := [("k", 12)]) (N := ["script", "pool", "d", "rows", "row", "total", "told", "values", "turn", "bent", "value", "point", "k", "other"]) (sc := defScope s_law) (by first | decide +kernel | kernel_rfl)) (fun _ _ _ _ _ => (pg_name (i := 12) sc_law.nd rfl (.inl rfl))) (fun _ _ _ _ _ => pts_nil) (fun _ _ _ _ _ => (pe_call C_law_row.G hr (by rfl) C_law_row.m C_law_row.kp C_law_row.b .nil pass0 (pa_cons (pv 1) (pa_cons (pv 2) pa_nil)))))
      (pss_cut (ps_set (i := 4) sc_law.nd rfl (.inl rfl) (pe_call C_law_row.G hr (by rfl) C_law_row.m C_law_row.kp C_law_row.b .nil pass0 (pa_cons (pv 1) (pa_cons (pv 2) pa_nil))))
      (pss_cut (ps_if (pt_cmpR op_eq (pe_call C_law_draw.G hr (by rfl) C_law_draw.m C_law_draw.kp C_law_draw.b .nil pass0 (pa_cons (pv 1) (pa_cons pe_int pa_nil))) pe_int (nomark _)) (pss_cut (ps_set (i := 5) sc_law.nd rfl (.inl rfl) (pe_callTy call_list_of (by rfl) Z.m_list (by decide +kernel) (pa_cons (pe_call C_law_sumL.G hr (by rfl) C_law_sumL.m C_law_sumL.kp C_law_sumL.b .nil pass0 (pa_cons (pe_lc (own := [("other", 13)]) (g := gName 13) (tt := tYes) (by rfl) sc_law.nd (pi_list (pv 3)) (blkOk_by (own := [("other", 13)]) (N := ["script", "pool", "d", "rows", "row", "total", "told", "values", "turn", "bent", "value", "point", "k", "other"]) (sc := defScope s_law) (by first | decide +kernel | kernel_rfl)) (fun _ _ _ _ _ => (pg_name (i := 13) sc_law.nd rfl (.inl rfl))) (fun _ _ _ _ _ => pts_nil) (fun _ _ _ _ _ => (pe_call C_law_draw.G hr (by rfl) C_law_draw.m C_law_draw.kp C_law_draw.b .nil pass0 (pa_cons (pv 1) (pa_cons pe_int pa_nil))))) (pa_cons (pv 3) pa_nil))) pa_nil)))
      (pss_cut (ps_asg (pe_op op_sub (pe_op op_add (pe_ix (r := rIxL K) ix_list (pv 5) pe_int (fun _ _ => rfl)) (pe_call C_law_draw.G hr (by rfl) C_law_draw.m C_law_draw.kp C_law_draw.b .nil pass0 (pa_cons (pv 1) (pa_cons pe_int pa_nil)))) (pe_callTy call_int1 (by rfl) Z.m_int (by decide +kernel) (pa_cons (pe_cmpR op_eq (pe_call C_law_draw.G hr (by rfl) C_law_draw.m C_law_draw.kp C_law_draw.b .nil pass0 (pa_cons (pv 1) (pa_cons pe_int pa_nil))) pe_int (nomark _)) pa_nil))) (pg_sub (pv 5) pe_int set_list))
      (pss_one (ps_if (pt_not (pt_val (pe_call C_law_zeros.G hr (by rfl) C_law_zeros.m C_law_zeros.kp C_law_zeros.b .nil pass0 (pa_cons (pe_slice (r := rSlL K) sl_list (pv 5) (po_some pe_int) po_none) pa_nil)))) (pss_one (ps_set (i := 4) sc_law.nd rfl (.inl rfl) (pe_call C_law_prim.G hr (by rfl) C_law_prim.m C_law_prim.kp C_law_prim.b .nil pass0 (pa_cons (pv 5) pa_nil)))) pss_nil)))) pss_nil)
      (pss_cut (ps_set (i := 6) sc_law.nd rfl (.inl rfl) (pe_call Cfollowing_paper.G hr (by rfl) Cfollowing_paper.m Cfollowing_paper.kp Cfollowing_paper.b .nil pass0 (pa_cons (pv 2) (pa_cons (pe_callTy call_list_of (by rfl) Z.m_list (by decide +kernel) (pa_cons (pv 3) pa_nil)) (pa_cons (pv 4) pa_nil)))))
      (pss_cut (ps_if (pt_not (pt_val (pe_call C_law_right.G hr (by rfl) C_law_right.m C_law_right.kp C_law_right.b .nil pass0 (pa_cons (pv 2) (pa_cons (pv 3) (pa_cons (pv 4) (pa_cons (pv 6) pa_nil))))))) (pss_one ps_never) pss_nil)
      (pss_cut (ps_set (i := 7) sc_law.nd rfl (.inl rfl) (pe_lst (pa_cons (pv 6) (pa_cons (pe_tup (pa_cons pe_str (pa_cons (pe_op (r := rCatA K) op_catA (pe_tup (pa_cons pe_int pa_nil)) (pe_op (r := rRepA K) op_repA (pe_tup (pa_cons pe_int pa_nil)) (pv 2))) pa_nil))) (pa_cons (pe_tup (pa_cons pe_str (pa_cons (pe_op (r := rRepA K) op_repA (pe_tup (pa_cons pe_int pa_nil)) (pe_callB call_len_seq (by rfl) Z.m_len PySem.boot_len (pa_cons (pv 3) pa_nil))) pa_nil))) (pa_cons (pe_tup (pa_cons pe_str (pa_cons (pe_op (r := rRepA K) op_repA (pe_tup (pa_cons pe_int pa_nil)) (pe_callB call_len_seq (by rfl) Z.m_len PySem.boot_len (pa_cons (pv 3) pa_nil))) (pa_cons pe_int (pa_cons pe_int pa_nil))))) (pa_cons (pe_tup pa_nil) pa_nil)))))))
      (pss_cut (ps_for PassesOwn.never rfl (pi_range1 rfl Z.m_range (pa_cons pe_int pa_nil)) (pg_name (i := 8) sc_law.nd rfl (.inl rfl)) (pss_cut (ps_set (i := 9) sc_law.nd rfl (.inl rfl) (pe_call C_law_bent.G hr (by rfl) C_law_bent.m C_law_bent.kp C_law_bent.b .nil pass0 (pa_cons (pv 1) (pa_cons (pv 6) pa_nil))))
      (pss_one (ps_set (i := 7) sc_law.nd rfl (.inl rfl) (pe_op op_cat (pv 7) (pe_lst (pa_cons (pv 9) (pa_cons (pe_call C_law_bent.G hr (by rfl) C_law_bent.m C_law_bent.kp C_law_bent.b .nil pass0 (pa_cons (pv 1) (pa_cons (pv 9) pa_nil))) (pa_cons (pe_tup (pa_cons pe_str (pa_cons (pe_call C_law_point.G hr (by rfl) C_law_point.m C_law_point.kp C_law_point.b .nil pass0 (pa_cons (pv 1) (pa_cons (pv 2) (pa_cons pe_int pa_nil)))) pa_nil))) pa_nil)))))))))
      (pss_cut (ps_for PassesOwn.never rfl (pi_list (pv 7)) (pg_name (i := 10) sc_law.nd rfl (.inl rfl)) (pss_one (ps_if (pt_not (pt_val (pe_call C_law_same.G hr (by rfl) C_law_same.m C_law_same.kp C_law_same.b .nil pass0 (pa_cons (pe_call Ccheck_following.G hr (by rfl) Ccheck_following.m Ccheck_following.kp Ccheck_following.b .nil pass0 (pa_cons (pv 2) (pa_cons (pe_callTy call_list_of (by rfl) Z.m_list (by decide +kernel) (pa_cons (pv 3) pa_nil)) (pa_cons (pv 4) (pa_cons (pv 10) pa_nil))))) (pa_cons (pe_call C_law_right.G hr (by rfl) C_law_right.m C_law_right.kp C_law_right.b .nil pass0 (pa_cons (pv 2) (pa_cons (pv 3) (pa_cons (pv 4) (pa_cons (pv 10) pa_nil))))) pa_nil))))) (pss_one ps_never) pss_nil)))
      (pss_cut (ps_for PassesOwn.never rfl (pi_range1 rfl Z.m_range (pa_cons pe_int pa_nil)) (pg_name (i := 8) sc_law.nd rfl (.inl rfl)) (pss_cut (ps_set (i := 11) sc_law.nd rfl (.inr rfl) (pe_call C_law_point.G hr (by rfl) C_law_point.m C_law_point.kp C_law_point.b .nil pass0 (pa_cons (pv 1) (pa_cons (pv 2) (pa_cons pe_int pa_nil)))))
      (pss_one (ps_if (pt_not (pt_val (pe_call C_law_same.G hr (by rfl) C_law_same.m C_law_same.kp C_law_same.b .nil pass0 (pa_cons (pe_call Csatisfies.G hr (by rfl) Csatisfies.m Csatisfies.kp Csatisfies.b .nil pass0 (pa_cons (pe_callTy call_list_of (by rfl) Z.m_list (by decide +kernel) (pa_cons (pv 3) pa_nil)) (pa_cons (pv 11) pa_nil))) (pa_cons (pe_cmpR op_eq (pe_callB call_len_seq (by rfl) Z.m_len PySem.boot_len (pa_cons (pe_lc (own := [("other", 13)]) (g := gName 13) (by rfl) sc_law.nd (pi_list (pv 3)) (blkOk_by (own := [("other", 13)]) (N := ["script", "pool", "d", "rows", "row", "total", "told", "values", "turn", "bent", "value", "point", "k", "other"]) (sc := defScope s_law) (by first | decide +kernel | kernel_rfl)) (fun _ _ _ _ _ => (pg_name (i := 13) sc_law.nd rfl (.inl rfl))) (fun _ _ _ _ _ => (pts_one (pt_cmpR op_lt (pe_call C_law_dot.G hr (by rfl) C_law_dot.m C_law_dot.kp C_law_dot.b .nil pass0 (pa_cons (pv 13) (pa_cons (pv 11) pa_nil))) pe_int (nomark _)))) (fun _ _ _ _ _ => (pv 13))) pa_nil)) pe_int (nomark _)) pa_nil))))) (pss_one ps_never) pss_nil))))
      (pss_one (ps_ret pe_bl))))))))))))), ?_⟩
    -- pool
    refine ⟨fun σ H' => ∃ p, σ = [some (.ref sa), some (.ref p), none, none, none, none, none, none, none, none, none, none, none, none] ∧ Pl H' p, ⟨_, rfl, sa, ns, rfl, hS, fun H1 p s1 np hP1 => ⟨p, rfl, hP1⟩⟩, ?_⟩
    rintro σ H1 ⟨p, rfl, P1⟩
    -- d
    refine ⟨fun σ H' => ∃ d : Nat, σ = [some (.ref sa), some (.ref p), some (.int (d : Int)), none, none, none, none, none, none, none, none, none, none, none] ∧ Pl H' p ∧ 1 ≤ d ∧ d ≤ 3, ?_, ?_⟩
    · refine ⟨_, rfl, p, _, rfl, by decide, by decide, P1, fun v0 H2 l0 u0 P2 B2 => ⟨_, _, rfl, rfl, ?_⟩⟩
      obtain ⟨dn, rfl⟩ := Int.eq_ofNat_of_zero_le l0
      show gName 2 (V.int (1 + (dn : Int))) _ _ _
      rw [show (1 + (dn : Int)) = ((dn + 1 : Nat) : Int) by omega]
      exact ⟨dn + 1, rfl, P2, by omega, by omega⟩
    rintro σ H2 ⟨d, rfl, P2, d1, d3⟩
    -- rows
    refine ⟨fun σ H' => ∃ (ra : Addr) (M : List (List Int)), σ = [some (.ref sa), some (.ref p), some (.int (d : Int)), some (.ref ra), none, none, none, none, none, none, none, none, none, none] ∧ Pl H' p ∧ ra ≠ p ∧ VL H' ra M ∧ 1 ≤ M.length ∧ M.length ≤ 6 ∧ ∀ v ∈ M, GR d v, ?_, ?_⟩
    · refine ⟨_, rfl, p, _, rfl, by decide, by decide, P2, fun n H3 n0 n1 P3 B3 => ⟨_, _, rfl, rfl, _, rfl, by omega, by omega, fun D nD => ?_⟩⟩
      obtain ⟨n', rfl⟩ := Int.eq_ofNat_of_zero_le n0
      rw [show ((1 : Int) + ((n' : Nat) : Int)).toNat = n' + 1 by omega]
      have nDp : D ≠ p := ne_pool P3 nD
      refine lc_range (lo := 0) (n := n' + 1) (DrR (fun H v r => Vc H r v ∧ GR d v) p H3 D) (drR0 P3 nD) (fun i H' hi hX => ?_) (fun H' hX => ?_)
      · obtain ⟨q0, _, hq0, _⟩ := hX.1
        refine ⟨rfl, ?_⟩
        unfold tYes
        refine iteT ?_
        refine ⟨_, rfl, _, rfl, p, d, rfl, d1, by omega, hq0.pl, fun H4 r v P4 K4 v4 g4 => ?_⟩
        obtain ⟨acc, h1, h2, h3⟩ := drR_step (ys := v.map V.int) (fun Ha Hb f r hk h => ⟨hk _ h.1, h.2⟩) nD P3 hX K4 P4 v4 ⟨v4, g4⟩
        exact ⟨acc, h1, small1000 (by omega), h3⟩
      · obtain ⟨M, hV, hl, hg⟩ := drR_ls hX
        obtain ⟨q0, _, hq0, _⟩ := hX.1
        exact ⟨D, M, rfl, hq0.pl, nDp, hV, by omega, by omega, hg⟩
    rintro σ H3 ⟨ra, M, rfl, P3, nra, hV, m1, m6, hg⟩
    -- the inequality
    refine ⟨fun σ H' => ∃ (ia : Addr) (row : List Int), σ = [some (.ref sa), some (.ref p), some (.int (d : Int)), some (.ref ra), some (.ref ia), none, none, none, none, none, none, none, none, none] ∧ Pl H' p ∧ VL H' ra M ∧ Vc H' ia row ∧ row.length = d + 1 ∧ Lim 8 row, ⟨_, rfl, _, rfl, p, d, rfl, d1, by omega, P3, fun H4 r v P4 K4 v4 g4 => ⟨r, v, rfl, P4, hV.kp P3 nra K4.k, v4, g4.1, g4.lim.up (by decide)⟩⟩, ?_⟩
    rintro σ H4 ⟨ia, row, rfl, P4, hV4, hi4, li, bi⟩
    -- a sum of rows
    refine ⟨fun σ H' => ∃ (ia : Addr) (row : List Int) (y5 : Option V), σ = [some (.ref sa), some (.ref p), some (.int (d : Int)), some (.ref ra), some (.ref ia), y5, none, none, none, none, none, none, none, none] ∧ Pl H' p ∧ VL H' ra M ∧ Vc H' ia row ∧ row.length = d + 1 ∧ Lim 8 row, ?_, ?_⟩
    · refine ⟨_, rfl, p, _, rfl, by decide, by decide, P4, fun n H5 n0 n1 P5 B5 => ⟨rfl, _, rfl, ite2 (fun _ => ?_) (fun _ => ⟨ia, row, none, rfl, P5, hV4.kp P4 nra B5.keep, B5.keep _ _ (P4.ne hi4) hi4, li, bi⟩)⟩⟩
      have hV5 := hV4.kp P4 nra B5.keep
      have hi5 := B5.keep _ _ (P4.ne hi4) hi4
      obtain ⟨rs5, er5, rl5, rg5⟩ := id hV5
      refine ⟨fun σ H' => ∃ (ta : Addr) (ts : List Int) (H0 : Hp), σ = [some (.ref sa), some (.ref p), some (.int (d : Int)), some (.ref ra), some (.ref ia), some (.ref ta), none, none, none, none, none, none, none, none] ∧ Pl H0 p ∧ VL H0 ra M ∧ Vc H0 ia row ∧ H0 ta = none ∧ Kp p H0 H' ∧ ta ≠ p ∧ (∃ q0, Plq H' p q0 ∧ q0 ≠ ta) ∧ H' ta = some (.lst (ts.map V.int)) ∧ ts.length = d + 1 ∧ ∀ x ∈ ts, x.natAbs ≤ 36, ?_, ?_⟩
      · refine ⟨_, rfl, ra, rfl, ⟨_, SqL.of er5⟩, fun D nD => ?_⟩
        refine lc_list (xs := rs5.map V.ref) (DrP (fun x => x.natAbs ≤ 2) p H5 D) (drP0 P5 nD) (fun i H' _ hP => SqL.of (hP.kp.k _ _ nra er5)) (fun i x H9 hx hX => ?_) (fun H9 hX => ?_)
        · have hi := lt_of_get hx
          rw [List.length_map, rl5] at hi
          refine ⟨rfl, ?_⟩
          unfold tYes
          refine iteT ?_
          refine ⟨_, rfl, p, _, rfl, by decide, by decide, hX.pt, fun n H10 l8 u8 P10 B10 => ?_⟩
          obtain ⟨acc, h1, h2, h3⟩ := drP_step (n := n) nD P5 hX B10.kp P10 (by omega)
          exact ⟨acc, h1, small1000 (by omega), h3⟩
        · obtain ⟨ws, eD, hlen, hB⟩ := hX.ls
          rw [List.length_map, rl5] at hlen
          have K9 := hX.kp
          have P9 := hX.pt
          have hV9 := hV5.kp P5 nra K9.k
          refine ⟨_, rfl, D, ra, ws, M, d + 1, rfl, eD, hV9, hlen, m1, by omega, fun v hv => (hg v hv).1, by omega, fun x hx => Nat.lt_of_le_of_lt (hB x hx) (Nat.lt_of_lt_of_le (by decide : 2 < 2 ^ 2) (Nat.pow_le_pow_right (by decide) (by decide))), fun v hv x hx => Nat.lt_of_le_of_lt ((hg v hv).2 x hx) (Nat.lt_of_lt_of_le (by decide : 3 < 2 ^ 2) (Nat.pow_le_pow_right (by decide) (by decide))), fun H10 r10 s10 h10 => ?_⟩
          have bS : ∀ x ∈ lsum (d + 1) ws M, x.natAbs ≤ 36 := fun x hx => by
            unfold lsum at hx
            obtain ⟨j, _, rfl⟩ := List.mem_map.mp hx
            unfold cb
            have := sm_lim (f := fun k => en ws k * en (M.getD k []) j) (C := 6) (n := M.length) fun k hk => by
              rw [Int.natAbs_mul]
              have h1 : (en ws k).natAbs ≤ 2 := hB _ (en_mem (by omega))
              have h2 : (en (M.getD k []) j).natAbs ≤ 3 := by
                have := en_lim (l := M.getD k []) (M := 4) (fun x hx => by have := (hg _ (getD_memM hk)).2 x hx; omega) (by decide) j
                omega
              exact Nat.mul_le_mul h1 h2
            omega
          refine ⟨_, _, rfl, .inr (SqT.of h10), fun l nl => ?_⟩
          have sl := same_upd (o := .lst ((lsum (d + 1) ws M).map V.int)) nl
          have P10 := P9.same s10
          obtain ⟨q0, hq0⟩ := id P10
          have nq : q0 ≠ l := by
            obtain ⟨_, _, _, _, _, _, e, _⟩ := hq0
            exact fun z => by rw [z, nl] at e; cases e
          exact ⟨l, _, H10, rfl, P10, hV9.same s10, s10 _ _ (K9.k _ _ (P5.ne hi5) hi5), nl, Same.kp sl, ne_pool P10 nl, ⟨q0, Plq.same hq0 sl, nq⟩, upd_same, lsum_len .., bS⟩
      rintro σ H6 ⟨ta, ts, H0, rfl, P0, hV0, hi0, nt, K6, ntp, ⟨q0, hq0, nq0⟩, et, lt, bt⟩
      refine ⟨fun σ H' => ∃ (ts : List Int), σ = [some (.ref sa), some (.ref p), some (.int (d : Int)), some (.ref ra), some (.ref ia), some (.ref ta), none, none, none, none, none, none, none, none] ∧ Kp p H0 H' ∧ Pl H' p ∧ H' ta = some (.lst (ts.map V.int)) ∧ ts.length = d + 1 ∧ ∀ x ∈ ts, x.natAbs ≤ 40, ?_, ?_⟩
      · refine ⟨_, rfl, _, _, _, _, rfl, rfl, SqL.of et, atI_en (j := 0) (by omega), _, rfl, p, _, rfl, by decide, by decide, hq0.pl, fun n1 H7 a1 b1 P7 B7 => ⟨_, _, rfl, rfl, _, rfl, p, _, rfl, by decide, by decide, P7, fun n2 H8 a2 b2 P8 B8 => ⟨rfl, .inr ⟨_, rfl, _, _, rfl, rfl, ?_⟩⟩⟩⟩
        have he : (if decide (V.int n2 = V.int 0) = true then (1 : Int) else 0).natAbs ≤ 1 := by split <;> decide
        generalize (if decide (V.int n2 = V.int 0) = true then (1 : Int) else 0) = e at *
        have K8 := (K6.trans B7.kp).trans B8.kp
        have el8 := B8.keep _ _ ntp (B7.keep _ _ ntp et)
        refine ⟨_, rfl, ta, _, _, 0, rfl, rfl, el8, ixNs (j := 0) (by rw [List.length_map]; omega), ts.set 0 (en ts 0 + n1 - e), rfl, ?_⟩
        have hq8 := (hq0.kp B7.kp P7).kp B8.kp P8
        obtain ⟨_, P9⟩ : ∃ q0, Plq (upd H8 ta (.lst ((ts.map V.int).set 0 (.int (en ts 0 + n1 - e))))) p q0 := ⟨q0, hq8.upd ntp.symm nq0⟩
        refine ⟨⟨fun x o hx ho => by rw [upd_ne (ne_of_none ho nt)]; exact K8.k _ _ hx ho, fun q1 h1 => ?_⟩, P9.pl, by rw [upd_same, List.map_set], by rw [List.length_set]; exact lt, fun x hx => ?_⟩
        · obtain ⟨l', e'⟩ := K8.h q1 h1
          exact ⟨l', by rw [upd_ne ntp.symm]; exact e'⟩
        · rcases List.mem_or_eq_of_mem_set hx with h | rfl
          · have := bt x h
            omega
          · have := bt _ (en_mem (v := ts) (c := 0) (by omega))
            omega
      rintro σ H8 ⟨ts, rfl, K8, P8, et, lt, bt⟩
      have hV8 := hV0.kp P0 nra K8.k
      have hi8 := K8.k _ _ (P0.ne hi0) hi0
      refine ⟨_, rfl, _, rfl, ?_⟩
      unfold tNoPart
      refine ⟨ta, _, rfl, SqL.of et, fun c nc => ?_⟩
      have sc := same_upd (o := .lst (cutV (ts.map V.int) (some 1) none)) nc
      have ec : (upd H8 c (.lst (cutV (ts.map V.int) (some 1) none))) c = some (.lst ((ts.drop 1).map V.int)) := by
        rw [upd_same, show (1 : Int) = ((1 : Nat) : Int) from rfl, cut_drop, List.map_drop]
      generalize upd H8 c (.lst (cutV (ts.map V.int) (some 1) none)) = H9 at *
      refine ⟨false, c, ts.drop 1, rfl, ec, by rw [List.length_drop]; omega, fun H10 t s10 ht => ⟨t, rfl, ?_⟩⟩
      have s8 := sc.trans s10
      cases t with
      | true => exact iteF ⟨ia, row, _, rfl, P8.same s8, hV8.same s8, s8 _ _ hi8, li, bi⟩
      | false =>
        refine iteT ⟨_, rfl, false, ta, ts, rfl, s8 _ _ et, by omega, fun x hx => Nat.lt_of_le_of_lt (bt x hx) (Nat.lt_of_lt_of_le (by decide : 40 < 2 ^ 6) (Nat.pow_le_pow_right (by decide) (by decide))), fun H11 r11 s11 h11 => ⟨r11, prim ts, _, rfl, P8.same (s8.trans s11), hV8.same (s8.trans s11), h11, by rw [prim_len, lt], fun x hx => Nat.lt_of_le_of_lt (prim_small bt x hx) (by decide)⟩⟩
    clear hi4 li bi hV4
    clear row ia
    rintro σ H5 ⟨ia, row, y5, rfl, P5, hV5, hi5, li, bi⟩
    have C0 : ∀ {H' : Hp} {a : Addr}, VL H' a M → Sys H' a d M := fun h1 => ⟨h1, fun v hv => (hg v hv).1, fun v hv => (hg v hv).lim.up (by decide), m1, by omega, d1, by omega⟩
    have copy : ∀ {H' : Hp} {l : Addr} {rs : List Addr}, VL H' ra M → H' ra = some (.lst (rs.map V.ref)) → H' l = none → VL (upd H' l (.lst (rs.map V.ref))) l M := fun {H' l rs} h e nl => by
      obtain ⟨rs', e', l1, g⟩ := h.same (same_upd (o := .lst (rs.map V.ref)) nl)
      have e2 := same_upd (o := .lst (rs.map V.ref)) nl _ _ e
      rw [e2] at e'
      injection e' with e'
      injection e' with e'
      have : rs = rs' := List.map_inj_right (fun x y z => by cases z; rfl) |>.mp e'
      subst this
      exact ⟨rs, upd_same, l1, g⟩
    obtain ⟨rs5, er5, rl5, rg5⟩ := id hV5
    -- told
    refine ⟨fun σ H' => ∃ ta : Addr, σ = [some (.ref sa), some (.ref p), some (.int (d : Int)), some (.ref ra), some (.ref ia), y5, some (.ref ta), none, none, none, none, none, none, none] ∧ Same H5 H' ∧ FolP d M row H' (.ref ta) ∧ Dt p H' 300 2 (.ref ta), ?_, ?_⟩
    · refine ⟨_, rfl, _, rfl, ra, _, rfl, .inl (SqL.of er5), fun l nl => ?_⟩
      have sl := same_upd (o := .lst (rs5.map V.ref)) nl
      exact ⟨_, rfl, d, l, ia, M, row, rfl, C0 (copy hV5 er5 nl), hi5.same sl, li, by omega, fun v hv => (hg v hv).lim.up (by decide), bi.up (by decide), fun H6 r6 s6 hc hd => ⟨r6, rfl, sl.trans s6, hc, hd (fun v hv => (hg v hv).lim.up (by decide)) bi p⟩⟩
    rintro σ H6 ⟨ta, rfl, s6, hc, hd⟩
    have P6 := P5.same s6
    have hV6 := hV5.same s6
    have hi6 := hi5.same s6
    -- told is right
    refine ⟨fun σ H' => σ = [some (.ref sa), some (.ref p), some (.int (d : Int)), some (.ref ra), some (.ref ia), y5, some (.ref ta), none, none, none, none, none, none, none] ∧ Same H6 H', ?_, ?_⟩
    · refine ⟨_, rfl, _, rfl, _, rfl, _, rfl, d, ra, ia, M, row, .ref ta, p, 300, 2, rfl, C0 hV6, hi6, li, bi.up (by decide), hd, by decide, fun H7 b s7 hb => ?_⟩
      have : b = true := hb.mpr hc
      subst this
      exact ⟨true, rfl, iteF ⟨rfl, s7⟩⟩
    rintro σ H9 ⟨rfl, s9⟩
    have P9 := P6.same s9
    have hV9 := hV6.same s9
    have hi9 := hi6.same s9
    have hd9 := hd.same s9
    -- values
    refine ⟨fun σ H' => ∃ (la : Addr) (xs : List V), σ = [some (.ref sa), some (.ref p), some (.int (d : Int)), some (.ref ra), some (.ref ia), y5, some (.ref ta), some (.ref la), none, none, none, none, none, none] ∧ Same H9 H' ∧ H' la = some (.lst xs) ∧ la ≠ p ∧ xs.length = 5 ∧ ∀ x ∈ xs, Dt p H' 302 4 x, ?_, ?_⟩
    · refine ⟨_, rfl, (show 1 ≤ sizeLine by decide), fun z nz => ⟨(show 1 ≤ sizeLine by decide), fun z2 nz2 => ⟨_, rfl, ?_⟩⟩⟩
      have sA := same_upd (o := .tup [.int 1]) nz
      have hz := upd_same (H := H9) (a := z) (o := .tup [.int 1])
      generalize upd H9 z (.tup [.int 1]) = Ha at *
      have sB := same_upd (o := .tup [.int 0]) nz2
      have hz2 := upd_same (H := Ha) (a := z2) (o := .tup [.int 0])
      have hz := sB _ _ hz
      have sB := sA.trans sB
      generalize upd Ha z2 (.tup [.int 0]) = Hb at *
      refine rep_hx (d := d) hz2 d1 (by omega) fun Hc na sc ha => ?_
      refine cat_h (sc _ _ hz) ha (by rw [List.length_map, List.length_replicate]; show 1 + d ≤ 1000; omega) fun Hd r1 sd h1 => ⟨(show 2 ≤ sizeLine by decide), fun t1 n1 => ⟨(show 1 ≤ sizeLine by decide), fun z3 nz3 => ?_⟩⟩
      have sC := sB.trans (sc.trans sd)
      have h1 : Vc Hd r1 (1 :: List.replicate d 0) := h1
      have se := same_upd (o := .tup [.str "no", .ref r1]) n1
      have ht1 := upd_same (H := Hd) (a := t1) (o := .tup [.str "no", .ref r1])
      have h1 := h1.same se
      have sC := sC.trans se
      generalize upd Hd t1 (.tup [.str "no", .ref r1]) = He at *
      have se := same_upd (o := .tup [.int 1]) nz3
      have hz3 := upd_same (H := He) (a := z3) (o := .tup [.int 1])
      have h1 := h1.same se
      have ht1 := se _ _ ht1
      have sC := sC.trans se
      generalize upd He z3 (.tup [.int 1]) = Hf at *
      obtain ⟨rs8, er8, rl8, _⟩ := hV9.same sC
      refine ⟨_, rfl, ra, _, rfl, .inl (SqL.of er8), ?_⟩
      rw [List.length_map, rl8]
      refine rep_hx (d := M.length) hz3 m1 (by omega) fun Hg n2 sg h2 => ⟨(show 2 ≤ sizeLine by decide), fun t2 nt2 => ⟨(show 1 ≤ sizeLine by decide), fun z4 nz4 => ?_⟩⟩
      have sC := sC.trans sg
      have h1 := h1.same sg
      have ht1 := sg _ _ ht1
      have se := same_upd (o := .tup [.str "none", .ref n2]) nt2
      have ht2 := upd_same (H := Hg) (a := t2) (o := .tup [.str "none", .ref n2])
      have h1 := h1.same se
      have h2 := h2.same se
      have ht1 := se _ _ ht1
      have sC := sC.trans se
      generalize upd Hg t2 (.tup [.str "none", .ref n2]) = Hh at *
      have se := same_upd (o := .tup [.int 1]) nz4
      have hz4 := upd_same (H := Hh) (a := z4) (o := .tup [.int 1])
      have h1 := h1.same se
      have h2 := h2.same se
      have ht1 := se _ _ ht1
      have ht2 := se _ _ ht2
      have sC := sC.trans se
      generalize upd Hh z4 (.tup [.int 1]) = Hi at *
      obtain ⟨rs9, er9, rl9, _⟩ := hV9.same sC
      refine ⟨_, rfl, ra, _, rfl, .inl (SqL.of er9), ?_⟩
      rw [List.length_map, rl9]
      refine rep_hx (d := M.length) hz4 m1 (by omega) fun Hj n3 sg h3 => ⟨(show 4 ≤ sizeLine by decide), fun t3 nt3 => ⟨Nat.zero_le _, fun t4 nt4 => ⟨(show 5 ≤ sizeLine by decide), fun la nv => ?_⟩⟩⟩
      have sC := sC.trans sg
      have h1 := h1.same sg
      have h2 := h2.same sg
      have ht1 := sg _ _ ht1
      have ht2 := sg _ _ ht2
      have s3 := same_upd (o := .tup [.str "yes", .ref n3, .int 1, .int 0]) nt3
      have s4 := same_upd (o := .tup []) nt4
      have s5 := same_upd (o := .lst [.ref ta, .ref t1, .ref t2, .ref t3, .ref t4]) nv
      have hE := s3.trans (s4.trans s5)
      have ht3 := s5 _ _ (s4 _ _ (upd_same (H := Hj) (a := t3) (o := .tup [.str "yes", .ref n3, .int 1, .int 0])))
      have ht4 := s5 _ _ (upd_same (H := upd Hj t3 (.tup [.str "yes", .ref n3, .int 1, .int 0])) (a := t4) (o := .tup []))
      have sD := sC.trans hE
      refine ⟨la, _, rfl, sD, upd_same, ne_pool (P9.same (sC.trans (s3.trans s4))) nv, rfl, fun x hx => ?_⟩
      have ones : ∀ {n : Nat} {x : Int}, x ∈ List.replicate n (1 : Int) → x.natAbs < 2 ^ 302 := fun hx => by
        rw [List.eq_of_mem_replicate hx]
        exact Nat.one_lt_two_pow (by decide)
      rcases List.mem_cons.mp hx with rfl | hx
      · exact (hd9.same sD).up (by decide) (by decide)
      rcases List.mem_cons.mp hx with rfl | hx
      · refine .tup (hE _ _ ht1) (by show 2 ≤ 302; decide) fun y hy => ?_
        rcases List.mem_cons.mp hy with rfl | hy
        · exact .str _ _
        · rw [List.mem_singleton.mp hy]
          exact dt_vec (h1.same hE) (by rw [List.length_cons, List.length_replicate]; omega) fun x hx => by
            rcases List.mem_cons.mp hx with rfl | hx
            · exact Nat.one_lt_two_pow (by decide)
            · rw [List.eq_of_mem_replicate hx]
              exact Nat.pow_pos (by decide)
      rcases List.mem_cons.mp hx with rfl | hx
      · refine .tup (hE _ _ ht2) (by show 2 ≤ 302; decide) fun y hy => ?_
        rcases List.mem_cons.mp hy with rfl | hy
        · exact .str _ _
        · rw [List.mem_singleton.mp hy]
          exact dt_vec (h2.same hE) (by rw [List.length_replicate]; omega) fun x hx => ones hx
      rcases List.mem_cons.mp hx with rfl | hx
      · refine .tup ht3 (by show 4 ≤ 302; decide) fun y hy => ?_
        rcases List.mem_cons.mp hy with rfl | hy
        · exact .str _ _
        rcases List.mem_cons.mp hy with rfl | hy
        · exact dt_vec (h3.same hE) (by rw [List.length_replicate]; omega) fun x hx => ones hx
        rcases List.mem_cons.mp hy with rfl | hy
        · exact .int _ _ (Nat.one_lt_two_pow (by decide))
        · rw [List.mem_singleton.mp hy]
          exact .int _ _ (Nat.pow_pos (by decide))
      · rw [List.mem_singleton.mp hx]
        exact .tup ht4 (Nat.zero_le _) fun y hy => nomatch hy
    rintro σ H10 ⟨la, xs, rfl, s10, eva, nvp, lxs, hxs⟩
    have P10 := P9.same s10
    have hV10 := hV9.same s10
    have hi10 := hi9.same s10
    have hd10 := hd9.same s10
    -- bent papers
    refine ⟨fun σ H' => ∃ (la : Addr) (xs : List V) (y8 y9 : Option V), σ = [some (.ref sa), some (.ref p), some (.int (d : Int)), some (.ref ra), some (.ref ia), y5, some (.ref ta), some (.ref la), y8, y9, none, none, none, none] ∧ Pl H' p ∧ VL H' ra M ∧ Vc H' ia row ∧ H' la = some (.lst xs) ∧ la ≠ p ∧ xs.length ≤ 30 ∧ ∀ x ∈ xs, Dt p H' 302 4 x, ?_, ?_⟩
    · refine ⟨5, rfl, by decide, by decide, ?_⟩
      refine for_range (lo := 0) (n := 5) (fun i σ H' => ∃ (la : Addr) (xs : List V) (y8 y9 : Option V), σ = [some (.ref sa), some (.ref p), some (.int (d : Int)), some (.ref ra), some (.ref ia), y5, some (.ref ta), some (.ref la), y8, y9, none, none, none, none] ∧ Pl H' p ∧ VL H' ra M ∧ Vc H' ia row ∧ Dt p H' 300 2 (.ref ta) ∧ H' la = some (.lst xs) ∧ la ≠ p ∧ xs.length ≤ 5 + 3 * i ∧ ∀ x ∈ xs, Dt p H' 302 4 x) ⟨la, xs, none, none, rfl, P10, hV10, hi10, hd10, eva, nvp, by omega, hxs⟩ (fun i σ H' hi hW => ?_) (fun σ H' hW => ?_)
      · obtain ⟨la, xs, y8, y9, rfl, P12, hV12, hi12, hd12, eva, nvp, lxs, hxs⟩ := hW
        rw [show (0 : Int) + (i : Int) = ((i : Nat) : Int) from Int.zero_add _]
        refine ⟨fun σ H2 => ∃ v : V, σ = [some (.ref sa), some (.ref p), some (.int (d : Int)), some (.ref ra), some (.ref ia), y5, some (.ref ta), some (.ref la), some (.int (i : Int)), some v, none, none, none, none] ∧ Pl H2 p ∧ Keep p H' H2 ∧ Dt p H2 301 3 v, ⟨_, rfl, _, rfl, .inl ⟨p, .ref ta, 300, rfl, P12, hd12, by decide, by decide, fun H2 v P2 K2 d2 => ⟨v, rfl, P2, K2, d2⟩⟩⟩, ?_⟩
        rintro σ H2 ⟨v, rfl, P2, K2, d2⟩
        refine ⟨_, rfl, _, rfl, _, rfl, _, rfl, .inr ⟨p, v, 301, rfl, P2, d2, by decide, by decide, fun H3 v2 P3 K3 d3 => ?_⟩⟩
        have K13 := K2.trans K3
        refine ⟨_, rfl, _, rfl, p, d, 3, rfl, by omega, by decide, by decide, P3, fun H9 u vs P9' K9' hu hG => ⟨(show 2 ≤ sizeLine by decide), fun t3 n3 => ⟨(show 3 ≤ sizeLine by decide), fun l2 nl2 => ?_⟩⟩⟩
        have s3' := same_upd (o := .tup [.str "no", .ref u]) n3
        have s4 := same_upd (o := .lst [v, v2, .ref t3]) nl2
        have hl := s4 _ _ (s3' _ _ hu)
        have h3 := s4 _ _ (upd_same (H := H9) (a := t3) (o := .tup [.str "no", .ref u]))
        have el := upd_same (H := upd H9 t3 (.tup [.str "no", .ref u])) (a := l2) (o := .lst [v, v2, .ref t3])
        have sE := s3'.trans s4
        have P14 := P9'.same sE
        have K39 : Keep p H3 (upd (upd H9 t3 (.tup [.str "no", .ref u])) l2 (.lst [v, v2, .ref t3])) := K9'.k.trans (Same.keep sE)
        generalize upd (upd H9 t3 (.tup [.str "no", .ref u])) l2 (.lst [v, v2, .ref t3]) = H14 at *
        have K14 := K13.trans K39
        refine ⟨la, l2, _, _, rfl, rfl, K14 _ _ nvp eva, el, by show xs.length + 3 ≤ _; exact Nat.le_of_lt (small1000 (by omega)), fun c nc => ?_⟩
        have sc := same_upd (o := .lst (xs ++ [v, v2, .ref t3])) nc
        have K15 := K14.trans (Same.keep sc)
        have K35 := K39.trans (Same.keep sc)
        refine ⟨c, xs ++ [v, v2, .ref t3], _, _, rfl, P14.same sc, hV12.kp P12 nra K15, K15 _ _ (P12.ne hi12) hi12, hd12.keep P12 K15, upd_same, ne_pool P14 nc, by rw [List.length_append]; show xs.length + 3 ≤ _; omega, fun x hx => ?_⟩
        rcases List.mem_append.mp hx with hx | hx
        · exact (hxs x hx).keep P12 K15
        rcases List.mem_cons.mp hx with rfl | hx
        · exact (d2.keep P2 (K3.trans K35)).up (by decide) (by decide)
        rcases List.mem_cons.mp hx with rfl | hx
        · exact d3.keep P3 K35
        · rw [List.mem_singleton.mp hx]
          refine .tup (sc _ _ h3) (by show 2 ≤ 302; decide) fun y hy => ?_
          rcases List.mem_cons.mp hy with rfl | hy
          · exact .str _ _
          · rw [List.mem_singleton.mp hy]
            exact dt_vec (sc _ _ hl) (by rw [hG.1]; omega) fun x hx => Nat.lt_of_le_of_lt (hG.2.1 x hx) (Nat.lt_of_lt_of_le (by decide : 6 < 2 ^ 3) (Nat.pow_le_pow_right (by decide) (by decide)))
      · obtain ⟨la, xs, y8, y9, rfl, P12, hV12, hi12, hd12, eva, nvp, lxs, hxs⟩ := hW
        exact ⟨la, xs, y8, y9, rfl, P12, hV12, hi12, eva, nvp, by omega, hxs⟩
    rintro σ H12 ⟨la, xs, y8, y9, rfl, P12, hV12, hi12, eva, nvp, lxs, hxs⟩
    refine ⟨fun σ H' => Same H12 H' ∧ ∃ y10 : Option V, σ = [some (.ref sa), some (.ref p), some (.int (d : Int)), some (.ref ra), some (.ref ia), y5, some (.ref ta), some (.ref la), y8, y9, y10, none, none, none], ?_, ?_⟩
    · refine ⟨_, rfl, la, rfl, ⟨_, SqL.of eva⟩, ?_⟩
      refine for_list (xs := xs) (fun i σ H' => Same H12 H' ∧ ∃ y10 : Option V, σ = [some (.ref sa), some (.ref p), some (.int (d : Int)), some (.ref ra), some (.ref ia), y5, some (.ref ta), some (.ref la), y8, y9, y10, none, none, none]) ⟨Same.refl _, _, rfl⟩ (fun i σ H' _ hW => SqL.of (hW.1 _ _ eva)) (fun i x σ H' hx hW => ?_) (fun σ H' hW => hW)
      obtain ⟨sW, y10, rfl⟩ := hW
      have dx := (hxs x (List.mem_of_getElem? hx)).same sW
      have hV13 := hV12.same sW
      have hi13 := hi12.same sW
      obtain ⟨rs13, er13, rl13, _⟩ := id hV13
      refine ⟨_, rfl, _, rfl, ra, _, rfl, .inl (SqL.of er13), fun l nl => ?_⟩
      have sl := same_upd (o := .lst (rs13.map V.ref)) nl
      refine ⟨_, rfl, _, rfl, d, l, ia, M, row, x, p, 302, 4, rfl, C0 (copy hV13 er13 nl), hi13.same sl, li, bi.up (by decide), dx.same sl, by decide, fun H14 b s14 hb => ?_⟩
      have s1 := sl.trans s14
      refine ⟨_, rfl, _, rfl, _, rfl, _, rfl, d, ra, ia, M, row, x, p, 302, 4, rfl, C0 (hV13.same s1), hi13.same s1, li, bi.up (by decide), dx.same s1, by decide, fun H15 b2 s15 hb2 => ?_⟩
      have e : b = b2 := by
        have h1 : b = true ↔ FolP d M row (upd H' l (.lst (rs13.map V.ref))) x := hb
        have i1 : FolP d M row (upd H' l (.lst (rs13.map V.ref))) x ↔ FolP d M row H' x := ⟨fun h => h.back sl dx, fun h => h.same sl⟩
        have i2 : FolP d M row H14 x ↔ FolP d M row H' x := ⟨fun h => h.back s1 dx, fun h => h.same s1⟩
        have : b = true ↔ b2 = true := h1.trans (i1.trans (i2.symm.trans hb2.symm))
        cases b <;> cases b2 <;> simp at this <;> rfl
      subst e
      refine ⟨_, _, rfl, .bl _ _, _, rfl, iteF ⟨sW.trans (s1.trans s15), _, rfl⟩⟩
    rintro σ H16 ⟨s16, y10, rfl⟩
    have P16 := P12.same s16
    have hV16 := hV12.same s16
    -- points
    refine ⟨fun σ H' => True, ?_, fun σ H' _ => q _⟩
    refine ⟨4, rfl, by decide, by decide, ?_⟩
    refine for_range (lo := 0) (n := 4) (fun i σ H' => ∃ (y8 y11 : Option V), σ = [some (.ref sa), some (.ref p), some (.int (d : Int)), some (.ref ra), some (.ref ia), y5, some (.ref ta), some (.ref la), y8, y9, y10, y11, none, none] ∧ Pl H' p ∧ VL H' ra M) ⟨y8, none, rfl, P16, hV16⟩ (fun i σ H' hi hW => ?_) (fun σ H' hW => trivial)
    obtain ⟨z8, y11, rfl, P17, hV17⟩ := hW
    rw [show (0 : Int) + (i : Int) = ((i : Nat) : Int) from Int.zero_add _]
    refine ⟨fun σ H2 => ∃ (u : Addr) (ns : List Int), σ = [some (.ref sa), some (.ref p), some (.int (d : Int)), some (.ref ra), some (.ref ia), y5, some (.ref ta), some (.ref la), some (.int (i : Int)), y9, y10, some (.ref u), none, none] ∧ Pl H2 p ∧ VL H2 ra M ∧ Vc H2 u ns ∧ GQ d ns, ⟨_, rfl, _, rfl, p, d, 3, rfl, by omega, by decide, by decide, P17, fun H9 u vs P9' K9' hu hG => ⟨u, vs, rfl, P9', hV17.kp P17 nra K9'.k, hu, hG⟩⟩, ?_⟩
    rintro σ H18 ⟨u, ns, rfl, P18, hV18, hu, hG⟩
    obtain ⟨rs, er, rl, rg⟩ := id hV18
    have bM : ∀ v ∈ M, ∀ n ∈ v, n.natAbs < 2 ^ 4000 := fun v hv n hn => Nat.lt_of_le_of_lt ((hg v hv).2 n hn) (Nat.lt_of_lt_of_le (by decide : 3 < 2 ^ 2) (Nat.pow_le_pow_right (by decide) (by decide)))
    have bN : ∀ n ∈ ns, n.natAbs < 2 ^ 4000 := fun n hn => Nat.lt_of_le_of_lt (hG.2.1 n hn) (Nat.lt_of_lt_of_le (by decide : 6 < 2 ^ 3) (Nat.pow_le_pow_right (by decide) (by decide)))
    refine ⟨_, rfl, ra, _, rfl, .inl (SqL.of er), fun l nl => ?_⟩
    have sl := same_upd (o := .lst (rs.map V.ref)) nl
    refine ⟨_, rfl, l, u, M, ns, d + 1, rfl, copy hV18 er nl, hu.same sl, by omega, by omega, hG.1, bN, fun v hv => ⟨(hg v hv).1, bM v hv⟩, fun H19 t s19 ht => ?_⟩
    have s18 := sl.trans s19
    have P19 := P18.same s18
    have hV19 := hV18.same s18
    have hu19 := hu.same s18
    obtain ⟨rs3, ea3, rl3, rg3⟩ := id hV19
    refine ⟨_, rfl, ra, rfl, ⟨_, SqL.of ea3⟩, fun D' nD => ?_⟩
    refine lc_list (xs := rs3.map V.ref) (fun i H' => Same H19 H' ∧ Left H' D' i fun j => dv (d + 1) (M.getD j []) (en ns) < 0) ⟨same_upd nD, Left.start⟩ (fun i H' _ hP => SqL.of (hP.1 _ _ ea3)) (fun i y' H' hy hP => ?_) (fun H' hP => ?_)
    · obtain ⟨r, hr1, rfl⟩ := ref_get hy
      obtain ⟨v, ev, hv⟩ := rg3 i r hr1
      have mv := List.mem_of_getElem? ev
      have hi := lt_of_get ev
      refine ⟨rfl, ?_⟩
      refine ⟨_, rfl, _, rfl, r, u, v, ns, rfl, hP.1 _ _ hv, hu19.same hP.1, by rw [(hg v mv).1, hG.1], by rw [(hg v mv).1]; omega, bM v mv, bN, fun H5 s5 => ?_⟩
      have e : (dotz v ns).sum = dv (d + 1) (M.getD i []) (en ns) := by
        rw [dvzS (by rw [(hg v mv).1, hG.1]), (hg v mv).1, getD_some ev]
      refine ⟨_, _, rfl, rfl, _, rfl, ite2 (fun c => ?_) (fun c => ?_)⟩
      · exact ⟨_, rfl, hP.2.yes s5 (by rw [← e]; exact of_decide_eq_true c) (by omega) nD (hP.1.trans s5) _⟩
      · exact ⟨hP.1.trans s5, hP.2.no s5 fun z => c (decide_eq_true (by rw [e]; exact z))⟩
    · rw [List.length_map, rl3] at hP
      obtain ⟨s4, hL⟩ := hP
      obtain ⟨acc, eA, iffA⟩ := hL.end
      have e : t = decide (V.int (acc.length : Int) = V.int 0) := by
        rw [Bool.eq_iff_iff, decide_eq_true_iff, iffA, ht]
        constructor
        · intro h j hj
          have := h _ (getD_memM hj)
          omega
        · intro h v hv
          obtain ⟨j, hj, rfl⟩ := List.getElem_of_mem hv
          have := h j hj
          rw [getD_some (List.getElem?_eq_getElem hj)] at this
          omega
      subst e
      refine ⟨D', _, rfl, .inl (SqL.of eA), rfl, _, _, rfl, .bl _ _, _, rfl, iteF ⟨_, _, rfl, P19.same s4, hV19.same s4⟩⟩

theorem fn_or {CX : CXT} {k : Nat} {f : Addr} {fd : FuncData} {ps : List Str} {sp1 sp2 : Sp} (F1 : FnOk P w K mg base CX k f fd ps sp1) (F2 : FnOk P w K mg base CX k f fd ps sp2) : FnOk P w K mg base CX k f fd ps (fun vs H Q E => sp1 vs H Q E ∨ sp2 vs H Q E) :=
  ⟨fun vs H Q E h => by
    rcases h with h | h
    · exact F1.len _ _ _ _ h
    · exact F2.len _ _ _ _ h,
  fun A outer s H args us vs Q E hr e b r h => by
    rcases h with h | h
    · exact F1.run A outer s H args us vs Q E hr e b r h
    · exact F2.run A outer s H args us vs Q E hr e b r h⟩

end
/-! ### what the top has written -/
theorem all_mk {l : PySem.W.OpenLaw} {w : World} {K : PySem.W.Frag} {h : Heap} {mg : Str → Option Value} {fa f__law_same f__law_gcd f__law_spread f__law_draw f__law_pool f_common_divisor f_primitive f_Table___init__ f_Table_first_row f_Table_entering f_Table_leaving f_Table_comes_first f_Table_exchange f_Table_cleared f_Table_weights f_Table_parting f_weighing f_is_integer f_is_vector f_is_weights f_is_worded f_is_point f__law_bent f__law_prim f__law_dot f__law_is_integer f__law_vector f__law_weights f__law_sum f__law_zeros f__law_is_point f_satisfies f_is_solution f_shows_empty f_dot f_combined f_following_paper f_shows_following f_check_following f__law_right f__law_row f__law_point f_law C_Table  : Addr} (X : K.In h) (G : h.Ns mainGlobals mg) (hfa : mg "law" = some (.ref fa))
    {od__law_same an__law_same od__law_gcd an__law_gcd od__law_spread an__law_spread od__law_draw an__law_draw od__law_pool an__law_pool od_common_divisor an_common_divisor od_primitive an_primitive od_Table___init__ an_Table___init__ od_Table_first_row an_Table_first_row od_Table_entering an_Table_entering od_Table_leaving an_Table_leaving od_Table_comes_first an_Table_comes_first od_Table_exchange an_Table_exchange od_Table_cleared an_Table_cleared od_Table_weights an_Table_weights od_Table_parting an_Table_parting od_weighing an_weighing od_is_integer an_is_integer od_is_vector an_is_vector od_is_weights an_is_weights od_is_worded an_is_worded od_is_point an_is_point od__law_bent an__law_bent od__law_prim an__law_prim od__law_dot an__law_dot od__law_is_integer an__law_is_integer od__law_vector an__law_vector od__law_weights an__law_weights od__law_sum an__law_sum od__law_zeros an__law_zeros od__law_is_point an__law_is_point od_satisfies an_satisfies od_is_solution an_is_solution od_shows_empty an_shows_empty od_dot an_dot od_combined an_combined od_following_paper an_following_paper od_shows_following an_shows_following od_check_following an_check_following od__law_right an__law_right od__law_row an__law_row od__law_point an__law_point od_law an_law : Option Addr} {sl__law_same sl__law_gcd sl__law_spread sl__law_draw sl__law_pool sl_common_divisor sl_primitive sl_Table___init__ sl_Table_first_row sl_Table_entering sl_Table_leaving sl_Table_comes_first sl_Table_exchange sl_Table_cleared sl_Table_weights sl_Table_parting sl_weighing sl_is_integer sl_is_vector sl_is_weights sl_is_worded sl_is_point sl__law_bent sl__law_prim sl__law_dot sl__law_is_integer sl__law_vector sl__law_weights sl__law_sum sl__law_zeros sl__law_is_point sl_satisfies sl_is_solution sl_shows_empty sl_dot sl_combined sl_following_paper sl_shows_following sl_check_following sl__law_right sl__law_row sl__law_point sl_law : Array (Option Value)} {oc__law_same kV__law_same dc__law_same pm__law_same cd__law_same ct__law_same oc__law_gcd kV__law_gcd dc__law_gcd pm__law_gcd cd__law_gcd ct__law_gcd oc__law_spread kV__law_spread dc__law_spread pm__law_spread cd__law_spread ct__law_spread oc__law_draw kV__law_draw dc__law_draw pm__law_draw cd__law_draw ct__law_draw oc__law_pool kV__law_pool dc__law_pool pm__law_pool cd__law_pool ct__law_pool oc_common_divisor kV_common_divisor dc_common_divisor pm_common_divisor cd_common_divisor ct_common_divisor oc_primitive kV_primitive dc_primitive pm_primitive cd_primitive ct_primitive oc_Table___init__ kV_Table___init__ dc_Table___init__ pm_Table___init__ cd_Table___init__ ct_Table___init__ oc_Table_first_row kV_Table_first_row dc_Table_first_row pm_Table_first_row cd_Table_first_row ct_Table_first_row oc_Table_entering kV_Table_entering dc_Table_entering pm_Table_entering cd_Table_entering ct_Table_entering oc_Table_leaving kV_Table_leaving dc_Table_leaving pm_Table_leaving cd_Table_leaving ct_Table_leaving oc_Table_comes_first kV_Table_comes_first dc_Table_comes_first pm_Table_comes_first cd_Table_comes_first ct_Table_comes_first oc_Table_exchange kV_Table_exchange dc_Table_exchange pm_Table_exchange cd_Table_exchange ct_Table_exchange oc_Table_cleared kV_Table_cleared dc_Table_cleared pm_Table_cleared cd_Table_cleared ct_Table_cleared oc_Table_weights kV_Table_weights dc_Table_weights pm_Table_weights cd_Table_weights ct_Table_weights oc_Table_parting kV_Table_parting dc_Table_parting pm_Table_parting cd_Table_parting ct_Table_parting oc_weighing kV_weighing dc_weighing pm_weighing cd_weighing ct_weighing oc_is_integer kV_is_integer dc_is_integer pm_is_integer cd_is_integer ct_is_integer oc_is_vector kV_is_vector dc_is_vector pm_is_vector cd_is_vector ct_is_vector oc_is_weights kV_is_weights dc_is_weights pm_is_weights cd_is_weights ct_is_weights oc_is_worded kV_is_worded dc_is_worded pm_is_worded cd_is_worded ct_is_worded oc_is_point kV_is_point dc_is_point pm_is_point cd_is_point ct_is_point oc__law_bent kV__law_bent dc__law_bent pm__law_bent cd__law_bent ct__law_bent oc__law_prim kV__law_prim dc__law_prim pm__law_prim cd__law_prim ct__law_prim oc__law_dot kV__law_dot dc__law_dot pm__law_dot cd__law_dot ct__law_dot oc__law_is_integer kV__law_is_integer dc__law_is_integer pm__law_is_integer cd__law_is_integer ct__law_is_integer oc__law_vector kV__law_vector dc__law_vector pm__law_vector cd__law_vector ct__law_vector oc__law_weights kV__law_weights dc__law_weights pm__law_weights cd__law_weights ct__law_weights oc__law_sum kV__law_sum dc__law_sum pm__law_sum cd__law_sum ct__law_sum oc__law_zeros kV__law_zeros dc__law_zeros pm__law_zeros cd__law_zeros ct__law_zeros oc__law_is_point kV__law_is_point dc__law_is_point pm__law_is_point cd__law_is_point ct__law_is_point oc_satisfies kV_satisfies dc_satisfies pm_satisfies cd_satisfies ct_satisfies oc_is_solution kV_is_solution dc_is_solution pm_is_solution cd_is_solution ct_is_solution oc_shows_empty kV_shows_empty dc_shows_empty pm_shows_empty cd_shows_empty ct_shows_empty oc_dot kV_dot dc_dot pm_dot cd_dot ct_dot oc_combined kV_combined dc_combined pm_combined cd_combined ct_combined oc_following_paper kV_following_paper dc_following_paper pm_following_paper cd_following_paper ct_following_paper oc_shows_following kV_shows_following dc_shows_following pm_shows_following cd_shows_following ct_shows_following oc_check_following kV_check_following dc_check_following pm_check_following cd_check_following ct_check_following oc__law_right kV__law_right dc__law_right pm__law_right cd__law_right ct__law_right oc__law_row kV__law_row dc__law_row pm__law_row cd__law_row ct__law_row oc__law_point kV__law_point dc__law_point pm__law_point cd__law_point ct__law_point oc_law kV_law dc_law pm_law cd_law ct_law : Value}
    (ac_Table : PySem.W.nsIn K mainGlobals "Table" = some (some (.ref C_Table))) (pg_Table : PySem.W.plainGet K C_Table Str.empty = true) (hd_Table : PySem.W.hasDictIn K C_Table = true) (po_Table : PySem.W.plainOver K C_Table = true) (sa_Table : PySem.W.findIn K (.ref C_Table) "__setattr__" = some (some (.builtin "object.__setattr__"))) (mk_Table : PySem.W.makesIn K C_Table = true) (kc_Table : PySem.W.keepIn K (.ref C_Table) = true) (na_Table_size : PySem.W.findIn K (.ref C_Table) "size" = some none) (na_Table_many : PySem.W.findIn K (.ref C_Table) "many" = some none) (na_Table_signs : PySem.W.findIn K (.ref C_Table) "signs" = some none) (na_Table_rows : PySem.W.findIn K (.ref C_Table) "rows" = some none) (na_Table_costs : PySem.W.findIn K (.ref C_Table) "costs" = some none) (na_Table_basis : PySem.W.findIn K (.ref C_Table) "basis" = some none) (na_Table_divisor : PySem.W.findIn K (.ref C_Table) "divisor" = some none)
    (a__law_same : PySem.W.nsIn K mainGlobals "_law_same" = some (some (.ref f__law_same))) (l__law_same : K.lookup f__law_same = some ⟨oc__law_same, od__law_same, .func (PySem.W.fnOf "_law_same" "_law_same" (defArgs s__law_same) (defBody s__law_same) (defScope s__law_same) .none kV__law_same dc__law_same pm__law_same an__law_same cd__law_same ct__law_same), sl__law_same⟩) (c__law_same : PySem.W.codeIn K cd__law_same "_law_same" = true) (k__law_same : PySem.W.keepIn K (.ref f__law_same) = true)
    (a__law_gcd : PySem.W.nsIn K mainGlobals "_law_gcd" = some (some (.ref f__law_gcd))) (l__law_gcd : K.lookup f__law_gcd = some ⟨oc__law_gcd, od__law_gcd, .func (PySem.W.fnOf "_law_gcd" "_law_gcd" (defArgs s__law_gcd) (defBody s__law_gcd) (defScope s__law_gcd) .none kV__law_gcd dc__law_gcd pm__law_gcd an__law_gcd cd__law_gcd ct__law_gcd), sl__law_gcd⟩) (c__law_gcd : PySem.W.codeIn K cd__law_gcd "_law_gcd" = true) (k__law_gcd : PySem.W.keepIn K (.ref f__law_gcd) = true)
    (a__law_spread : PySem.W.nsIn K mainGlobals "_law_spread" = some (some (.ref f__law_spread))) (l__law_spread : K.lookup f__law_spread = some ⟨oc__law_spread, od__law_spread, .func (PySem.W.fnOf "_law_spread" "_law_spread" (defArgs s__law_spread) (defBody s__law_spread) (defScope s__law_spread) .none kV__law_spread dc__law_spread pm__law_spread an__law_spread cd__law_spread ct__law_spread), sl__law_spread⟩) (c__law_spread : PySem.W.codeIn K cd__law_spread "_law_spread" = true) (k__law_spread : PySem.W.keepIn K (.ref f__law_spread) = true)
    (a__law_draw : PySem.W.nsIn K mainGlobals "_law_draw" = some (some (.ref f__law_draw))) (l__law_draw : K.lookup f__law_draw = some ⟨oc__law_draw, od__law_draw, .func (PySem.W.fnOf "_law_draw" "_law_draw" (defArgs s__law_draw) (defBody s__law_draw) (defScope s__law_draw) .none kV__law_draw dc__law_draw pm__law_draw an__law_draw cd__law_draw ct__law_draw), sl__law_draw⟩) (c__law_draw : PySem.W.codeIn K cd__law_draw "_law_draw" = true) (k__law_draw : PySem.W.keepIn K (.ref f__law_draw) = true)
    (a__law_pool : PySem.W.nsIn K mainGlobals "_law_pool" = some (some (.ref f__law_pool))) (l__law_pool : K.lookup f__law_pool = some ⟨oc__law_pool, od__law_pool, .func (PySem.W.fnOf "_law_pool" "_law_pool" (defArgs s__law_pool) (defBody s__law_pool) (defScope s__law_pool) .none kV__law_pool dc__law_pool pm__law_pool an__law_pool cd__law_pool ct__law_pool), sl__law_pool⟩) (c__law_pool : PySem.W.codeIn K cd__law_pool "_law_pool" = true) (k__law_pool : PySem.W.keepIn K (.ref f__law_pool) = true)
    (a_common_divisor : PySem.W.nsIn K mainGlobals "common_divisor" = some (some (.ref f_common_divisor))) (l_common_divisor : K.lookup f_common_divisor = some ⟨oc_common_divisor, od_common_divisor, .func (PySem.W.fnOf "common_divisor" "common_divisor" (defArgs s_common_divisor) (defBody s_common_divisor) (defScope s_common_divisor) .none kV_common_divisor dc_common_divisor pm_common_divisor an_common_divisor cd_common_divisor ct_common_divisor), sl_common_divisor⟩) (c_common_divisor : PySem.W.codeIn K cd_common_divisor "common_divisor" = true) (k_common_divisor : PySem.W.keepIn K (.ref f_common_divisor) = true)
    (a_primitive : PySem.W.nsIn K mainGlobals "primitive" = some (some (.ref f_primitive))) (l_primitive : K.lookup f_primitive = some ⟨oc_primitive, od_primitive, .func (PySem.W.fnOf "primitive" "primitive" (defArgs s_primitive) (defBody s_primitive) (defScope s_primitive) .none kV_primitive dc_primitive pm_primitive an_primitive cd_primitive ct_primitive), sl_primitive⟩) (c_primitive : PySem.W.codeIn K cd_primitive "primitive" = true) (k_primitive : PySem.W.keepIn K (.ref f_primitive) = true)
    (a_Table___init__ : PySem.W.findIn K (.ref C_Table) "__init__" = some (some (.ref f_Table___init__))) (i_Table___init__ : PySem.W.isFn K (.ref f_Table___init__) = true) (l_Table___init__ : K.lookup f_Table___init__ = some ⟨oc_Table___init__, od_Table___init__, .func (PySem.W.fnOf "__init__" "Table.__init__" (defArgs s_Table___init__) (defBody s_Table___init__) (defScope s_Table___init__) .none kV_Table___init__ dc_Table___init__ pm_Table___init__ an_Table___init__ cd_Table___init__ ct_Table___init__), sl_Table___init__⟩) (c_Table___init__ : PySem.W.codeIn K cd_Table___init__ "Table.__init__" = true) (k_Table___init__ : PySem.W.keepIn K (.ref f_Table___init__) = true)
    (a_Table_first_row : PySem.W.findIn K (.ref C_Table) "first_row" = some (some (.ref f_Table_first_row))) (i_Table_first_row : PySem.W.isFn K (.ref f_Table_first_row) = true) (l_Table_first_row : K.lookup f_Table_first_row = some ⟨oc_Table_first_row, od_Table_first_row, .func (PySem.W.fnOf "first_row" "Table.first_row" (defArgs s_Table_first_row) (defBody s_Table_first_row) (defScope s_Table_first_row) .none kV_Table_first_row dc_Table_first_row pm_Table_first_row an_Table_first_row cd_Table_first_row ct_Table_first_row), sl_Table_first_row⟩) (c_Table_first_row : PySem.W.codeIn K cd_Table_first_row "Table.first_row" = true) (k_Table_first_row : PySem.W.keepIn K (.ref f_Table_first_row) = true)
    (a_Table_entering : PySem.W.findIn K (.ref C_Table) "entering" = some (some (.ref f_Table_entering))) (i_Table_entering : PySem.W.isFn K (.ref f_Table_entering) = true) (l_Table_entering : K.lookup f_Table_entering = some ⟨oc_Table_entering, od_Table_entering, .func (PySem.W.fnOf "entering" "Table.entering" (defArgs s_Table_entering) (defBody s_Table_entering) (defScope s_Table_entering) .none kV_Table_entering dc_Table_entering pm_Table_entering an_Table_entering cd_Table_entering ct_Table_entering), sl_Table_entering⟩) (c_Table_entering : PySem.W.codeIn K cd_Table_entering "Table.entering" = true) (k_Table_entering : PySem.W.keepIn K (.ref f_Table_entering) = true)
    (a_Table_leaving : PySem.W.findIn K (.ref C_Table) "leaving" = some (some (.ref f_Table_leaving))) (i_Table_leaving : PySem.W.isFn K (.ref f_Table_leaving) = true) (l_Table_leaving : K.lookup f_Table_leaving = some ⟨oc_Table_leaving, od_Table_leaving, .func (PySem.W.fnOf "leaving" "Table.leaving" (defArgs s_Table_leaving) (defBody s_Table_leaving) (defScope s_Table_leaving) .none kV_Table_leaving dc_Table_leaving pm_Table_leaving an_Table_leaving cd_Table_leaving ct_Table_leaving), sl_Table_leaving⟩) (c_Table_leaving : PySem.W.codeIn K cd_Table_leaving "Table.leaving" = true) (k_Table_leaving : PySem.W.keepIn K (.ref f_Table_leaving) = true)
    (a_Table_comes_first : PySem.W.findIn K (.ref C_Table) "comes_first" = some (some (.ref f_Table_comes_first))) (i_Table_comes_first : PySem.W.isFn K (.ref f_Table_comes_first) = true) (l_Table_comes_first : K.lookup f_Table_comes_first = some ⟨oc_Table_comes_first, od_Table_comes_first, .func (PySem.W.fnOf "comes_first" "Table.comes_first" (defArgs s_Table_comes_first) (defBody s_Table_comes_first) (defScope s_Table_comes_first) .none kV_Table_comes_first dc_Table_comes_first pm_Table_comes_first an_Table_comes_first cd_Table_comes_first ct_Table_comes_first), sl_Table_comes_first⟩) (c_Table_comes_first : PySem.W.codeIn K cd_Table_comes_first "Table.comes_first" = true) (k_Table_comes_first : PySem.W.keepIn K (.ref f_Table_comes_first) = true)
    (a_Table_exchange : PySem.W.findIn K (.ref C_Table) "exchange" = some (some (.ref f_Table_exchange))) (i_Table_exchange : PySem.W.isFn K (.ref f_Table_exchange) = true) (l_Table_exchange : K.lookup f_Table_exchange = some ⟨oc_Table_exchange, od_Table_exchange, .func (PySem.W.fnOf "exchange" "Table.exchange" (defArgs s_Table_exchange) (defBody s_Table_exchange) (defScope s_Table_exchange) .none kV_Table_exchange dc_Table_exchange pm_Table_exchange an_Table_exchange cd_Table_exchange ct_Table_exchange), sl_Table_exchange⟩) (c_Table_exchange : PySem.W.codeIn K cd_Table_exchange "Table.exchange" = true) (k_Table_exchange : PySem.W.keepIn K (.ref f_Table_exchange) = true)
    (a_Table_cleared : PySem.W.findIn K (.ref C_Table) "cleared" = some (some (.ref f_Table_cleared))) (i_Table_cleared : PySem.W.isFn K (.ref f_Table_cleared) = true) (l_Table_cleared : K.lookup f_Table_cleared = some ⟨oc_Table_cleared, od_Table_cleared, .func (PySem.W.fnOf "cleared" "Table.cleared" (defArgs s_Table_cleared) (defBody s_Table_cleared) (defScope s_Table_cleared) .none kV_Table_cleared dc_Table_cleared pm_Table_cleared an_Table_cleared cd_Table_cleared ct_Table_cleared), sl_Table_cleared⟩) (c_Table_cleared : PySem.W.codeIn K cd_Table_cleared "Table.cleared" = true) (k_Table_cleared : PySem.W.keepIn K (.ref f_Table_cleared) = true)
    (a_Table_weights : PySem.W.findIn K (.ref C_Table) "weights" = some (some (.ref f_Table_weights))) (i_Table_weights : PySem.W.isFn K (.ref f_Table_weights) = true) (l_Table_weights : K.lookup f_Table_weights = some ⟨oc_Table_weights, od_Table_weights, .func (PySem.W.fnOf "weights" "Table.weights" (defArgs s_Table_weights) (defBody s_Table_weights) (defScope s_Table_weights) .none kV_Table_weights dc_Table_weights pm_Table_weights an_Table_weights cd_Table_weights ct_Table_weights), sl_Table_weights⟩) (c_Table_weights : PySem.W.codeIn K cd_Table_weights "Table.weights" = true) (k_Table_weights : PySem.W.keepIn K (.ref f_Table_weights) = true)
    (a_Table_parting : PySem.W.findIn K (.ref C_Table) "parting" = some (some (.ref f_Table_parting))) (i_Table_parting : PySem.W.isFn K (.ref f_Table_parting) = true) (l_Table_parting : K.lookup f_Table_parting = some ⟨oc_Table_parting, od_Table_parting, .func (PySem.W.fnOf "parting" "Table.parting" (defArgs s_Table_parting) (defBody s_Table_parting) (defScope s_Table_parting) .none kV_Table_parting dc_Table_parting pm_Table_parting an_Table_parting cd_Table_parting ct_Table_parting), sl_Table_parting⟩) (c_Table_parting : PySem.W.codeIn K cd_Table_parting "Table.parting" = true) (k_Table_parting : PySem.W.keepIn K (.ref f_Table_parting) = true)
    (a_weighing : PySem.W.nsIn K mainGlobals "weighing" = some (some (.ref f_weighing))) (l_weighing : K.lookup f_weighing = some ⟨oc_weighing, od_weighing, .func (PySem.W.fnOf "weighing" "weighing" (defArgs s_weighing) (defBody s_weighing) (defScope s_weighing) .none kV_weighing dc_weighing pm_weighing an_weighing cd_weighing ct_weighing), sl_weighing⟩) (c_weighing : PySem.W.codeIn K cd_weighing "weighing" = true) (k_weighing : PySem.W.keepIn K (.ref f_weighing) = true)
    (a_is_integer : PySem.W.nsIn K mainGlobals "is_integer" = some (some (.ref f_is_integer))) (l_is_integer : K.lookup f_is_integer = some ⟨oc_is_integer, od_is_integer, .func (PySem.W.fnOf "is_integer" "is_integer" (defArgs s_is_integer) (defBody s_is_integer) (defScope s_is_integer) .none kV_is_integer dc_is_integer pm_is_integer an_is_integer cd_is_integer ct_is_integer), sl_is_integer⟩) (c_is_integer : PySem.W.codeIn K cd_is_integer "is_integer" = true) (k_is_integer : PySem.W.keepIn K (.ref f_is_integer) = true)
    (a_is_vector : PySem.W.nsIn K mainGlobals "is_vector" = some (some (.ref f_is_vector))) (l_is_vector : K.lookup f_is_vector = some ⟨oc_is_vector, od_is_vector, .func (PySem.W.fnOf "is_vector" "is_vector" (defArgs s_is_vector) (defBody s_is_vector) (defScope s_is_vector) .none kV_is_vector dc_is_vector pm_is_vector an_is_vector cd_is_vector ct_is_vector), sl_is_vector⟩) (c_is_vector : PySem.W.codeIn K cd_is_vector "is_vector" = true) (k_is_vector : PySem.W.keepIn K (.ref f_is_vector) = true)
    (a_is_weights : PySem.W.nsIn K mainGlobals "is_weights" = some (some (.ref f_is_weights))) (l_is_weights : K.lookup f_is_weights = some ⟨oc_is_weights, od_is_weights, .func (PySem.W.fnOf "is_weights" "is_weights" (defArgs s_is_weights) (defBody s_is_weights) (defScope s_is_weights) .none kV_is_weights dc_is_weights pm_is_weights an_is_weights cd_is_weights ct_is_weights), sl_is_weights⟩) (c_is_weights : PySem.W.codeIn K cd_is_weights "is_weights" = true) (k_is_weights : PySem.W.keepIn K (.ref f_is_weights) = true)
    (a_is_worded : PySem.W.nsIn K mainGlobals "is_worded" = some (some (.ref f_is_worded))) (l_is_worded : K.lookup f_is_worded = some ⟨oc_is_worded, od_is_worded, .func (PySem.W.fnOf "is_worded" "is_worded" (defArgs s_is_worded) (defBody s_is_worded) (defScope s_is_worded) .none kV_is_worded dc_is_worded pm_is_worded an_is_worded cd_is_worded ct_is_worded), sl_is_worded⟩) (c_is_worded : PySem.W.codeIn K cd_is_worded "is_worded" = true) (k_is_worded : PySem.W.keepIn K (.ref f_is_worded) = true)
    (a_is_point : PySem.W.nsIn K mainGlobals "is_point" = some (some (.ref f_is_point))) (l_is_point : K.lookup f_is_point = some ⟨oc_is_point, od_is_point, .func (PySem.W.fnOf "is_point" "is_point" (defArgs s_is_point) (defBody s_is_point) (defScope s_is_point) .none kV_is_point dc_is_point pm_is_point an_is_point cd_is_point ct_is_point), sl_is_point⟩) (c_is_point : PySem.W.codeIn K cd_is_point "is_point" = true) (k_is_point : PySem.W.keepIn K (.ref f_is_point) = true)
    (a__law_bent : PySem.W.nsIn K mainGlobals "_law_bent" = some (some (.ref f__law_bent))) (l__law_bent : K.lookup f__law_bent = some ⟨oc__law_bent, od__law_bent, .func (PySem.W.fnOf "_law_bent" "_law_bent" (defArgs s__law_bent) (defBody s__law_bent) (defScope s__law_bent) .none kV__law_bent dc__law_bent pm__law_bent an__law_bent cd__law_bent ct__law_bent), sl__law_bent⟩) (c__law_bent : PySem.W.codeIn K cd__law_bent "_law_bent" = true) (k__law_bent : PySem.W.keepIn K (.ref f__law_bent) = true)
    (a__law_prim : PySem.W.nsIn K mainGlobals "_law_prim" = some (some (.ref f__law_prim))) (l__law_prim : K.lookup f__law_prim = some ⟨oc__law_prim, od__law_prim, .func (PySem.W.fnOf "_law_prim" "_law_prim" (defArgs s__law_prim) (defBody s__law_prim) (defScope s__law_prim) .none kV__law_prim dc__law_prim pm__law_prim an__law_prim cd__law_prim ct__law_prim), sl__law_prim⟩) (c__law_prim : PySem.W.codeIn K cd__law_prim "_law_prim" = true) (k__law_prim : PySem.W.keepIn K (.ref f__law_prim) = true)
    (a__law_dot : PySem.W.nsIn K mainGlobals "_law_dot" = some (some (.ref f__law_dot))) (l__law_dot : K.lookup f__law_dot = some ⟨oc__law_dot, od__law_dot, .func (PySem.W.fnOf "_law_dot" "_law_dot" (defArgs s__law_dot) (defBody s__law_dot) (defScope s__law_dot) .none kV__law_dot dc__law_dot pm__law_dot an__law_dot cd__law_dot ct__law_dot), sl__law_dot⟩) (c__law_dot : PySem.W.codeIn K cd__law_dot "_law_dot" = true) (k__law_dot : PySem.W.keepIn K (.ref f__law_dot) = true)
    (a__law_is_integer : PySem.W.nsIn K mainGlobals "_law_is_integer" = some (some (.ref f__law_is_integer))) (l__law_is_integer : K.lookup f__law_is_integer = some ⟨oc__law_is_integer, od__law_is_integer, .func (PySem.W.fnOf "_law_is_integer" "_law_is_integer" (defArgs s__law_is_integer) (defBody s__law_is_integer) (defScope s__law_is_integer) .none kV__law_is_integer dc__law_is_integer pm__law_is_integer an__law_is_integer cd__law_is_integer ct__law_is_integer), sl__law_is_integer⟩) (c__law_is_integer : PySem.W.codeIn K cd__law_is_integer "_law_is_integer" = true) (k__law_is_integer : PySem.W.keepIn K (.ref f__law_is_integer) = true)
    (a__law_vector : PySem.W.nsIn K mainGlobals "_law_vector" = some (some (.ref f__law_vector))) (l__law_vector : K.lookup f__law_vector = some ⟨oc__law_vector, od__law_vector, .func (PySem.W.fnOf "_law_vector" "_law_vector" (defArgs s__law_vector) (defBody s__law_vector) (defScope s__law_vector) .none kV__law_vector dc__law_vector pm__law_vector an__law_vector cd__law_vector ct__law_vector), sl__law_vector⟩) (c__law_vector : PySem.W.codeIn K cd__law_vector "_law_vector" = true) (k__law_vector : PySem.W.keepIn K (.ref f__law_vector) = true)
    (a__law_weights : PySem.W.nsIn K mainGlobals "_law_weights" = some (some (.ref f__law_weights))) (l__law_weights : K.lookup f__law_weights = some ⟨oc__law_weights, od__law_weights, .func (PySem.W.fnOf "_law_weights" "_law_weights" (defArgs s__law_weights) (defBody s__law_weights) (defScope s__law_weights) .none kV__law_weights dc__law_weights pm__law_weights an__law_weights cd__law_weights ct__law_weights), sl__law_weights⟩) (c__law_weights : PySem.W.codeIn K cd__law_weights "_law_weights" = true) (k__law_weights : PySem.W.keepIn K (.ref f__law_weights) = true)
    (a__law_sum : PySem.W.nsIn K mainGlobals "_law_sum" = some (some (.ref f__law_sum))) (l__law_sum : K.lookup f__law_sum = some ⟨oc__law_sum, od__law_sum, .func (PySem.W.fnOf "_law_sum" "_law_sum" (defArgs s__law_sum) (defBody s__law_sum) (defScope s__law_sum) .none kV__law_sum dc__law_sum pm__law_sum an__law_sum cd__law_sum ct__law_sum), sl__law_sum⟩) (c__law_sum : PySem.W.codeIn K cd__law_sum "_law_sum" = true) (k__law_sum : PySem.W.keepIn K (.ref f__law_sum) = true)
    (a__law_zeros : PySem.W.nsIn K mainGlobals "_law_zeros" = some (some (.ref f__law_zeros))) (l__law_zeros : K.lookup f__law_zeros = some ⟨oc__law_zeros, od__law_zeros, .func (PySem.W.fnOf "_law_zeros" "_law_zeros" (defArgs s__law_zeros) (defBody s__law_zeros) (defScope s__law_zeros) .none kV__law_zeros dc__law_zeros pm__law_zeros an__law_zeros cd__law_zeros ct__law_zeros), sl__law_zeros⟩) (c__law_zeros : PySem.W.codeIn K cd__law_zeros "_law_zeros" = true) (k__law_zeros : PySem.W.keepIn K (.ref f__law_zeros) = true)
    (a__law_is_point : PySem.W.nsIn K mainGlobals "_law_is_point" = some (some (.ref f__law_is_point))) (l__law_is_point : K.lookup f__law_is_point = some ⟨oc__law_is_point, od__law_is_point, .func (PySem.W.fnOf "_law_is_point" "_law_is_point" (defArgs s__law_is_point) (defBody s__law_is_point) (defScope s__law_is_point) .none kV__law_is_point dc__law_is_point pm__law_is_point an__law_is_point cd__law_is_point ct__law_is_point), sl__law_is_point⟩) (c__law_is_point : PySem.W.codeIn K cd__law_is_point "_law_is_point" = true) (k__law_is_point : PySem.W.keepIn K (.ref f__law_is_point) = true)
    (a_satisfies : PySem.W.nsIn K mainGlobals "satisfies" = some (some (.ref f_satisfies))) (l_satisfies : K.lookup f_satisfies = some ⟨oc_satisfies, od_satisfies, .func (PySem.W.fnOf "satisfies" "satisfies" (defArgs s_satisfies) (defBody s_satisfies) (defScope s_satisfies) .none kV_satisfies dc_satisfies pm_satisfies an_satisfies cd_satisfies ct_satisfies), sl_satisfies⟩) (c_satisfies : PySem.W.codeIn K cd_satisfies "satisfies" = true) (k_satisfies : PySem.W.keepIn K (.ref f_satisfies) = true)
    (a_is_solution : PySem.W.nsIn K mainGlobals "is_solution" = some (some (.ref f_is_solution))) (l_is_solution : K.lookup f_is_solution = some ⟨oc_is_solution, od_is_solution, .func (PySem.W.fnOf "is_solution" "is_solution" (defArgs s_is_solution) (defBody s_is_solution) (defScope s_is_solution) .none kV_is_solution dc_is_solution pm_is_solution an_is_solution cd_is_solution ct_is_solution), sl_is_solution⟩) (c_is_solution : PySem.W.codeIn K cd_is_solution "is_solution" = true) (k_is_solution : PySem.W.keepIn K (.ref f_is_solution) = true)
    (a_shows_empty : PySem.W.nsIn K mainGlobals "shows_empty" = some (some (.ref f_shows_empty))) (l_shows_empty : K.lookup f_shows_empty = some ⟨oc_shows_empty, od_shows_empty, .func (PySem.W.fnOf "shows_empty" "shows_empty" (defArgs s_shows_empty) (defBody s_shows_empty) (defScope s_shows_empty) .none kV_shows_empty dc_shows_empty pm_shows_empty an_shows_empty cd_shows_empty ct_shows_empty), sl_shows_empty⟩) (c_shows_empty : PySem.W.codeIn K cd_shows_empty "shows_empty" = true) (k_shows_empty : PySem.W.keepIn K (.ref f_shows_empty) = true)
    (a_dot : PySem.W.nsIn K mainGlobals "dot" = some (some (.ref f_dot))) (l_dot : K.lookup f_dot = some ⟨oc_dot, od_dot, .func (PySem.W.fnOf "dot" "dot" (defArgs s_dot) (defBody s_dot) (defScope s_dot) .none kV_dot dc_dot pm_dot an_dot cd_dot ct_dot), sl_dot⟩) (c_dot : PySem.W.codeIn K cd_dot "dot" = true) (k_dot : PySem.W.keepIn K (.ref f_dot) = true)
    (a_combined : PySem.W.nsIn K mainGlobals "combined" = some (some (.ref f_combined))) (l_combined : K.lookup f_combined = some ⟨oc_combined, od_combined, .func (PySem.W.fnOf "combined" "combined" (defArgs s_combined) (defBody s_combined) (defScope s_combined) .none kV_combined dc_combined pm_combined an_combined cd_combined ct_combined), sl_combined⟩) (c_combined : PySem.W.codeIn K cd_combined "combined" = true) (k_combined : PySem.W.keepIn K (.ref f_combined) = true)
    (a_following_paper : PySem.W.nsIn K mainGlobals "following_paper" = some (some (.ref f_following_paper))) (l_following_paper : K.lookup f_following_paper = some ⟨oc_following_paper, od_following_paper, .func (PySem.W.fnOf "following_paper" "following_paper" (defArgs s_following_paper) (defBody s_following_paper) (defScope s_following_paper) .none kV_following_paper dc_following_paper pm_following_paper an_following_paper cd_following_paper ct_following_paper), sl_following_paper⟩) (c_following_paper : PySem.W.codeIn K cd_following_paper "following_paper" = true) (k_following_paper : PySem.W.keepIn K (.ref f_following_paper) = true)
    (a_shows_following : PySem.W.nsIn K mainGlobals "shows_following" = some (some (.ref f_shows_following))) (l_shows_following : K.lookup f_shows_following = some ⟨oc_shows_following, od_shows_following, .func (PySem.W.fnOf "shows_following" "shows_following" (defArgs s_shows_following) (defBody s_shows_following) (defScope s_shows_following) .none kV_shows_following dc_shows_following pm_shows_following an_shows_following cd_shows_following ct_shows_following), sl_shows_following⟩) (c_shows_following : PySem.W.codeIn K cd_shows_following "shows_following" = true) (k_shows_following : PySem.W.keepIn K (.ref f_shows_following) = true)
    (a_check_following : PySem.W.nsIn K mainGlobals "check_following" = some (some (.ref f_check_following))) (l_check_following : K.lookup f_check_following = some ⟨oc_check_following, od_check_following, .func (PySem.W.fnOf "check_following" "check_following" (defArgs s_check_following) (defBody s_check_following) (defScope s_check_following) .none kV_check_following dc_check_following pm_check_following an_check_following cd_check_following ct_check_following), sl_check_following⟩) (c_check_following : PySem.W.codeIn K cd_check_following "check_following" = true) (k_check_following : PySem.W.keepIn K (.ref f_check_following) = true)
    (a__law_right : PySem.W.nsIn K mainGlobals "_law_right" = some (some (.ref f__law_right))) (l__law_right : K.lookup f__law_right = some ⟨oc__law_right, od__law_right, .func (PySem.W.fnOf "_law_right" "_law_right" (defArgs s__law_right) (defBody s__law_right) (defScope s__law_right) .none kV__law_right dc__law_right pm__law_right an__law_right cd__law_right ct__law_right), sl__law_right⟩) (c__law_right : PySem.W.codeIn K cd__law_right "_law_right" = true) (k__law_right : PySem.W.keepIn K (.ref f__law_right) = true)
    (a__law_row : PySem.W.nsIn K mainGlobals "_law_row" = some (some (.ref f__law_row))) (l__law_row : K.lookup f__law_row = some ⟨oc__law_row, od__law_row, .func (PySem.W.fnOf "_law_row" "_law_row" (defArgs s__law_row) (defBody s__law_row) (defScope s__law_row) .none kV__law_row dc__law_row pm__law_row an__law_row cd__law_row ct__law_row), sl__law_row⟩) (c__law_row : PySem.W.codeIn K cd__law_row "_law_row" = true) (k__law_row : PySem.W.keepIn K (.ref f__law_row) = true)
    (a__law_point : PySem.W.nsIn K mainGlobals "_law_point" = some (some (.ref f__law_point))) (l__law_point : K.lookup f__law_point = some ⟨oc__law_point, od__law_point, .func (PySem.W.fnOf "_law_point" "_law_point" (defArgs s__law_point) (defBody s__law_point) (defScope s__law_point) .none kV__law_point dc__law_point pm__law_point an__law_point cd__law_point ct__law_point), sl__law_point⟩) (c__law_point : PySem.W.codeIn K cd__law_point "_law_point" = true) (k__law_point : PySem.W.keepIn K (.ref f__law_point) = true)
    (a_law : PySem.W.nsIn K mainGlobals "law" = some (some (.ref f_law))) (l_law : K.lookup f_law = some ⟨oc_law, od_law, .func (PySem.W.fnOf "law" "law" (defArgs s_law) (defBody s_law) (defScope s_law) .none kV_law dc_law pm_law an_law cd_law ct_law), sl_law⟩) (c_law : PySem.W.codeIn K cd_law "law" = true) (k_law : PySem.W.keepIn K (.ref f_law) = true)
    (z_len : PySem.W.nsIn K mainGlobals "len" = some none) (z_range : PySem.W.nsIn K mainGlobals "range" = some none) (z_int : PySem.W.nsIn K mainGlobals "int" = some none) (z_list : PySem.W.nsIn K mainGlobals "list" = some none) (z_tuple : PySem.W.nsIn K mainGlobals "tuple" = some none) (z_bool : PySem.W.nsIn K mainGlobals "bool" = some none) (z_isinstance : PySem.W.nsIn K mainGlobals "isinstance" = some none) (z_abs : PySem.W.nsIn K mainGlobals "abs" = some none) (z_sum : PySem.W.nsIn K mainGlobals "sum" = some none) (z_zip : PySem.W.nsIn K mainGlobals "zip" = some none) (z_str : PySem.W.nsIn K mainGlobals "str" = some none) (z_any : PySem.W.nsIn K mainGlobals "any" = some none) (z_all : PySem.W.nsIn K mainGlobals "all" = some none) (z_enumerate : PySem.W.nsIn K mainGlobals "enumerate" = some none) (z_set : PySem.W.nsIn K mainGlobals "set" = some none) (z_sorted : PySem.W.nsIn K mainGlobals "sorted" = some none) (z_min : PySem.W.nsIn K mainGlobals "min" = some none) (z_max : PySem.W.nsIn K mainGlobals "max" = some none)
    (z_gcd : PySem.W.nsIn K mainGlobals "gcd" = some (some (.builtin "math.gcd")))
    : ∃ fd : FuncData, (∀ (s : Shared) (v : Value), BindsTo s fd ⟨[v], []⟩ [("script", v)]) ∧ ∀ base : Heap, K.In base → base.Ns mainGlobals mg → FnOk l.prog w K mg base CX0 8 fa fd ["script"] (spLaw K) := by
  have e := hfa.symm.trans (PySem.W.mg_of X G a_law)
  cases e
  have F__law_same := fun_mk (st := s__law_same) l__law_same c__law_same k__law_same
  have b__law_same := F__law_same.binds (ps := ["actual", "due"]) fun _ _ _ _ _ _ us hl => match us, hl with | [_, _], _ => rfl
  have F__law_gcd := fun_mk (st := s__law_gcd) l__law_gcd c__law_gcd k__law_gcd
  have b__law_gcd := F__law_gcd.binds (ps := ["a", "b"]) fun _ _ _ _ _ _ us hl => match us, hl with | [_, _], _ => rfl
  have F__law_spread := fun_mk (st := s__law_spread) l__law_spread c__law_spread k__law_spread
  have b__law_spread := F__law_spread.binds (ps := ["cell"]) fun _ _ _ _ _ _ us hl => match us, hl with | [_], _ => rfl
  have F__law_draw := fun_mk (st := s__law_draw) l__law_draw c__law_draw k__law_draw
  have b__law_draw := F__law_draw.binds (ps := ["pool", "many"]) fun _ _ _ _ _ _ us hl => match us, hl with | [_, _], _ => rfl
  have F__law_pool := fun_mk (st := s__law_pool) l__law_pool c__law_pool k__law_pool
  have b__law_pool := F__law_pool.binds (ps := ["script"]) fun _ _ _ _ _ _ us hl => match us, hl with | [_], _ => rfl
  have F_common_divisor := fun_mk (st := s_common_divisor) l_common_divisor c_common_divisor k_common_divisor
  have b_common_divisor := F_common_divisor.binds (ps := ["v"]) fun _ _ _ _ _ _ us hl => match us, hl with | [_], _ => rfl
  have F_primitive := fun_mk (st := s_primitive) l_primitive c_primitive k_primitive
  have b_primitive := F_primitive.binds (ps := ["v"]) fun _ _ _ _ _ _ us hl => match us, hl with | [_], _ => rfl
  have F_Table___init__ := fun_mk (st := s_Table___init__) l_Table___init__ c_Table___init__ k_Table___init__
  have b_Table___init__ := F_Table___init__.binds (ps := ["self", "vectors", "target"]) fun _ _ _ _ _ _ us hl => match us, hl with | [_, _, _], _ => rfl
  have F_Table_first_row := fun_mk (st := s_Table_first_row) l_Table_first_row c_Table_first_row k_Table_first_row
  have b_Table_first_row := F_Table_first_row.binds (ps := ["self", "vectors", "target", "at"]) fun _ _ _ _ _ _ us hl => match us, hl with | [_, _, _, _], _ => rfl
  have F_Table_entering := fun_mk (st := s_Table_entering) l_Table_entering c_Table_entering k_Table_entering
  have b_Table_entering := F_Table_entering.binds (ps := ["self"]) fun _ _ _ _ _ _ us hl => match us, hl with | [_], _ => rfl
  have F_Table_leaving := fun_mk (st := s_Table_leaving) l_Table_leaving c_Table_leaving k_Table_leaving
  have b_Table_leaving := F_Table_leaving.binds (ps := ["self", "column"]) fun _ _ _ _ _ _ us hl => match us, hl with | [_, _], _ => rfl
  have F_Table_comes_first := fun_mk (st := s_Table_comes_first) l_Table_comes_first c_Table_comes_first k_Table_comes_first
  have b_Table_comes_first := F_Table_comes_first.binds (ps := ["self", "at", "best", "column"]) fun _ _ _ _ _ _ us hl => match us, hl with | [_, _, _, _], _ => rfl
  have F_Table_exchange := fun_mk (st := s_Table_exchange) l_Table_exchange c_Table_exchange k_Table_exchange
  have b_Table_exchange := F_Table_exchange.binds (ps := ["self", "at", "column"]) fun _ _ _ _ _ _ us hl => match us, hl with | [_, _, _], _ => rfl
  have F_Table_cleared := fun_mk (st := s_Table_cleared) l_Table_cleared c_Table_cleared k_Table_cleared
  have b_Table_cleared := F_Table_cleared.binds (ps := ["self", "row", "lead", "column"]) fun _ _ _ _ _ _ us hl => match us, hl with | [_, _, _, _], _ => rfl
  have F_Table_weights := fun_mk (st := s_Table_weights) l_Table_weights c_Table_weights k_Table_weights
  have b_Table_weights := F_Table_weights.binds (ps := ["self"]) fun _ _ _ _ _ _ us hl => match us, hl with | [_], _ => rfl
  have F_Table_parting := fun_mk (st := s_Table_parting) l_Table_parting c_Table_parting k_Table_parting
  have b_Table_parting := F_Table_parting.binds (ps := ["self"]) fun _ _ _ _ _ _ us hl => match us, hl with | [_], _ => rfl
  have F_weighing := fun_mk (st := s_weighing) l_weighing c_weighing k_weighing
  have b_weighing := F_weighing.binds (ps := ["vectors", "target"]) fun _ _ _ _ _ _ us hl => match us, hl with | [_, _], _ => rfl
  have F_is_integer := fun_mk (st := s_is_integer) l_is_integer c_is_integer k_is_integer
  have b_is_integer := F_is_integer.binds (ps := ["value"]) fun _ _ _ _ _ _ us hl => match us, hl with | [_], _ => rfl
  have F_is_vector := fun_mk (st := s_is_vector) l_is_vector c_is_vector k_is_vector
  have b_is_vector := F_is_vector.binds (ps := ["length", "value"]) fun _ _ _ _ _ _ us hl => match us, hl with | [_, _], _ => rfl
  have F_is_weights := fun_mk (st := s_is_weights) l_is_weights c_is_weights k_is_weights
  have b_is_weights := F_is_weights.binds (ps := ["length", "value"]) fun _ _ _ _ _ _ us hl => match us, hl with | [_, _], _ => rfl
  have F_is_worded := fun_mk (st := s_is_worded) l_is_worded c_is_worded k_is_worded
  have b_is_worded := F_is_worded.binds (ps := ["value", "word", "length"]) fun _ _ _ _ _ _ us hl => match us, hl with | [_, _, _], _ => rfl
  have F_is_point := fun_mk (st := s_is_point) l_is_point c_is_point k_is_point
  have b_is_point := F_is_point.binds (ps := ["d", "value"]) fun _ _ _ _ _ _ us hl => match us, hl with | [_, _], _ => rfl
  have F__law_bent := fun_mk (st := s__law_bent) l__law_bent c__law_bent k__law_bent
  have b__law_bent := F__law_bent.binds (ps := ["pool", "value"]) fun _ _ _ _ _ _ us hl => match us, hl with | [_, _], _ => rfl
  have F__law_prim := fun_mk (st := s__law_prim) l__law_prim c__law_prim k__law_prim
  have b__law_prim := F__law_prim.binds (ps := ["row"]) fun _ _ _ _ _ _ us hl => match us, hl with | [_], _ => rfl
  have F__law_dot := fun_mk (st := s__law_dot) l__law_dot c__law_dot k__law_dot
  have b__law_dot := F__law_dot.binds (ps := ["v", "w"]) fun _ _ _ _ _ _ us hl => match us, hl with | [_, _], _ => rfl
  have F__law_is_integer := fun_mk (st := s__law_is_integer) l__law_is_integer c__law_is_integer k__law_is_integer
  have b__law_is_integer := F__law_is_integer.binds (ps := ["actual"]) fun _ _ _ _ _ _ us hl => match us, hl with | [_], _ => rfl
  have F__law_vector := fun_mk (st := s__law_vector) l__law_vector c__law_vector k__law_vector
  have b__law_vector := F__law_vector.binds (ps := ["size", "value"]) fun _ _ _ _ _ _ us hl => match us, hl with | [_, _], _ => rfl
  have F__law_weights := fun_mk (st := s__law_weights) l__law_weights c__law_weights k__law_weights
  have b__law_weights := F__law_weights.binds (ps := ["many", "value"]) fun _ _ _ _ _ _ us hl => match us, hl with | [_, _], _ => rfl
  have F__law_sum := fun_mk (st := s__law_sum) l__law_sum c__law_sum k__law_sum
  have b__law_sum := F__law_sum.binds (ps := ["weights", "rows"]) fun _ _ _ _ _ _ us hl => match us, hl with | [_, _], _ => rfl
  have F__law_zeros := fun_mk (st := s__law_zeros) l__law_zeros c__law_zeros k__law_zeros
  have b__law_zeros := F__law_zeros.binds (ps := ["row"]) fun _ _ _ _ _ _ us hl => match us, hl with | [_], _ => rfl
  have F__law_is_point := fun_mk (st := s__law_is_point) l__law_is_point c__law_is_point k__law_is_point
  have b__law_is_point := F__law_is_point.binds (ps := ["d", "value"]) fun _ _ _ _ _ _ us hl => match us, hl with | [_, _], _ => rfl
  have F_satisfies := fun_mk (st := s_satisfies) l_satisfies c_satisfies k_satisfies
  have b_satisfies := F_satisfies.binds (ps := ["rows", "point"]) fun _ _ _ _ _ _ us hl => match us, hl with | [_, _], _ => rfl
  have F_is_solution := fun_mk (st := s_is_solution) l_is_solution c_is_solution k_is_solution
  have b_is_solution := F_is_solution.binds (ps := ["d", "rows", "value"]) fun _ _ _ _ _ _ us hl => match us, hl with | [_, _, _], _ => rfl
  have F_shows_empty := fun_mk (st := s_shows_empty) l_shows_empty c_shows_empty k_shows_empty
  have b_shows_empty := F_shows_empty.binds (ps := ["rows", "value"]) fun _ _ _ _ _ _ us hl => match us, hl with | [_, _], _ => rfl
  have F_dot := fun_mk (st := s_dot) l_dot c_dot k_dot
  have b_dot := F_dot.binds (ps := ["v", "w"]) fun _ _ _ _ _ _ us hl => match us, hl with | [_, _], _ => rfl
  have F_combined := fun_mk (st := s_combined) l_combined c_combined k_combined
  have b_combined := F_combined.binds (ps := ["weights", "vectors"]) fun _ _ _ _ _ _ us hl => match us, hl with | [_, _], _ => rfl
  have F_following_paper := fun_mk (st := s_following_paper) l_following_paper c_following_paper k_following_paper
  have b_following_paper := F_following_paper.binds (ps := ["d", "rows", "inequality"]) fun _ _ _ _ _ _ us hl => match us, hl with | [_, _, _], _ => rfl
  have F_shows_following := fun_mk (st := s_shows_following) l_shows_following c_shows_following k_shows_following
  have b_shows_following := F_shows_following.binds (ps := ["rows", "inequality", "value"]) fun _ _ _ _ _ _ us hl => match us, hl with | [_, _, _], _ => rfl
  have F_check_following := fun_mk (st := s_check_following) l_check_following c_check_following k_check_following
  have b_check_following := F_check_following.binds (ps := ["d", "rows", "inequality", "value"]) fun _ _ _ _ _ _ us hl => match us, hl with | [_, _, _, _], _ => rfl
  have F__law_right := fun_mk (st := s__law_right) l__law_right c__law_right k__law_right
  have b__law_right := F__law_right.binds (ps := ["d", "rows", "row", "value"]) fun _ _ _ _ _ _ us hl => match us, hl with | [_, _, _, _], _ => rfl
  have F__law_row := fun_mk (st := s__law_row) l__law_row c__law_row k__law_row
  have b__law_row := F__law_row.binds (ps := ["pool", "d"]) fun _ _ _ _ _ _ us hl => match us, hl with | [_, _], _ => rfl
  have F__law_point := fun_mk (st := s__law_point) l__law_point c__law_point k__law_point
  have b__law_point := F__law_point.binds (ps := ["pool", "d", "below"]) fun _ _ _ _ _ _ us hl => match us, hl with | [_, _, _], _ => rfl
  have F_law := fun_mk (st := s_law) l_law c_law k_law
  have T_Table : TCls K C_Table := ⟨⟨pg_Table, hd_Table, po_Table, sa_Table⟩, na_Table_size, na_Table_many, na_Table_signs, na_Table_rows, na_Table_costs, na_Table_basis, na_Table_divisor⟩
  have Z : Glb mg := ⟨PySem.W.mg_none_of X G z_len, PySem.W.mg_none_of X G z_range, PySem.W.mg_none_of X G z_int, PySem.W.mg_none_of X G z_list, PySem.W.mg_none_of X G z_tuple, PySem.W.mg_none_of X G z_bool, PySem.W.mg_none_of X G z_isinstance, PySem.W.mg_none_of X G z_abs, PySem.W.mg_none_of X G z_sum, PySem.W.mg_none_of X G z_zip, PySem.W.mg_none_of X G z_str, PySem.W.mg_none_of X G z_any, PySem.W.mg_none_of X G z_all, PySem.W.mg_none_of X G z_enumerate, PySem.W.mg_none_of X G z_set, PySem.W.mg_none_of X G z_sorted, PySem.W.mg_none_of X G z_min, PySem.W.mg_none_of X G z_max, PySem.W.mg_of X G z_gcd⟩
  refine ⟨PySem.W.fnOf "law" "law" (defArgs s_law) (defBody s_law) (defScope s_law) .none kV_law dc_law pm_law an_law cd_law ct_law, fun s v => .of_eq rfl, fun base _ _ => ?_⟩
  have S__law_pool_7 : FnOk l.prog w K mg base CX0 7 f__law_pool _ ["script"] (spPool K) := ok_pool (k := 6) F__law_pool Z 
  have C__law_pool_7 : Call l.prog w K mg base 7 "_law_pool" ["script"] (spPool K) := ⟨f__law_pool, _, S__law_pool_7, PySem.W.mg_of X G a__law_pool, F__law_pool.kp, b__law_pool⟩
  have S__law_spread_6 : FnOk l.prog w K mg base CX0 6 f__law_spread _ ["cell"] spSpread := ok_spread (k := 5) F__law_spread Z 
  have C__law_spread_6 : Call l.prog w K mg base 6 "_law_spread" ["cell"] spSpread := ⟨f__law_spread, _, S__law_spread_6, PySem.W.mg_of X G a__law_spread, F__law_spread.kp, b__law_spread⟩
  have S__law_draw_7 : FnOk l.prog w K mg base CX0 7 f__law_draw _ ["pool", "many"] spDraw := ok_draw (k := 6) F__law_draw Z  C__law_spread_6
  have C__law_draw_7 : Call l.prog w K mg base 7 "_law_draw" ["pool", "many"] spDraw := ⟨f__law_draw, _, S__law_draw_7, PySem.W.mg_of X G a__law_draw, F__law_draw.kp, b__law_draw⟩
  have S__law_spread_5 : FnOk l.prog w K mg base CX0 5 f__law_spread _ ["cell"] spSpread := ok_spread (k := 4) F__law_spread Z 
  have C__law_spread_5 : Call l.prog w K mg base 5 "_law_spread" ["cell"] spSpread := ⟨f__law_spread, _, S__law_spread_5, PySem.W.mg_of X G a__law_spread, F__law_spread.kp, b__law_spread⟩
  have S__law_draw_6 : FnOk l.prog w K mg base CX0 6 f__law_draw _ ["pool", "many"] spDraw := ok_draw (k := 5) F__law_draw Z  C__law_spread_5
  have C__law_draw_6 : Call l.prog w K mg base 6 "_law_draw" ["pool", "many"] spDraw := ⟨f__law_draw, _, S__law_draw_6, PySem.W.mg_of X G a__law_draw, F__law_draw.kp, b__law_draw⟩
  have S__law_zeros_6 : FnOk l.prog w K mg base CX0 6 f__law_zeros _ ["row"] spZer := ok_lzer (k := 5) F__law_zeros Z 
  have C__law_zeros_6 : Call l.prog w K mg base 6 "_law_zeros" ["row"] spZer := ⟨f__law_zeros, _, S__law_zeros_6, PySem.W.mg_of X G a__law_zeros, F__law_zeros.kp, b__law_zeros⟩
  have S__law_gcd_5 : FnOk l.prog w K mg base CX0 5 f__law_gcd _ ["a", "b"] spGcd := ok_gcd (k := 4) F__law_gcd Z 
  have C__law_gcd_5 : Call l.prog w K mg base 5 "_law_gcd" ["a", "b"] spGcd := ⟨f__law_gcd, _, S__law_gcd_5, PySem.W.mg_of X G a__law_gcd, F__law_gcd.kp, b__law_gcd⟩
  have S__law_prim_6 : FnOk l.prog w K mg base CX0 6 f__law_prim _ ["row"] spPrimK := ok_lprimK (k := 5) F__law_prim Z  C__law_gcd_5
  have C__law_prim_6 : Call l.prog w K mg base 6 "_law_prim" ["row"] spPrimK := ⟨f__law_prim, _, S__law_prim_6, PySem.W.mg_of X G a__law_prim, F__law_prim.kp, b__law_prim⟩
  have S__law_row_7 : FnOk l.prog w K mg base CX0 7 f__law_row _ ["pool", "d"] spRow := ok_row (k := 6) F__law_row Z  C__law_draw_6 C__law_zeros_6 C__law_prim_6
  have C__law_row_7 : Call l.prog w K mg base 7 "_law_row" ["pool", "d"] spRow := ⟨f__law_row, _, S__law_row_7, PySem.W.mg_of X G a__law_row, F__law_row.kp, b__law_row⟩
  have S__law_zeros_7 : FnOk l.prog w K mg base CX0 7 f__law_zeros _ ["row"] spZer := ok_lzer (k := 6) F__law_zeros Z 
  have C__law_zeros_7 : Call l.prog w K mg base 7 "_law_zeros" ["row"] spZer := ⟨f__law_zeros, _, S__law_zeros_7, PySem.W.mg_of X G a__law_zeros, F__law_zeros.kp, b__law_zeros⟩
  have S__law_gcd_6 : FnOk l.prog w K mg base CX0 6 f__law_gcd _ ["a", "b"] spGcd := ok_gcd (k := 5) F__law_gcd Z 
  have C__law_gcd_6 : Call l.prog w K mg base 6 "_law_gcd" ["a", "b"] spGcd := ⟨f__law_gcd, _, S__law_gcd_6, PySem.W.mg_of X G a__law_gcd, F__law_gcd.kp, b__law_gcd⟩
  have S__law_prim_7 : FnOk l.prog w K mg base CX0 7 f__law_prim _ ["row"] spPrimK := ok_lprimK (k := 6) F__law_prim Z  C__law_gcd_6
  have C__law_prim_7 : Call l.prog w K mg base 7 "_law_prim" ["row"] spPrimK := ⟨f__law_prim, _, S__law_prim_7, PySem.W.mg_of X G a__law_prim, F__law_prim.kp, b__law_prim⟩
  have S__law_sum_v_L_7 : FnOk l.prog w K mg base CX0 7 f__law_sum _ ["weights", "rows"] spLSmL := ok_lsmL (k := 6) F__law_sum Z 
  have C__law_sum_v_L_7 : Call l.prog w K mg base 7 "_law_sum" ["weights", "rows"] spLSmL := ⟨f__law_sum, _, S__law_sum_v_L_7, PySem.W.mg_of X G a__law_sum, F__law_sum.kp, b__law_sum⟩
  have S_Table_first_row_3 : FnOk l.prog w K mg base CX0 3 f_Table_first_row _ ["self", "vectors", "target", "at"] (spFrw C_Table) := ok_frw (k := 2) F_Table_first_row Z T_Table 
  have C_Table_first_row_3 : MCall l.prog w K mg base 3 C_Table "first_row" ["self", "vectors", "target", "at"] (spFrw C_Table) := ⟨f_Table_first_row, _, S_Table_first_row_3, T_Table.cl, ⟨a_Table_first_row, i_Table_first_row, k_Table_first_row⟩, b_Table_first_row⟩
  have S_Table___init___4 : FnOk l.prog w K mg base CX0 4 f_Table___init__ _ ["self", "vectors", "target"] (spTI C_Table) := ok_ti (k := 3) F_Table___init__ Z T_Table  C_Table_first_row_3
  have S_Table_entering_5 : FnOk l.prog w K mg base CX0 5 f_Table_entering _ ["self"] (spEnt C_Table) := ok_ent (k := 4) F_Table_entering Z T_Table 
  have C_Table_entering_5 : MCall l.prog w K mg base 5 C_Table "entering" ["self"] (spEnt C_Table) := ⟨f_Table_entering, _, S_Table_entering_5, T_Table.cl, ⟨a_Table_entering, i_Table_entering, k_Table_entering⟩, b_Table_entering⟩
  have S_Table_comes_first_4 : FnOk l.prog w K mg base CX0 4 f_Table_comes_first _ ["self", "at", "best", "column"] (spCf C_Table) := ok_cf (k := 3) F_Table_comes_first Z T_Table 
  have C_Table_comes_first_4 : MCall l.prog w K mg base 4 C_Table "comes_first" ["self", "at", "best", "column"] (spCf C_Table) := ⟨f_Table_comes_first, _, S_Table_comes_first_4, T_Table.cl, ⟨a_Table_comes_first, i_Table_comes_first, k_Table_comes_first⟩, b_Table_comes_first⟩
  have S_Table_leaving_5 : FnOk l.prog w K mg base CX0 5 f_Table_leaving _ ["self", "column"] (spLv C_Table) := ok_lv (k := 4) F_Table_leaving Z T_Table  C_Table_comes_first_4
  have C_Table_leaving_5 : MCall l.prog w K mg base 5 C_Table "leaving" ["self", "column"] (spLv C_Table) := ⟨f_Table_leaving, _, S_Table_leaving_5, T_Table.cl, ⟨a_Table_leaving, i_Table_leaving, k_Table_leaving⟩, b_Table_leaving⟩
  have S_Table_cleared_4 : FnOk l.prog w K mg base CX0 4 f_Table_cleared _ ["self", "row", "lead", "column"] (spClrT C_Table) := ok_clrT (k := 3) F_Table_cleared Z T_Table 
  have C_Table_cleared_4 : MCall l.prog w K mg base 4 C_Table "cleared" ["self", "row", "lead", "column"] (spClrT C_Table) := ⟨f_Table_cleared, _, S_Table_cleared_4, T_Table.cl, ⟨a_Table_cleared, i_Table_cleared, k_Table_cleared⟩, b_Table_cleared⟩
  have S_Table_exchange_5 : FnOk l.prog w K mg base CX0 5 f_Table_exchange _ ["self", "at", "column"] (spExch C_Table) := ok_exch (k := 4) F_Table_exchange Z T_Table  C_Table_cleared_4
  have C_Table_exchange_5 : MCall l.prog w K mg base 5 C_Table "exchange" ["self", "at", "column"] (spExch C_Table) := ⟨f_Table_exchange, _, S_Table_exchange_5, T_Table.cl, ⟨a_Table_exchange, i_Table_exchange, k_Table_exchange⟩, b_Table_exchange⟩
  have S_Table_weights_5 : FnOk l.prog w K mg base CX0 5 f_Table_weights _ ["self"] (spWts C_Table) := ok_wts (k := 4) F_Table_weights Z T_Table 
  have C_Table_weights_5 : MCall l.prog w K mg base 5 C_Table "weights" ["self"] (spWts C_Table) := ⟨f_Table_weights, _, S_Table_weights_5, T_Table.cl, ⟨a_Table_weights, i_Table_weights, k_Table_weights⟩, b_Table_weights⟩
  have S_Table_parting_5 : FnOk l.prog w K mg base CX0 5 f_Table_parting _ ["self"] (spPart C_Table) := ok_part (k := 4) F_Table_parting Z T_Table 
  have C_Table_parting_5 : MCall l.prog w K mg base 5 C_Table "parting" ["self"] (spPart C_Table) := ⟨f_Table_parting, _, S_Table_parting_5, T_Table.cl, ⟨a_Table_parting, i_Table_parting, k_Table_parting⟩, b_Table_parting⟩
  have S_common_divisor_4 : FnOk l.prog w K mg base CX0 4 f_common_divisor _ ["v"] spCdK := ok_cdK (k := 3) F_common_divisor Z 
  have C_common_divisor_4 : Call l.prog w K mg base 4 "common_divisor" ["v"] spCdK := ⟨f_common_divisor, _, S_common_divisor_4, PySem.W.mg_of X G a_common_divisor, F_common_divisor.kp, b_common_divisor⟩
  have S_primitive_5 : FnOk l.prog w K mg base CX0 5 f_primitive _ ["v"] spPrimL := ok_primK (k := 4) F_primitive Z  C_common_divisor_4
  have C_primitive_5 : Call l.prog w K mg base 5 "primitive" ["v"] spPrimL := ⟨f_primitive, _, S_primitive_5, PySem.W.mg_of X G a_primitive, F_primitive.kp, b_primitive⟩
  have S_weighing_6 : FnOk l.prog w K mg base CX0 6 f_weighing _ ["vectors", "target"] spWg := ok_wg (k := 4) F_weighing Z T_Table  ⟨f_Table___init__, _, S_Table___init___4, ⟨mk_Table, a_Table___init__, i_Table___init__, kc_Table⟩, PySem.W.mg_of X G ac_Table, b_Table___init__⟩ C_Table_entering_5 C_Table_leaving_5 C_Table_exchange_5 C_Table_weights_5 C_Table_parting_5 C_primitive_5
  have C_weighing_6 : Call l.prog w K mg base 6 "weighing" ["vectors", "target"] spWg := ⟨f_weighing, _, S_weighing_6, PySem.W.mg_of X G a_weighing, F_weighing.kp, b_weighing⟩
  have S_common_divisor_5 : FnOk l.prog w K mg base CX0 5 f_common_divisor _ ["v"] spCdK := ok_cdK (k := 4) F_common_divisor Z 
  have C_common_divisor_5 : Call l.prog w K mg base 5 "common_divisor" ["v"] spCdK := ⟨f_common_divisor, _, S_common_divisor_5, PySem.W.mg_of X G a_common_divisor, F_common_divisor.kp, b_common_divisor⟩
  have S_primitive_6 : FnOk l.prog w K mg base CX0 6 f_primitive _ ["v"] spPrimL := ok_primK (k := 5) F_primitive Z  C_common_divisor_5
  have C_primitive_6 : Call l.prog w K mg base 6 "primitive" ["v"] spPrimL := ⟨f_primitive, _, S_primitive_6, PySem.W.mg_of X G a_primitive, F_primitive.kp, b_primitive⟩
  have S_dot_6 : FnOk l.prog w K mg base CX0 6 f_dot _ ["v", "w"] spDot := ok_dot (k := 5) F_dot Z 
  have C_dot_6 : Call l.prog w K mg base 6 "dot" ["v", "w"] spDot := ⟨f_dot, _, S_dot_6, PySem.W.mg_of X G a_dot, F_dot.kp, b_dot⟩
  have S_combined_6 : FnOk l.prog w K mg base CX0 6 f_combined _ ["weights", "vectors"] spComb := ok_comb (k := 5) F_combined Z 
  have C_combined_6 : Call l.prog w K mg base 6 "combined" ["weights", "vectors"] spComb := ⟨f_combined, _, S_combined_6, PySem.W.mg_of X G a_combined, F_combined.kp, b_combined⟩
  have S_following_paper_7 : FnOk l.prog w K mg base CX0 7 f_following_paper _ ["d", "rows", "inequality"] spFol := ok_fol (k := 6) F_following_paper Z  C_weighing_6 C_primitive_6 C_dot_6 C_combined_6
  have C_following_paper_7 : Call l.prog w K mg base 7 "following_paper" ["d", "rows", "inequality"] spFol := ⟨f_following_paper, _, S_following_paper_7, PySem.W.mg_of X G a_following_paper, F_following_paper.kp, b_following_paper⟩
  have S_is_worded_6 : FnOk l.prog w K mg base CX0 6 f_is_worded _ ["value", "word", "length"] spWord := ok_word (k := 5) F_is_worded Z 
  have C_is_worded_6 : Call l.prog w K mg base 6 "is_worded" ["value", "word", "length"] spWord := ⟨f_is_worded, _, S_is_worded_6, PySem.W.mg_of X G a_is_worded, F_is_worded.kp, b_is_worded⟩
  have S_is_integer_3 : FnOk l.prog w K mg base CX0 3 f_is_integer _ ["value"] (spIsI K "value") := ok_pint (k := 2) F_is_integer Z 
  have C_is_integer_3 : Call l.prog w K mg base 3 "is_integer" ["value"] (spIsI K "value") := ⟨f_is_integer, _, S_is_integer_3, PySem.W.mg_of X G a_is_integer, F_is_integer.kp, b_is_integer⟩
  have S_is_vector_4 : FnOk l.prog w K mg base CX0 4 f_is_vector _ ["length", "value"] (spIsVec "length" "value") := ok_pvec (k := 3) F_is_vector Z  C_is_integer_3
  have C_is_vector_4 : Call l.prog w K mg base 4 "is_vector" ["length", "value"] (spIsVec "length" "value") := ⟨f_is_vector, _, S_is_vector_4, PySem.W.mg_of X G a_is_vector, F_is_vector.kp, b_is_vector⟩
  have S_is_weights_5 : FnOk l.prog w K mg base CX0 5 f_is_weights _ ["length", "value"] spIsWts := ok_isw (k := 4) F_is_weights Z  C_is_vector_4
  have C_is_weights_5 : Call l.prog w K mg base 5 "is_weights" ["length", "value"] spIsWts := ⟨f_is_weights, _, S_is_weights_5, PySem.W.mg_of X G a_is_weights, F_is_weights.kp, b_is_weights⟩
  have S_is_integer_5 : FnOk l.prog w K mg base CX0 5 f_is_integer _ ["value"] (spIsI K "value") := ok_pint (k := 4) F_is_integer Z 
  have C_is_integer_5 : Call l.prog w K mg base 5 "is_integer" ["value"] (spIsI K "value") := ⟨f_is_integer, _, S_is_integer_5, PySem.W.mg_of X G a_is_integer, F_is_integer.kp, b_is_integer⟩
  have S_combined_5 : FnOk l.prog w K mg base CX0 5 f_combined _ ["weights", "vectors"] spComb := ok_comb (k := 4) F_combined Z 
  have C_combined_5 : Call l.prog w K mg base 5 "combined" ["weights", "vectors"] spComb := ⟨f_combined, _, S_combined_5, PySem.W.mg_of X G a_combined, F_combined.kp, b_combined⟩
  have S_shows_following_6 : FnOk l.prog w K mg base CX0 6 f_shows_following _ ["rows", "inequality", "value"] spShF := ok_shf (k := 5) F_shows_following Z  C_is_weights_5 C_is_integer_5 C_combined_5
  have C_shows_following_6 : Call l.prog w K mg base 6 "shows_following" ["rows", "inequality", "value"] spShF := ⟨f_shows_following, _, S_shows_following_6, PySem.W.mg_of X G a_shows_following, F_shows_following.kp, b_shows_following⟩
  have S_shows_empty_6 : FnOk l.prog w K mg base CX0 6 f_shows_empty _ ["rows", "value"] (spShow EmpR fun _ M => M.length) := ok_shem (k := 5) F_shows_empty Z  C_is_weights_5 C_combined_5
  have C_shows_empty_6 : Call l.prog w K mg base 6 "shows_empty" ["rows", "value"] (spShow EmpR fun _ M => M.length) := ⟨f_shows_empty, _, S_shows_empty_6, PySem.W.mg_of X G a_shows_empty, F_shows_empty.kp, b_shows_empty⟩
  have S_is_point_5 : FnOk l.prog w K mg base CX0 5 f_is_point _ ["d", "value"] spIsP := ok_isp (k := 4) F_is_point Z  C_is_vector_4 C_common_divisor_4
  have C_is_point_5 : Call l.prog w K mg base 5 "is_point" ["d", "value"] spIsP := ⟨f_is_point, _, S_is_point_5, PySem.W.mg_of X G a_is_point, F_is_point.kp, b_is_point⟩
  have S_dot_4 : FnOk l.prog w K mg base CX0 4 f_dot _ ["v", "w"] spDot := ok_dot (k := 3) F_dot Z 
  have C_dot_4 : Call l.prog w K mg base 4 "dot" ["v", "w"] spDot := ⟨f_dot, _, S_dot_4, PySem.W.mg_of X G a_dot, F_dot.kp, b_dot⟩
  have S_satisfies_5 : FnOk l.prog w K mg base CX0 5 f_satisfies _ ["rows", "point"] spSatL := ok_satL (k := 4) F_satisfies Z  C_dot_4
  have C_satisfies_5 : Call l.prog w K mg base 5 "satisfies" ["rows", "point"] spSatL := ⟨f_satisfies, _, S_satisfies_5, PySem.W.mg_of X G a_satisfies, F_satisfies.kp, b_satisfies⟩
  have S_is_solution_6 : FnOk l.prog w K mg base CX0 6 f_is_solution _ ["d", "rows", "value"] (spIsSol Sol) := ok_issol (k := 5) F_is_solution Z  C_is_point_5 C_satisfies_5
  have C_is_solution_6 : Call l.prog w K mg base 6 "is_solution" ["d", "rows", "value"] (spIsSol Sol) := ⟨f_is_solution, _, S_is_solution_6, PySem.W.mg_of X G a_is_solution, F_is_solution.kp, b_is_solution⟩
  have S_check_following_7 : FnOk l.prog w K mg base CX0 7 f_check_following _ ["d", "rows", "inequality", "value"] spChF := ok_chf (k := 6) F_check_following Z  C_is_worded_6 C_shows_following_6 C_shows_empty_6 C_is_solution_6 C_dot_6
  have C_check_following_7 : Call l.prog w K mg base 7 "check_following" ["d", "rows", "inequality", "value"] spChF := ⟨f_check_following, _, S_check_following_7, PySem.W.mg_of X G a_check_following, F_check_following.kp, b_check_following⟩
  have S_satisfies_7 : FnOk l.prog w K mg base CX0 7 f_satisfies _ ["rows", "point"] spSatL := ok_satL (k := 6) F_satisfies Z  C_dot_6
  have C_satisfies_7 : Call l.prog w K mg base 7 "satisfies" ["rows", "point"] spSatL := ⟨f_satisfies, _, S_satisfies_7, PySem.W.mg_of X G a_satisfies, F_satisfies.kp, b_satisfies⟩
  have S__law_dot_7 : FnOk l.prog w K mg base CX0 7 f__law_dot _ ["v", "w"] spDot := ok_ldot (k := 6) F__law_dot Z 
  have C__law_dot_7 : Call l.prog w K mg base 7 "_law_dot" ["v", "w"] spDot := ⟨f__law_dot, _, S__law_dot_7, PySem.W.mg_of X G a__law_dot, F__law_dot.kp, b__law_dot⟩
  have S__law_is_integer_4 : FnOk l.prog w K mg base CX0 4 f__law_is_integer _ ["actual"] (spIsI K "actual") := ok_lii (k := 3) F__law_is_integer Z 
  have C__law_is_integer_4 : Call l.prog w K mg base 4 "_law_is_integer" ["actual"] (spIsI K "actual") := ⟨f__law_is_integer, _, S__law_is_integer_4, PySem.W.mg_of X G a__law_is_integer, F__law_is_integer.kp, b__law_is_integer⟩
  have S__law_vector_5 : FnOk l.prog w K mg base CX0 5 f__law_vector _ ["size", "value"] (spIsVec "size" "value") := ok_lvecD (k := 4) F__law_vector Z  C__law_is_integer_4
  have C__law_vector_5 : Call l.prog w K mg base 5 "_law_vector" ["size", "value"] (spIsVec "size" "value") := ⟨f__law_vector, _, S__law_vector_5, PySem.W.mg_of X G a__law_vector, F__law_vector.kp, b__law_vector⟩
  have S__law_gcd_4 : FnOk l.prog w K mg base CX0 4 f__law_gcd _ ["a", "b"] spGcd := ok_gcd (k := 3) F__law_gcd Z 
  have C__law_gcd_4 : Call l.prog w K mg base 4 "_law_gcd" ["a", "b"] spGcd := ⟨f__law_gcd, _, S__law_gcd_4, PySem.W.mg_of X G a__law_gcd, F__law_gcd.kp, b__law_gcd⟩
  have S__law_prim_5 : FnOk l.prog w K mg base CX0 5 f__law_prim _ ["row"] spPrimK := ok_lprimK (k := 4) F__law_prim Z  C__law_gcd_4
  have C__law_prim_5 : Call l.prog w K mg base 5 "_law_prim" ["row"] spPrimK := ⟨f__law_prim, _, S__law_prim_5, PySem.W.mg_of X G a__law_prim, F__law_prim.kp, b__law_prim⟩
  have S__law_is_point_6 : FnOk l.prog w K mg base CX0 6 f__law_is_point _ ["d", "value"] spIsPL := ok_lisp (k := 5) F__law_is_point Z  C__law_vector_5 C__law_prim_5
  have C__law_is_point_6 : Call l.prog w K mg base 6 "_law_is_point" ["d", "value"] spIsPL := ⟨f__law_is_point, _, S__law_is_point_6, PySem.W.mg_of X G a__law_is_point, F__law_is_point.kp, b__law_is_point⟩
  have S__law_dot_6 : FnOk l.prog w K mg base CX0 6 f__law_dot _ ["v", "w"] spDot := ok_ldot (k := 5) F__law_dot Z 
  have C__law_dot_6 : Call l.prog w K mg base 6 "_law_dot" ["v", "w"] spDot := ⟨f__law_dot, _, S__law_dot_6, PySem.W.mg_of X G a__law_dot, F__law_dot.kp, b__law_dot⟩
  have S__law_weights_6 : FnOk l.prog w K mg base CX0 6 f__law_weights _ ["many", "value"] spIsWts := ok_lwts (k := 5) F__law_weights Z  C__law_vector_5
  have C__law_weights_6 : Call l.prog w K mg base 6 "_law_weights" ["many", "value"] spIsWts := ⟨f__law_weights, _, S__law_weights_6, PySem.W.mg_of X G a__law_weights, F__law_weights.kp, b__law_weights⟩
  have S__law_sum_6 : FnOk l.prog w K mg base CX0 6 f__law_sum _ ["weights", "rows"] spLSm := ok_lsm (k := 5) F__law_sum Z 
  have C__law_sum_6 : Call l.prog w K mg base 6 "_law_sum" ["weights", "rows"] spLSm := ⟨f__law_sum, _, S__law_sum_6, PySem.W.mg_of X G a__law_sum, F__law_sum.kp, b__law_sum⟩
  have S__law_is_integer_6 : FnOk l.prog w K mg base CX0 6 f__law_is_integer _ ["actual"] (spIsI K "actual") := ok_lii (k := 5) F__law_is_integer Z 
  have C__law_is_integer_6 : Call l.prog w K mg base 6 "_law_is_integer" ["actual"] (spIsI K "actual") := ⟨f__law_is_integer, _, S__law_is_integer_6, PySem.W.mg_of X G a__law_is_integer, F__law_is_integer.kp, b__law_is_integer⟩
  have S__law_right_7 : FnOk l.prog w K mg base CX0 7 f__law_right _ ["d", "rows", "row", "value"] spLRF := ok_lrf (k := 6) F__law_right Z  C__law_is_point_6 C__law_dot_6 C__law_weights_6 C__law_sum_6 C__law_zeros_6 C__law_is_integer_6
  have C__law_right_7 : Call l.prog w K mg base 7 "_law_right" ["d", "rows", "row", "value"] spLRF := ⟨f__law_right, _, S__law_right_7, PySem.W.mg_of X G a__law_right, F__law_right.kp, b__law_right⟩
  have S__law_point_7 : FnOk l.prog w K mg base CX0 7 f__law_point _ ["pool", "d", "below"] spPointS := ok_pointS (k := 6) F__law_point Z  C__law_draw_6 C__law_prim_6
  have C__law_point_7 : Call l.prog w K mg base 7 "_law_point" ["pool", "d", "below"] spPointS := ⟨f__law_point, _, S__law_point_7, PySem.W.mg_of X G a__law_point, F__law_point.kp, b__law_point⟩
  have S__law_spread_4 : FnOk l.prog w K mg base CX0 4 f__law_spread _ ["cell"] spSpread := ok_spread (k := 3) F__law_spread Z 
  have C__law_spread_4 : Call l.prog w K mg base 4 "_law_spread" ["cell"] spSpread := ⟨f__law_spread, _, S__law_spread_4, PySem.W.mg_of X G a__law_spread, F__law_spread.kp, b__law_spread⟩
  have S__law_draw_5 : FnOk l.prog w K mg base CX0 5 f__law_draw _ ["pool", "many"] spDraw := ok_draw (k := 4) F__law_draw Z  C__law_spread_4
  have C__law_draw_5 : Call l.prog w K mg base 5 "_law_draw" ["pool", "many"] spDraw := ⟨f__law_draw, _, S__law_draw_5, PySem.W.mg_of X G a__law_draw, F__law_draw.kp, b__law_draw⟩
  have S__law_is_integer_5 : FnOk l.prog w K mg base CX0 5 f__law_is_integer _ ["actual"] (spIsI K "actual") := ok_lii (k := 4) F__law_is_integer Z 
  have C__law_is_integer_5 : Call l.prog w K mg base 5 "_law_is_integer" ["actual"] (spIsI K "actual") := ⟨f__law_is_integer, _, S__law_is_integer_5, PySem.W.mg_of X G a__law_is_integer, F__law_is_integer.kp, b__law_is_integer⟩
  have S__law_spread_3 : FnOk l.prog w K mg base CX0 3 f__law_spread _ ["cell"] spSpread := ok_spread (k := 2) F__law_spread Z 
  have C__law_spread_3 : Call l.prog w K mg base 3 "_law_spread" ["cell"] spSpread := ⟨f__law_spread, _, S__law_spread_3, PySem.W.mg_of X G a__law_spread, F__law_spread.kp, b__law_spread⟩
  have S__law_draw_4 : FnOk l.prog w K mg base CX0 4 f__law_draw _ ["pool", "many"] spDraw := ok_draw (k := 3) F__law_draw Z  C__law_spread_3
  have C__law_draw_4 : Call l.prog w K mg base 4 "_law_draw" ["pool", "many"] spDraw := ⟨f__law_draw, _, S__law_draw_4, PySem.W.mg_of X G a__law_draw, F__law_draw.kp, b__law_draw⟩
  have S__law_spread_2 : FnOk l.prog w K mg base CX0 2 f__law_spread _ ["cell"] spSpread := ok_spread (k := 1) F__law_spread Z 
  have C__law_spread_2 : Call l.prog w K mg base 2 "_law_spread" ["cell"] spSpread := ⟨f__law_spread, _, S__law_spread_2, PySem.W.mg_of X G a__law_spread, F__law_spread.kp, b__law_spread⟩
  have S__law_draw_3 : FnOk l.prog w K mg base CX0 3 f__law_draw _ ["pool", "many"] spDraw := ok_draw (k := 2) F__law_draw Z  C__law_spread_2
  have C__law_draw_3 : Call l.prog w K mg base 3 "_law_draw" ["pool", "many"] spDraw := ⟨f__law_draw, _, S__law_draw_3, PySem.W.mg_of X G a__law_draw, F__law_draw.kp, b__law_draw⟩
  have S__law_is_integer_3 : FnOk l.prog w K mg base CX0 3 f__law_is_integer _ ["actual"] (spIsI K "actual") := ok_lii (k := 2) F__law_is_integer Z 
  have C__law_is_integer_3 : Call l.prog w K mg base 3 "_law_is_integer" ["actual"] (spIsI K "actual") := ⟨f__law_is_integer, _, S__law_is_integer_3, PySem.W.mg_of X G a__law_is_integer, F__law_is_integer.kp, b__law_is_integer⟩
  have S__law_bent_v_0_4 : FnOk l.prog w K mg base CX0 4 f__law_bent _ ["pool", "value"] (spBentN 0) := ok_bentD (k := 3) (n := 0) F__law_bent Z C__law_draw_3 C__law_is_integer_3 (fun m e => absurd e (by omega)) (PySem.W.mg_of X G a__law_bent) b__law_bent
  have C__law_bent_v_0_4 : Call l.prog w K mg base 4 "_law_bent" ["pool", "value"] (spBentN 0) := ⟨f__law_bent, _, S__law_bent_v_0_4, PySem.W.mg_of X G a__law_bent, F__law_bent.kp, b__law_bent⟩
  have S__law_bent_v_1_5 : FnOk l.prog w K mg base CX0 5 f__law_bent _ ["pool", "value"] (spBentN 1) := ok_bentD (k := 4) (n := 1) F__law_bent Z C__law_draw_4 C__law_is_integer_4 (fun m e => by cases e; exact S__law_bent_v_0_4) (PySem.W.mg_of X G a__law_bent) b__law_bent
  have C__law_bent_v_1_5 : Call l.prog w K mg base 5 "_law_bent" ["pool", "value"] (spBentN 1) := ⟨f__law_bent, _, S__law_bent_v_1_5, PySem.W.mg_of X G a__law_bent, F__law_bent.kp, b__law_bent⟩
  have S__law_bent_v_2_6 : FnOk l.prog w K mg base CX0 6 f__law_bent _ ["pool", "value"] (spBentN 2) := ok_bentD (k := 5) (n := 2) F__law_bent Z C__law_draw_5 C__law_is_integer_5 (fun m e => by cases e; exact S__law_bent_v_1_5) (PySem.W.mg_of X G a__law_bent) b__law_bent
  have C__law_bent_v_2_6 : Call l.prog w K mg base 6 "_law_bent" ["pool", "value"] (spBentN 2) := ⟨f__law_bent, _, S__law_bent_v_2_6, PySem.W.mg_of X G a__law_bent, F__law_bent.kp, b__law_bent⟩
  have S__law_spread_1 : FnOk l.prog w K mg base CX0 1 f__law_spread _ ["cell"] spSpread := ok_spread (k := 0) F__law_spread Z 
  have C__law_spread_1 : Call l.prog w K mg base 1 "_law_spread" ["cell"] spSpread := ⟨f__law_spread, _, S__law_spread_1, PySem.W.mg_of X G a__law_spread, F__law_spread.kp, b__law_spread⟩
  have S__law_draw_2 : FnOk l.prog w K mg base CX0 2 f__law_draw _ ["pool", "many"] spDraw := ok_draw (k := 1) F__law_draw Z  C__law_spread_1
  have C__law_draw_2 : Call l.prog w K mg base 2 "_law_draw" ["pool", "many"] spDraw := ⟨f__law_draw, _, S__law_draw_2, PySem.W.mg_of X G a__law_draw, F__law_draw.kp, b__law_draw⟩
  have S__law_is_integer_2 : FnOk l.prog w K mg base CX0 2 f__law_is_integer _ ["actual"] (spIsI K "actual") := ok_lii (k := 1) F__law_is_integer Z 
  have C__law_is_integer_2 : Call l.prog w K mg base 2 "_law_is_integer" ["actual"] (spIsI K "actual") := ⟨f__law_is_integer, _, S__law_is_integer_2, PySem.W.mg_of X G a__law_is_integer, F__law_is_integer.kp, b__law_is_integer⟩
  have S__law_bent_v_0_3 : FnOk l.prog w K mg base CX0 3 f__law_bent _ ["pool", "value"] (spBentN 0) := ok_bentD (k := 2) (n := 0) F__law_bent Z C__law_draw_2 C__law_is_integer_2 (fun m e => absurd e (by omega)) (PySem.W.mg_of X G a__law_bent) b__law_bent
  have C__law_bent_v_0_3 : Call l.prog w K mg base 3 "_law_bent" ["pool", "value"] (spBentN 0) := ⟨f__law_bent, _, S__law_bent_v_0_3, PySem.W.mg_of X G a__law_bent, F__law_bent.kp, b__law_bent⟩
  have S__law_bent_v_1_4 : FnOk l.prog w K mg base CX0 4 f__law_bent _ ["pool", "value"] (spBentN 1) := ok_bentD (k := 3) (n := 1) F__law_bent Z C__law_draw_3 C__law_is_integer_3 (fun m e => by cases e; exact S__law_bent_v_0_3) (PySem.W.mg_of X G a__law_bent) b__law_bent
  have C__law_bent_v_1_4 : Call l.prog w K mg base 4 "_law_bent" ["pool", "value"] (spBentN 1) := ⟨f__law_bent, _, S__law_bent_v_1_4, PySem.W.mg_of X G a__law_bent, F__law_bent.kp, b__law_bent⟩
  have S__law_bent_v_2_5 : FnOk l.prog w K mg base CX0 5 f__law_bent _ ["pool", "value"] (spBentN 2) := ok_bentD (k := 4) (n := 2) F__law_bent Z C__law_draw_4 C__law_is_integer_4 (fun m e => by cases e; exact S__law_bent_v_1_4) (PySem.W.mg_of X G a__law_bent) b__law_bent
  have C__law_bent_v_2_5 : Call l.prog w K mg base 5 "_law_bent" ["pool", "value"] (spBentN 2) := ⟨f__law_bent, _, S__law_bent_v_2_5, PySem.W.mg_of X G a__law_bent, F__law_bent.kp, b__law_bent⟩
  have S__law_bent_v_3_6 : FnOk l.prog w K mg base CX0 6 f__law_bent _ ["pool", "value"] (spBentN 3) := ok_bentD (k := 5) (n := 3) F__law_bent Z C__law_draw_5 C__law_is_integer_5 (fun m e => by cases e; exact S__law_bent_v_2_5) (PySem.W.mg_of X G a__law_bent) b__law_bent
  have C__law_bent_v_3_6 : Call l.prog w K mg base 6 "_law_bent" ["pool", "value"] (spBentN 3) := ⟨f__law_bent, _, S__law_bent_v_3_6, PySem.W.mg_of X G a__law_bent, F__law_bent.kp, b__law_bent⟩
  have S__law_bent_7 : FnOk l.prog w K mg base CX0 7 f__law_bent _ ["pool", "value"] spBents2 := fn_or (S__law_bent_v_2_6.mono (by decide)) (S__law_bent_v_3_6.mono (by decide))
  have C__law_bent_7 : Call l.prog w K mg base 7 "_law_bent" ["pool", "value"] spBents2 := ⟨f__law_bent, _, S__law_bent_7, PySem.W.mg_of X G a__law_bent, F__law_bent.kp, b__law_bent⟩
  have S_same_0_7 := ok_same (P := l.prog) (w := w) (base := base) (k := 6) (n := 0) F__law_same Z (fun m e => absurd e (by omega)) (PySem.W.mg_of X G a__law_same) b__law_same
  have DS_same_0_7 : Call l.prog w K mg base 7 "_law_same" ["actual", "due"] (spSame 0) := ⟨f__law_same, _, S_same_0_7, PySem.W.mg_of X G a__law_same, F__law_same.kp, b__law_same⟩
  exact ok_law (P := l.prog) (w := w) (base := base) (k := 7) F_law Z  C__law_pool_7 C__law_draw_7 C__law_row_7 C__law_zeros_7 C__law_prim_7 C__law_sum_v_L_7 C_following_paper_7 C_check_following_7 C_satisfies_7 C__law_dot_7 C__law_right_7 C__law_point_7 C__law_bent_7 DS_same_0_7
end HwP
open PySem PySem.W PyProof.Rows
set_option maxHeartbeats 0 in
theorem PySem.Challenge.cw_hullwright_k14_what_follows_holds : PySem.Challenge.rw_hullwright_k14_what_follows.Holds := by
  w_on; o_law; k_head; (case hw => w_witness2)
  k_fill
  refine L2.walk_of (l := PySem.Challenge.rw_hullwright_k14_what_follows) (n := 63) (k := 8) (x := "script") (CX := fun _ => L2.CX0) (sp := fun w => HwP.spLaw _) rfl (by decide) rfl ⟨rfl, by decide, by decide⟩ (fun w h Y => PySem.W.kIn_of Y) ?F (fun _ _ a ns hl _ hS => ⟨a, ns, rfl, hS, fun _ => rfl⟩) (fun _ _ _ _ _ h => h)
  case F =>
    intro w mg fa h KX G hmg
    refine' HwP.all_mk KX G hmg (ac_Table := ?ac_Table) (pg_Table := ?pg_Table) (hd_Table := ?hd_Table) (po_Table := ?po_Table) (sa_Table := ?sa_Table) (mk_Table := ?mk_Table) (kc_Table := ?kc_Table) (na_Table_size := ?na_Table_size) (na_Table_many := ?na_Table_many) (na_Table_signs := ?na_Table_signs) (na_Table_rows := ?na_Table_rows) (na_Table_costs := ?na_Table_costs) (na_Table_basis := ?na_Table_basis) (na_Table_divisor := ?na_Table_divisor) (a__law_same := ?a__law_same) (l__law_same := ?l__law_same) (c__law_same := ?c__law_same) (k__law_same := ?k__law_same) (a__law_gcd := ?a__law_gcd) (l__law_gcd := ?l__law_gcd) (c__law_gcd := ?c__law_gcd) (k__law_gcd := ?k__law_gcd) (a__law_spread := ?a__law_spread) (l__law_spread := ?l__law_spread) (c__law_spread := ?c__law_spread) (k__law_spread := ?k__law_spread) (a__law_draw := ?a__law_draw) (l__law_draw := ?l__law_draw) (c__law_draw := ?c__law_draw) (k__law_draw := ?k__law_draw) (a__law_pool := ?a__law_pool) (l__law_pool := ?l__law_pool) (c__law_pool := ?c__law_pool) (k__law_pool := ?k__law_pool) (a_common_divisor := ?a_common_divisor) (l_common_divisor := ?l_common_divisor) (c_common_divisor := ?c_common_divisor) (k_common_divisor := ?k_common_divisor) (a_primitive := ?a_primitive) (l_primitive := ?l_primitive) (c_primitive := ?c_primitive) (k_primitive := ?k_primitive) (a_Table___init__ := ?a_Table___init__) (i_Table___init__ := ?i_Table___init__) (l_Table___init__ := ?l_Table___init__) (c_Table___init__ := ?c_Table___init__) (k_Table___init__ := ?k_Table___init__) (a_Table_first_row := ?a_Table_first_row) (i_Table_first_row := ?i_Table_first_row) (l_Table_first_row := ?l_Table_first_row) (c_Table_first_row := ?c_Table_first_row) (k_Table_first_row := ?k_Table_first_row) (a_Table_entering := ?a_Table_entering) (i_Table_entering := ?i_Table_entering) (l_Table_entering := ?l_Table_entering) (c_Table_entering := ?c_Table_entering) (k_Table_entering := ?k_Table_entering) (a_Table_leaving := ?a_Table_leaving) (i_Table_leaving := ?i_Table_leaving) (l_Table_leaving := ?l_Table_leaving) (c_Table_leaving := ?c_Table_leaving) (k_Table_leaving := ?k_Table_leaving) (a_Table_comes_first := ?a_Table_comes_first) (i_Table_comes_first := ?i_Table_comes_first) (l_Table_comes_first := ?l_Table_comes_first) (c_Table_comes_first := ?c_Table_comes_first) (k_Table_comes_first := ?k_Table_comes_first) (a_Table_exchange := ?a_Table_exchange) (i_Table_exchange := ?i_Table_exchange) (l_Table_exchange := ?l_Table_exchange) (c_Table_exchange := ?c_Table_exchange) (k_Table_exchange := ?k_Table_exchange) (a_Table_cleared := ?a_Table_cleared) (i_Table_cleared := ?i_Table_cleared) (l_Table_cleared := ?l_Table_cleared) (c_Table_cleared := ?c_Table_cleared) (k_Table_cleared := ?k_Table_cleared) (a_Table_weights := ?a_Table_weights) (i_Table_weights := ?i_Table_weights) (l_Table_weights := ?l_Table_weights) (c_Table_weights := ?c_Table_weights) (k_Table_weights := ?k_Table_weights) (a_Table_parting := ?a_Table_parting) (i_Table_parting := ?i_Table_parting) (l_Table_parting := ?l_Table_parting) (c_Table_parting := ?c_Table_parting) (k_Table_parting := ?k_Table_parting) (a_weighing := ?a_weighing) (l_weighing := ?l_weighing) (c_weighing := ?c_weighing) (k_weighing := ?k_weighing) (a_is_integer := ?a_is_integer) (l_is_integer := ?l_is_integer) (c_is_integer := ?c_is_integer) (k_is_integer := ?k_is_integer) (a_is_vector := ?a_is_vector) (l_is_vector := ?l_is_vector) (c_is_vector := ?c_is_vector) (k_is_vector := ?k_is_vector) (a_is_weights := ?a_is_weights) (l_is_weights := ?l_is_weights) (c_is_weights := ?c_is_weights) (k_is_weights := ?k_is_weights) (a_is_worded := ?a_is_worded) (l_is_worded := ?l_is_worded) (c_is_worded := ?c_is_worded) (k_is_worded := ?k_is_worded) (a_is_point := ?a_is_point) (l_is_point := ?l_is_point) (c_is_point := ?c_is_point) (k_is_point := ?k_is_point) (a__law_bent := ?a__law_bent) (l__law_bent := ?l__law_bent) (c__law_bent := ?c__law_bent) (k__law_bent := ?k__law_bent) (a__law_prim := ?a__law_prim) (l__law_prim := ?l__law_prim) (c__law_prim := ?c__law_prim) (k__law_prim := ?k__law_prim) (a__law_dot := ?a__law_dot) (l__law_dot := ?l__law_dot) (c__law_dot := ?c__law_dot) (k__law_dot := ?k__law_dot) (a__law_is_integer := ?a__law_is_integer) (l__law_is_integer := ?l__law_is_integer) (c__law_is_integer := ?c__law_is_integer) (k__law_is_integer := ?k__law_is_integer) (a__law_vector := ?a__law_vector) (l__law_vector := ?l__law_vector) (c__law_vector := ?c__law_vector) (k__law_vector := ?k__law_vector) (a__law_weights := ?a__law_weights) (l__law_weights := ?l__law_weights) (c__law_weights := ?c__law_weights) (k__law_weights := ?k__law_weights) (a__law_sum := ?a__law_sum) (l__law_sum := ?l__law_sum) (c__law_sum := ?c__law_sum) (k__law_sum := ?k__law_sum) (a__law_zeros := ?a__law_zeros) (l__law_zeros := ?l__law_zeros) (c__law_zeros := ?c__law_zeros) (k__law_zeros := ?k__law_zeros) (a__law_is_point := ?a__law_is_point) (l__law_is_point := ?l__law_is_point) (c__law_is_point := ?c__law_is_point) (k__law_is_point := ?k__law_is_point) (a_satisfies := ?a_satisfies) (l_satisfies := ?l_satisfies) (c_satisfies := ?c_satisfies) (k_satisfies := ?k_satisfies) (a_is_solution := ?a_is_solution) (l_is_solution := ?l_is_solution) (c_is_solution := ?c_is_solution) (k_is_solution := ?k_is_solution) (a_shows_empty := ?a_shows_empty) (l_shows_empty := ?l_shows_empty) (c_shows_empty := ?c_shows_empty) (k_shows_empty := ?k_shows_empty) (a_dot := ?a_dot) (l_dot := ?l_dot) (c_dot := ?c_dot) (k_dot := ?k_dot) (a_combined := ?a_combined) (l_combined := ?l_combined) (c_combined := ?c_combined) (k_combined := ?k_combined) (a_following_paper := ?a_following_paper) (l_following_paper := ?l_following_paper) (c_following_paper := ?c_following_paper) (k_following_paper := ?k_following_paper) (a_shows_following := ?a_shows_following) (l_shows_following := ?l_shows_following) (c_shows_following := ?c_shows_following) (k_shows_following := ?k_shows_following) (a_check_following := ?a_check_following) (l_check_following := ?l_check_following) (c_check_following := ?c_check_following) (k_check_following := ?k_check_following) (a__law_right := ?a__law_right) (l__law_right := ?l__law_right) (c__law_right := ?c__law_right) (k__law_right := ?k__law_right) (a__law_row := ?a__law_row) (l__law_row := ?l__law_row) (c__law_row := ?c__law_row) (k__law_row := ?k__law_row) (a__law_point := ?a__law_point) (l__law_point := ?l__law_point) (c__law_point := ?c__law_point) (k__law_point := ?k__law_point) (a_law := ?a_law) (l_law := ?l_law) (c_law := ?c_law) (k_law := ?k_law) (z_len := ?z_len) (z_range := ?z_range) (z_int := ?z_int) (z_list := ?z_list) (z_tuple := ?z_tuple) (z_bool := ?z_bool) (z_isinstance := ?z_isinstance) (z_abs := ?z_abs) (z_sum := ?z_sum) (z_zip := ?z_zip) (z_str := ?z_str) (z_any := ?z_any) (z_all := ?z_all) (z_enumerate := ?z_enumerate) (z_set := ?z_set) (z_sorted := ?z_sorted) (z_min := ?z_min) (z_max := ?z_max) (z_gcd := ?z_gcd)
    (case ac_Table => k_is)
    (case pg_Table => k_is)
    (case hd_Table => k_is)
    (case po_Table => k_is)
    (case sa_Table => k_is)
    (case mk_Table => k_is)
    (case kc_Table => k_is)
    (case na_Table_size => k_is)
    (case na_Table_many => k_is)
    (case na_Table_signs => k_is)
    (case na_Table_rows => k_is)
    (case na_Table_costs => k_is)
    (case na_Table_basis => k_is)
    (case na_Table_divisor => k_is)
    (case a__law_same => k_is)
    (case l__law_same => k_is)
    (case c__law_same => k_is)
    (case k__law_same => k_is)
    (case a__law_gcd => k_is)
    (case l__law_gcd => k_is)
    (case c__law_gcd => k_is)
    (case k__law_gcd => k_is)
    (case a__law_spread => k_is)
    (case l__law_spread => k_is)
    (case c__law_spread => k_is)
    (case k__law_spread => k_is)
    (case a__law_draw => k_is)
    (case l__law_draw => k_is)
    (case c__law_draw => k_is)
    (case k__law_draw => k_is)
    (case a__law_pool => k_is)
    (case l__law_pool => k_is)
    (case c__law_pool => k_is)
    (case k__law_pool => k_is)
    (case a_common_divisor => k_is)
    (case l_common_divisor => k_is)
    (case c_common_divisor => k_is)
    (case k_common_divisor => k_is)
    (case a_primitive => k_is)
    (case l_primitive => k_is)
    (case c_primitive => k_is)
    (case k_primitive => k_is)
    (case a_Table___init__ => k_is)
    (case i_Table___init__ => k_is)
    (case l_Table___init__ => k_is)
    (case c_Table___init__ => k_is)
    (case k_Table___init__ => k_is)
    (case a_Table_first_row => k_is)
    (case i_Table_first_row => k_is)
    (case l_Table_first_row => k_is)
    (case c_Table_first_row => k_is)
    (case k_Table_first_row => k_is)
    (case a_Table_entering => k_is)
    (case i_Table_entering => k_is)
    (case l_Table_entering => k_is)
    (case c_Table_entering => k_is)
    (case k_Table_entering => k_is)
    (case a_Table_leaving => k_is)
    (case i_Table_leaving => k_is)
    (case l_Table_leaving => k_is)
    (case c_Table_leaving => k_is)
    (case k_Table_leaving => k_is)
    (case a_Table_comes_first => k_is)
    (case i_Table_comes_first => k_is)
    (case l_Table_comes_first => k_is)
    (case c_Table_comes_first => k_is)
    (case k_Table_comes_first => k_is)
    (case a_Table_exchange => k_is)
    (case i_Table_exchange => k_is)
    (case l_Table_exchange => k_is)
    (case c_Table_exchange => k_is)
    (case k_Table_exchange => k_is)
    (case a_Table_cleared => k_is)
    (case i_Table_cleared => k_is)
    (case l_Table_cleared => k_is)
    (case c_Table_cleared => k_is)
    (case k_Table_cleared => k_is)
    (case a_Table_weights => k_is)
    (case i_Table_weights => k_is)
    (case l_Table_weights => k_is)
    (case c_Table_weights => k_is)
    (case k_Table_weights => k_is)
    (case a_Table_parting => k_is)
    (case i_Table_parting => k_is)
    (case l_Table_parting => k_is)
    (case c_Table_parting => k_is)
    (case k_Table_parting => k_is)
    (case a_weighing => k_is)
    (case l_weighing => k_is)
    (case c_weighing => k_is)
    (case k_weighing => k_is)
    (case a_is_integer => k_is)
    (case l_is_integer => k_is)
    (case c_is_integer => k_is)
    (case k_is_integer => k_is)
    (case a_is_vector => k_is)
    (case l_is_vector => k_is)
    (case c_is_vector => k_is)
    (case k_is_vector => k_is)
    (case a_is_weights => k_is)
    (case l_is_weights => k_is)
    (case c_is_weights => k_is)
    (case k_is_weights => k_is)
    (case a_is_worded => k_is)
    (case l_is_worded => k_is)
    (case c_is_worded => k_is)
    (case k_is_worded => k_is)
    (case a_is_point => k_is)
    (case l_is_point => k_is)
    (case c_is_point => k_is)
    (case k_is_point => k_is)
    (case a__law_bent => k_is)
    (case l__law_bent => k_is)
    (case c__law_bent => k_is)
    (case k__law_bent => k_is)
    (case a__law_prim => k_is)
    (case l__law_prim => k_is)
    (case c__law_prim => k_is)
    (case k__law_prim => k_is)
    (case a__law_dot => k_is)
    (case l__law_dot => k_is)
    (case c__law_dot => k_is)
    (case k__law_dot => k_is)
    (case a__law_is_integer => k_is)
    (case l__law_is_integer => k_is)
    (case c__law_is_integer => k_is)
    (case k__law_is_integer => k_is)
    (case a__law_vector => k_is)
    (case l__law_vector => k_is)
    (case c__law_vector => k_is)
    (case k__law_vector => k_is)
    (case a__law_weights => k_is)
    (case l__law_weights => k_is)
    (case c__law_weights => k_is)
    (case k__law_weights => k_is)
    (case a__law_sum => k_is)
    (case l__law_sum => k_is)
    (case c__law_sum => k_is)
    (case k__law_sum => k_is)
    (case a__law_zeros => k_is)
    (case l__law_zeros => k_is)
    (case c__law_zeros => k_is)
    (case k__law_zeros => k_is)
    (case a__law_is_point => k_is)
    (case l__law_is_point => k_is)
    (case c__law_is_point => k_is)
    (case k__law_is_point => k_is)
    (case a_satisfies => k_is)
    (case l_satisfies => k_is)
    (case c_satisfies => k_is)
    (case k_satisfies => k_is)
    (case a_is_solution => k_is)
    (case l_is_solution => k_is)
    (case c_is_solution => k_is)
    (case k_is_solution => k_is)
    (case a_shows_empty => k_is)
    (case l_shows_empty => k_is)
    (case c_shows_empty => k_is)
    (case k_shows_empty => k_is)
    (case a_dot => k_is)
    (case l_dot => k_is)
    (case c_dot => k_is)
    (case k_dot => k_is)
    (case a_combined => k_is)
    (case l_combined => k_is)
    (case c_combined => k_is)
    (case k_combined => k_is)
    (case a_following_paper => k_is)
    (case l_following_paper => k_is)
    (case c_following_paper => k_is)
    (case k_following_paper => k_is)
    (case a_shows_following => k_is)
    (case l_shows_following => k_is)
    (case c_shows_following => k_is)
    (case k_shows_following => k_is)
    (case a_check_following => k_is)
    (case l_check_following => k_is)
    (case c_check_following => k_is)
    (case k_check_following => k_is)
    (case a__law_right => k_is)
    (case l__law_right => k_is)
    (case c__law_right => k_is)
    (case k__law_right => k_is)
    (case a__law_row => k_is)
    (case l__law_row => k_is)
    (case c__law_row => k_is)
    (case k__law_row => k_is)
    (case a__law_point => k_is)
    (case l__law_point => k_is)
    (case c__law_point => k_is)
    (case k__law_point => k_is)
    (case a_law => k_is)
    (case l_law => k_is)
    (case c_law => k_is)
    (case k_law => k_is)
    (case z_len => k_is)
    (case z_range => k_is)
    (case z_int => k_is)
    (case z_list => k_is)
    (case z_tuple => k_is)
    (case z_bool => k_is)
    (case z_isinstance => k_is)
    (case z_abs => k_is)
    (case z_sum => k_is)
    (case z_zip => k_is)
    (case z_str => k_is)
    (case z_any => k_is)
    (case z_all => k_is)
    (case z_enumerate => k_is)
    (case z_set => k_is)
    (case z_sorted => k_is)
    (case z_min => k_is)
    (case z_max => k_is)
    (case z_gcd => k_is)

