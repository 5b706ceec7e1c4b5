import PyProof.Rows.All
import Wide.All
import OpenK.AllK
import Wide.FinOn
import Open.SpecLaws
import KE.OsGo
import HandS.ForSpec
import HandS.ForMost
import HandS.Conv
import HandS.Walk
import KE.GoesEnumKw
import KE.DataMinMax
import HandS.SortKw
import PySem.Challenge.RW_foldgrowth_s01_answers
import Su183Spec
import Su186Spec
import PySu186
set_option Elab.async false
set_option linter.all false
set_option maxRecDepth 100000
set_option maxHeartbeats 2100000
section
open Su183
namespace HM

theorem red_mul (d : Nat) (hd : 0 < d) (z : Int) (Q : Nat) : red ((d : Int) * z) (d * Q) = red z Q := by
  have h : Nat.gcd ((d : Int) * z).natAbs (d * Q) = d * Nat.gcd z.natAbs Q := by
    rw [Int.natAbs_mul, Int.natAbs_natCast, Nat.gcd_mul_left]
  unfold red
  rw [h]
  have hd' : (d : Int) ≠ 0 := by omega
  refine Prod.ext ?_ ?_
  · show (d : Int) * z / ((d * Nat.gcd z.natAbs Q : Nat) : Int) = z / (Nat.gcd z.natAbs Q : Int)
    rw [Int.natCast_mul, Int.mul_ediv_mul_of_pos _ _ (by omega)]
  · show d * Q / (d * Nat.gcd z.natAbs Q) = Q / Nat.gcd z.natAbs Q
    rw [Nat.mul_div_mul_left _ _ hd]

/-- A fraction and its parts: what it was made of is its parts times one number. -/
theorem red_parts (P : Int) (Q : Nat) (hQ : 0 < Q) : ∃ d : Nat, 0 < d ∧ P = (d : Int) * (red P Q).1 ∧ Q = d * (red P Q).2 ∧ 0 < (red P Q).2 := by
  refine ⟨Nat.gcd P.natAbs Q, Nat.gcd_pos_of_pos_right _ hQ, ?_, ?_, ?_⟩
  · show P = _ * (P / _)
    rw [Int.mul_ediv_cancel']
    exact Int.ofNat_dvd_left.mpr (Nat.gcd_dvd_left _ _)
  · show Q = _ * (Q / _)
    rw [Nat.mul_div_cancel' (Nat.gcd_dvd_right _ _)]
  · exact Nat.div_pos (Nat.le_of_dvd hQ (Nat.gcd_dvd_right _ _)) (Nat.gcd_pos_of_pos_right _ hQ)

theorem red_inj {P P' : Int} {Q : Nat} (hQ : 0 < Q) (h : red P Q = red P' Q) : P = P' := by
  obtain ⟨d, hd, e1, e2, e3⟩ := red_parts P Q hQ
  obtain ⟨d', hd', f1, f2, f3⟩ := red_parts P' Q hQ
  rw [← h] at f1 f2
  have : d = d' := by
    have : d * (red P Q).2 = d' * (red P Q).2 := by rw [← e2, ← f2]
    exact Nat.eq_of_mul_eq_mul_right e3 this
  subst this
  rw [e1, f1]

/-- Where a place with so many parts is put, its parts told. -/
def F (g : Abs) (Q : Nat) (P : Int) : Int :=
  (g.point (min (g.n - 1) (P / (Q : Int)).toNat) : Int) * (Q : Int) + g.slope (min (g.n - 1) (P / (Q : Int)).toNat) * (P - ((min (g.n - 1) (P / (Q : Int)).toNat : Nat) : Int) * (Q : Int))

theorem put_red (g : Abs) (P : Int) (Q : Nat) (hQ : 0 < Q) : g.put (red P Q) = red (F g Q P) Q := by
  obtain ⟨d, hd, e1, e2, e3⟩ := red_parts P Q hQ
  have hp : g.pieceOf (red P Q) = min (g.n - 1) (P / (Q : Int)).toNat := by
    unfold Abs.pieceOf
    have : P / (Q : Int) = (red P Q).1 / ((red P Q).2 : Int) := by
      generalize red P Q = x at *
      rw [e1, e2, Int.natCast_mul, Int.mul_ediv_mul_of_pos _ _ (by omega)]
    rw [this]
  unfold Abs.put F
  simp only [hp]
  generalize min (g.n - 1) (P / (Q : Int)).toNat = i
  generalize hx : red P Q = x at *
  have : (g.point i : Int) * (Q : Int) + g.slope i * (P - (i : Int) * (Q : Int)) = (d : Int) * ((g.point i : Int) * (x.2 : Int) + g.slope i * (x.1 - (i : Int) * (x.2 : Int))) := by
    rw [e1, e2, Int.natCast_mul]
    grind
  rw [this]
  conv => rhs; rw [e2]
  rw [red_mul d hd]

def It (g : Abs) (Q : Nat) : Nat → Int → Int
  | 0, P => P
  | k + 1, P => It g Q k (F g Q P)

theorem after_red (g : Abs) (Q : Nat) (hQ : 0 < Q) : ∀ (k : Nat) (P : Int), g.after (red P Q) k = red (It g Q k P) Q
  | 0, P => rfl
  | k + 1, P => by
    show g.after (g.put (red P Q)) k = _
    rw [put_red g P Q hQ, after_red g Q hQ k]
    rfl

theorem It_add (g : Abs) (Q : Nat) : ∀ (i j : Nat) (P : Int), It g Q (i + j) P = It g Q j (It g Q i P)
  | 0, j, P => by rw [Nat.zero_add]; rfl
  | i + 1, j, P => by rw [Nat.add_right_comm]; exact It_add g Q i j _

theorem It_succ (g : Abs) (Q : Nat) (i : Nat) (P : Int) : It g Q (i + 1) P = F g Q (It g Q i P) := It_add g Q i 1 P

theorem back_red (g : Abs) (Q : Nat) (hQ : 0 < Q) (P : Int) (k : Nat) : g.back (red P Q) k = true ↔ (0 < k ∧ It g Q k P = P ∧ ∀ j, 0 < j → j < k → It g Q j P ≠ P) := by
  unfold Abs.back
  simp only [Bool.and_eq_true, decide_eq_true_eq, beq_iff_eq, List.all_eq_true, List.mem_range, Bool.or_eq_true, bne_iff_ne, after_red g Q hQ]
  constructor
  · rintro ⟨h1, h2, h3⟩
    refine ⟨h1, red_inj hQ h2, fun j h4 h5 h6 => ?_⟩
    rcases h3 j h5 with h | h
    · omega
    · rw [h6] at h; exact h rfl
  · rintro ⟨h1, h2, h3⟩
    refine ⟨h1, by rw [h2], fun j h4 => ?_⟩
    by_cases h5 : j = 0
    · exact .inl h5
    · exact .inr fun h => h3 j (by omega) h4 (red_inj hQ h)

theorem ofNat_red (p : Nat) : ofNat p = red (p : Int) 1 := by
  unfold ofNat red
  simp

theorem le_l (i : Nat) (P : Int) (Q : Nat) (hQ : 0 < Q) : le (ofNat i) (red P Q) = true ↔ (i : Int) * (Q : Int) ≤ P := by
  obtain ⟨d, hd, e1, e2, e3⟩ := red_parts P Q hQ
  unfold le lt ofNat
  simp only [Bool.not_eq_true', decide_eq_false_iff_not, Int.not_lt]
  generalize red P Q = x at *
  rw [e1, e2, Int.natCast_mul]
  have : (i : Int) * ((d : Int) * (x.2 : Int)) = (d : Int) * ((i : Int) * (x.2 : Int)) := by grind
  rw [this]
  have hd' : (0 : Int) < d := by omega
  constructor
  · intro h
    exact Int.mul_le_mul_of_nonneg_left (by simpa using h) (by omega)
  · intro h
    have := Int.le_of_mul_le_mul_left h hd'
    simpa using this

theorem le_r (i : Nat) (P : Int) (Q : Nat) (hQ : 0 < Q) : le (red P Q) (ofNat i) = true ↔ P ≤ (i : Int) * (Q : Int) := by
  obtain ⟨d, hd, e1, e2, e3⟩ := red_parts P Q hQ
  unfold le lt ofNat
  simp only [Bool.not_eq_true', decide_eq_false_iff_not, Int.not_lt]
  generalize red P Q = x at *
  rw [e1, e2, Int.natCast_mul]
  have : (i : Int) * ((d : Int) * (x.2 : Int)) = (d : Int) * ((i : Int) * (x.2 : Int)) := by grind
  rw [this]
  have hd' : (0 : Int) < d := by omega
  constructor
  · intro h
    exact Int.mul_le_mul_of_nonneg_left (by simpa using h) (by omega)
  · intro h
    have := Int.le_of_mul_le_mul_left h hd'
    simpa using this

/-- A place, its parts told, goes along pieces. -/
def Fol (g : Abs) (Q : Nat) : Int → List Nat → Prop
  | _, [] => True
  | P, i :: w => ((i : Int) * Q ≤ P ∧ P ≤ ((i + 1 : Nat) : Int) * Q) ∧ Fol g Q (F g Q P) w

theorem goes_red (g : Abs) (Q : Nat) (hQ : 0 < Q) : ∀ (w : List Nat) (P : Int), g.goes (red P Q) w = true ↔ Fol g Q P w
  | [], P => by simp [Abs.goes, Fol]
  | i :: w, P => by
    unfold Abs.goes Fol
    rw [put_red g P Q hQ]
    simp only [Bool.and_eq_true, le_l i P Q hQ, le_r (i + 1) P Q hQ, goes_red g Q hQ w]
    exact and_assoc.symm

structure Ok (g : Abs) : Prop where
  pos : 0 < g.n
  top : ∀ i, g.point i ≤ g.n

/-- In a piece, its ends with it. -/
theorem F_in {g : Abs} {Q : Nat} (hQ : 0 < Q) {i : Nat} (hi : i < g.n) {P : Int} (h1 : (i : Int) * Q ≤ P) (h2 : P ≤ ((i + 1 : Nat) : Int) * Q) :
    F g Q P = (g.point i : Int) * Q + g.slope i * (P - (i : Int) * Q) := by
  have hQ' : (0 : Int) < Q := by omega
  by_cases hl : P = ((i + 1 : Nat) : Int) * Q
  · have hd : (P / (Q : Int)).toNat = i + 1 := by
      rw [hl, Int.mul_ediv_cancel _ (by omega)]; omega
    unfold F
    rw [hd]
    by_cases hm : i + 1 ≤ g.n - 1
    · rw [Nat.min_eq_right hm, hl]
      unfold Abs.slope
      have e : (((i + 1) : Nat) : Int) = (i : Int) + 1 := by omega
      rw [e]
      grind
    · rw [Nat.min_eq_left (by omega), show g.n - 1 = i by omega]
  · have hd : (P / (Q : Int)).toNat = i := by
      have : P / (Q : Int) = i := by
        have h3 : P = (P - i * Q) + i * Q := by omega
        rw [h3, Int.add_mul_ediv_right _ _ (by omega), Int.ediv_eq_zero_of_lt (by omega)]
        · omega
        · have e : ((i + 1 : Nat) : Int) * Q = (i : Int) * Q + Q := by
            rw [Int.natCast_add, Int.add_mul]; simp
          omega
      omega
    unfold F
    rw [hd, Nat.min_eq_right (by omega)]

end HM
end
section
open Su183
namespace HM

theorem cov_iff (g : Abs) (i j : Nat) : g.covers i j = true ↔ min (g.point i) (g.point (i + 1)) ≤ j ∧ j < max (g.point i) (g.point (i + 1)) := by
  unfold Abs.covers
  simp only [decide_eq_true_eq, Bool.and_eq_true]

theorem cov_two {g : Abs} {i j : Nat} (h : g.covers i j = true) : (g.point i ≤ j ∧ j + 1 ≤ g.point (i + 1)) ∨ (g.point (i + 1) ≤ j ∧ j + 1 ≤ g.point i) := by
  have := (cov_iff g i j).mp h
  omega

theorem cov_up {g : Abs} {i j : Nat} (h1 : g.point i ≤ j) (h2 : j + 1 ≤ g.point (i + 1)) : g.covers i j = true := by
  rw [cov_iff]; omega

theorem cov_dn {g : Abs} {i j : Nat} (h1 : g.point (i + 1) ≤ j) (h2 : j + 1 ≤ g.point i) : g.covers i j = true := by
  rw [cov_iff]; omega

theorem slope_ne {g : Abs} {i j : Nat} (h : g.covers i j = true) : g.slope i ≠ 0 := by
  have := cov_two h
  unfold Abs.slope
  omega

/-- What comes into a piece that's covered comes from the piece. -/
theorem cov_from {g : Abs} {i j : Nat} (h : g.covers i j = true) {Q : Nat} {P : Int}
    (h1 : (j : Int) * Q ≤ (g.point i : Int) * Q + g.slope i * (P - (i : Int) * Q))
    (h2 : (g.point i : Int) * Q + g.slope i * (P - (i : Int) * Q) ≤ ((j + 1 : Nat) : Int) * Q) :
    (i : Int) * Q ≤ P ∧ P ≤ ((i + 1 : Nat) : Int) * Q := by
  generalize hu : P - (i : Int) * Q = u at *
  have hQ : (0 : Int) ≤ Q := by omega
  have goal : 0 ≤ u ∧ u ≤ Q → (i : Int) * Q ≤ P ∧ P ≤ ((i + 1 : Nat) : Int) * Q := by
    intro ⟨a, b⟩
    have e : ((i + 1 : Nat) : Int) * Q = (i : Int) * Q + Q := by
      rw [Int.natCast_add, Int.add_mul]; simp
    omega
  apply goal
  have es : g.slope i = (g.point (i + 1) : Int) - (g.point i : Int) := rfl
  rcases cov_two h with ⟨a, b⟩ | ⟨a, b⟩
  · have hs : 0 < g.slope i := by omega
    constructor
    · have x1 : (g.point i : Int) * Q ≤ (j : Int) * Q := Int.mul_le_mul_of_nonneg_right (by omega) hQ
      have x2 : g.slope i * 0 ≤ g.slope i * u := by rw [Int.mul_zero]; omega
      exact Int.le_of_mul_le_mul_left x2 hs
    · have x1 : ((j + 1 : Nat) : Int) * Q ≤ (g.point (i + 1) : Int) * Q := Int.mul_le_mul_of_nonneg_right (by omega) hQ
      have x3 : (g.point (i + 1) : Int) * Q = (g.point i : Int) * Q + g.slope i * Q := by rw [es]; grind
      have x2 : g.slope i * u ≤ g.slope i * Q := by omega
      exact Int.le_of_mul_le_mul_left x2 hs
  · have hs : 0 < - g.slope i := by omega
    have nu : (- g.slope i) * u = - (g.slope i * u) := by grind
    have nq : (- g.slope i) * (Q : Int) = - (g.slope i * Q) := by grind
    constructor
    · have x1 : ((j + 1 : Nat) : Int) * Q ≤ (g.point i : Int) * Q := Int.mul_le_mul_of_nonneg_right (by omega) hQ
      have x2 : (- g.slope i) * 0 ≤ (- g.slope i) * u := by rw [Int.mul_zero]; omega
      exact Int.le_of_mul_le_mul_left x2 hs
    · have x1 : (g.point (i + 1) : Int) * Q ≤ (j : Int) * Q := Int.mul_le_mul_of_nonneg_right (by omega) hQ
      have x3 : (g.point (i + 1) : Int) * Q = (g.point i : Int) * Q + g.slope i * Q := by rw [es]; grind
      have x2 : (- g.slope i) * u ≤ (- g.slope i) * Q := by omega
      exact Int.le_of_mul_le_mul_left x2 hs

/-- Pieces, each covering the next one, the last covering z. -/
def Ch (g : Abs) : List Nat → Nat → Prop
  | [], _ => True
  | i :: w, z => i < g.n ∧ g.covers i (w.headD z) = true ∧ Ch g w z

def al (g : Abs) (z : Int × Int) (w : List Nat) : Int × Int := w.foldl (fun z i => (g.slope i * z.1, (g.point i : Int) + g.slope i * (z.2 - (i : Int)))) z

theorem al_cons (g : Abs) (z : Int × Int) (i : Nat) (w : List Nat) : al g z (i :: w) = al g (g.slope i * z.1, (g.point i : Int) + g.slope i * (z.2 - (i : Int))) w := rfl

theorem al_ne {g : Abs} : ∀ (w : List Nat) (t : Nat) (z : Int × Int), Ch g w t → z.1 ≠ 0 → (al g z w).1 ≠ 0
  | [], _, _, _, h => h
  | i :: w, t, z, ⟨_, h1, h2⟩, h => by
    rw [al_cons]
    exact al_ne w t _ h2 (Int.mul_ne_zero (slope_ne h1) h)

/-- What comes, by a way's own map, into a piece behind it, goes along the way. -/
theorem follow {g : Abs} {Q : Nat} (hQ : 0 < Q) : ∀ (w : List Nat) (t : Nat) (z : Int × Int) (P : Int), Ch g w t →
    (t : Int) * Q ≤ (al g z w).1 * P + (al g z w).2 * Q → (al g z w).1 * P + (al g z w).2 * Q ≤ ((t + 1 : Nat) : Int) * Q →
    Fol g Q (z.1 * P + z.2 * Q) w ∧ It g Q w.length (z.1 * P + z.2 * Q) = (al g z w).1 * P + (al g z w).2 * Q
      ∧ (((w.headD t : Nat) : Int) * Q ≤ z.1 * P + z.2 * Q ∧ z.1 * P + z.2 * Q ≤ ((w.headD t + 1 : Nat) : Int) * Q)
  | [], t, z, P, _, h1, h2 => ⟨trivial, rfl, h1, h2⟩
  | i :: w, t, z, P, ⟨hi, hc, hw⟩, h1, h2 => by
    rw [al_cons] at h1 h2
    obtain ⟨f1, f2, f3, f4⟩ := follow hQ w t _ P hw h1 h2
    have e : (g.slope i * z.1) * P + ((g.point i : Int) + g.slope i * (z.2 - (i : Int))) * Q = (g.point i : Int) * Q + g.slope i * ((z.1 * P + z.2 * Q) - (i : Int) * Q) := by grind
    rw [e] at f1 f2 f3 f4
    have c := cov_from hc f3 f4
    have ef := F_in hQ hi c.1 c.2
    refine ⟨⟨c, ?_⟩, ?_, c⟩
    · rw [ef]; exact f1
    · rw [al_cons, ← f2, List.length_cons]
      show It g Q w.length (F g Q _) = _
      rw [ef]

/-- A loop of so many steps, its last piece left away. -/
structure Loop (g : Abs) (k : Nat) (w : List Nat) : Prop where
  pos : 0 < k
  len : w.length = k
  ch : Ch g w (w.headD 0)

theorem loop_ne {g : Abs} {k : Nat} {w : List Nat} (h : Loop g k w) : ∃ i v, w = i :: v := by
  cases w with
  | nil => have := h.pos; have := h.len; simp at this; omega
  | cons i v => exact ⟨i, v, rfl⟩

theorem along_al (g : Abs) (w : List Nat) : g.along w = al g (1, 0) w := rfl

theorem fixed_pos {i a b : Int} (h1 : i * a ≤ i - b) (h2 : i + 1 - b ≤ (i + 1) * a) : i * (a - 1) ≤ - b ∧ - b ≤ (i + 1) * (a - 1) := by
  constructor <;> grind
theorem fixed_neg {i a b : Int} (h1 : i * (-a) ≤ b - i) (h2 : b - i - 1 ≤ (i + 1) * (-a)) : i * (1 - a) ≤ b ∧ b ≤ (i + 1) * (1 - a) := by
  constructor <;> grind

theorem given_neg {g : Abs} {w : List Nat} {a b : Int} (hz : g.along w = (a, b)) (ha : a < 1) (h : g.goes (red b (1 - a).toNat) w = true) : g.given w = [red b (1 - a).toNat] := by
  unfold Abs.given
  simp only [hz]
  rw [if_neg (by omega), if_pos ha, if_pos h]
theorem given_pos {g : Abs} {w : List Nat} {a b : Int} (hz : g.along w = (a, b)) (ha : 1 < a) (h : g.goes (red (-b) (a - 1).toNat) w = true) : g.given w = [red (-b) (a - 1).toNat] := by
  unfold Abs.given
  simp only [hz]
  rw [if_neg (show ¬ a = 1 by omega), if_neg (show ¬ a < 1 by omega), if_pos h]
theorem given_one {g : Abs} {w : List Nat} (hz : g.along w = (1, 0)) : g.given w = [red (3 * (w.headD 0 : Int) + 1) 3] := by
  unfold Abs.given
  simp only [hz]
  rfl

/-- Each loop gives just one place, and it goes along the loop and comes back. -/
theorem loop_place {g : Abs} {k : Nat} {w : List Nat} (h : Loop g k w) : ∃ (P : Int) (Q : Nat), 0 < Q ∧ g.given w = [red P Q] ∧ Fol g Q P w ∧ It g Q k P = P
    ∧ ((g.along w = (1, 0) ∧ P = 3 * (w.headD 0 : Int) + 1 ∧ Q = 3) ∨ (g.along w).1 ≠ 1) ∧ (((w.headD 0 : Nat) : Int) * Q ≤ P ∧ P ≤ ((w.headD 0 + 1 : Nat) : Int) * Q) := by
  have hne := al_ne w (w.headD 0) (1, 0) h.ch (by decide)
  generalize hi : w.headD 0 = i at *
  have chi : Ch g w i := by have := h.ch; rw [hi] at this; exact this
  -- what comes back to the piece's two ends
  have key : ∀ (Q : Nat) (P : Int), 0 < Q → (i : Int) * Q ≤ (al g (1, 0) w).1 * P + (al g (1, 0) w).2 * Q → (al g (1, 0) w).1 * P + (al g (1, 0) w).2 * Q ≤ ((i + 1 : Nat) : Int) * Q →
      Fol g Q P w ∧ It g Q k P = (al g (1, 0) w).1 * P + (al g (1, 0) w).2 * Q ∧ ((i : Int) * Q ≤ P ∧ P ≤ ((i + 1 : Nat) : Int) * Q) := by
    intro Q P hQ h1 h2
    have := follow hQ w i (1, 0) P chi h1 h2
    have e : (1 : Int) * P + 0 * (Q : Int) = P := by omega
    simp only [e, h.len] at this
    obtain ⟨v, u, hw⟩ := loop_ne h
    have hv : w.headD i = i := by subst hw; simpa using hi
    rw [hv] at this
    exact this
  obtain ⟨a, b, hz⟩ : ∃ a b, al g (1, 0) w = (a, b) := ⟨_, _, rfl⟩
  have hz' : g.along w = (a, b) := hz
  simp only [hz] at hne key
  rw [hz']
  have e1 : ((i + 1 : Nat) : Int) = (i : Int) + 1 := by omega
  rw [e1] at *
  rcases Int.lt_or_gt_of_ne hne with hneg | hpos
  · -- below 0
    have hq : ((-a).toNat : Int) = -a := by omega
    have k1 := key (-a).toNat (b - i) (by omega) (by rw [hq]; grind) (by rw [hq]; grind)
    have k2 := key (-a).toNat (b - i - 1) (by omega) (by rw [hq]; grind) (by rw [hq]; grind)
    rw [hq] at k1 k2
    have q := fixed_neg k1.2.2.1 k2.2.2.2
    have hQ : ((1 - a).toNat : Int) = 1 - a := by omega
    have eP : a * b + b * ((1 - a).toNat : Int) = b := by rw [hQ]; grind
    have k3 := key (1 - a).toNat b (by omega) (by rw [eP, hQ]; exact q.1) (by rw [eP, hQ]; exact q.2)
    refine ⟨b, (1 - a).toNat, by omega, ?_, k3.1, by rw [k3.2.1, eP], .inr (by omega), k3.2.2⟩
    exact given_neg hz' (by omega) ((goes_red g _ (by omega) w b).mpr k3.1)
  · have hq : (a.toNat : Int) = a := by omega
    have k1 := key a.toNat (i - b) (by omega) (by rw [hq]; grind) (by rw [hq]; grind)
    have k2 := key a.toNat (i + 1 - b) (by omega) (by rw [hq]; grind) (by rw [hq]; grind)
    rw [hq] at k1 k2
    by_cases ha : a = 1
    · subst ha
      have hb : b = 0 := by omega
      subst hb
      have k3 := key 3 (3 * i + 1) (by omega) (by omega) (by omega)
      refine ⟨3 * i + 1, 3, by omega, ?_, k3.1, by rw [k3.2.1]; omega, .inl ⟨rfl, rfl, rfl⟩, by omega⟩
      rw [given_one hz', hi]
    · have q := fixed_pos k1.2.2.1 k2.2.2.2
      have hQ : ((a - 1).toNat : Int) = a - 1 := by omega
      have eP : a * (-b) + b * ((a - 1).toNat : Int) = -b := by rw [hQ]; grind
      have k3 := key (a - 1).toNat (-b) (by omega) (by rw [eP, hQ]; exact q.1) (by rw [eP, hQ]; exact q.2)
      refine ⟨-b, (a - 1).toNat, by omega, ?_, k3.1, by rw [k3.2.1, eP], .inr (by omega), k3.2.2⟩
      exact given_pos hz' (by omega) ((goes_red g _ (by omega) w (-b)).mpr k3.1)

end HM
end
section
open Su183
namespace HM

theorem loopsFrom_two (g : Abs) (i j k : Nat) : g.loopsFrom i j (k + 2) = ((List.range g.n).filter (g.covers j)).flatMap fun l => (g.loopsFrom i l (k + 1)).map fun w => j :: w := by
  rw [Abs.loopsFrom]
theorem loopsFrom_one (g : Abs) (i j : Nat) : g.loopsFrom i j 1 = if g.covers j i = true then [[j]] else [] := by
  rw [Abs.loopsFrom]

theorem mem_loopsFrom {g : Abs} {i : Nat} : ∀ (k j : Nat) (w : List Nat), j < g.n → (w ∈ g.loopsFrom i j (k + 1) ↔ w.length = k + 1 ∧ (∃ v, w = j :: v) ∧ Ch g w i)
  | 0, j, w, hj => by
    rw [loopsFrom_one]
    constructor
    · intro h
      split at h
      · rename_i hc
        have : w = [j] := by simpa using h
        subst this
        exact ⟨rfl, ⟨[], rfl⟩, hj, hc, trivial⟩
      · simp at h
    · rintro ⟨h1, ⟨v, rfl⟩, h2⟩
      have : v = [] := by
        cases v with
        | nil => rfl
        | cons a b => simp at h1
      subst this
      rw [if_pos (show g.covers j i = true from h2.2.1)]
      simp
  | k + 1, j, w, hj => by
    rw [loopsFrom_two]
    simp only [List.mem_flatMap, List.mem_filter, List.mem_range, List.mem_map]
    constructor
    · rintro ⟨l, ⟨hl, hc⟩, v, hv, rfl⟩
      obtain ⟨h1, ⟨u, rfl⟩, h2⟩ := (mem_loopsFrom k l v hl).mp hv
      refine ⟨by simp at h1 ⊢; omega, ⟨_, rfl⟩, hj, hc, h2⟩
    · rintro ⟨h1, ⟨v, rfl⟩, h2⟩
      cases v with
      | nil => simp at h1
      | cons l u =>
        have hl : l < g.n := h2.2.2.1
        exact ⟨l, ⟨hl, h2.2.1⟩, l :: u, (mem_loopsFrom k l _ hl).mpr ⟨by simpa using h1, ⟨u, rfl⟩, h2.2.2⟩, rfl⟩

/-- All loops of so many steps. -/
def AllLoops (g : Abs) (k : Nat) : List (List Nat) := (List.range g.n).flatMap fun i => g.loopsFrom i i k

theorem mem_all {g : Abs} {k : Nat} {w : List Nat} : w ∈ AllLoops g k ↔ Loop g k w := by
  unfold AllLoops
  simp only [List.mem_flatMap, List.mem_range]
  constructor
  · rintro ⟨i, hi, h⟩
    cases k with
    | zero => rw [Abs.loopsFrom] at h; simp at h
    | succ k =>
      obtain ⟨h1, ⟨v, rfl⟩, h2⟩ := (mem_loopsFrom k i w hi).mp h
      exact ⟨by omega, h1, h2⟩
  · intro h
    obtain ⟨i, v, rfl⟩ := loop_ne h
    have hi : i < g.n := h.ch.1
    have hk : k = (k - 1) + 1 := by have := h.pos; omega
    refine ⟨i, hi, ?_⟩
    rw [hk, mem_loopsFrom _ _ _ hi]
    exact ⟨by rw [h.len]; omega, ⟨v, rfl⟩, h.ch⟩

theorem has_iff {g : Abs} {k : Nat} : g.has k = true ↔ (∃ p, p ≤ g.n ∧ g.back (red (p : Int) 1) k = true) ∨ (∃ w, Loop g k w ∧ ∃ x ∈ g.given w, g.back x k = true) := by
  unfold Abs.has Abs.found
  rw [Bool.not_eq_true', ← Bool.not_eq_true, List.isEmpty_iff]
  constructor
  · intro h
    obtain ⟨x, hx⟩ := List.exists_mem_of_ne_nil _ h
    rw [List.mem_filter, List.mem_append] at hx
    obtain ⟨h1 | h1, hb⟩ := hx
    · obtain ⟨p, hp, rfl⟩ := List.mem_map.mp h1
      rw [ofNat_red] at hb
      exact .inl ⟨p, by simpa [Nat.lt_succ_iff] using hp, hb⟩
    · obtain ⟨i, hi, h2⟩ := List.mem_flatMap.mp h1
      obtain ⟨w, hw, h3⟩ := List.mem_flatMap.mp h2
      exact .inr ⟨w, mem_all.mp (List.mem_flatMap.mpr ⟨i, hi, hw⟩), x, h3, hb⟩
  · intro h e
    have no : ∀ x, x ∉ ([] : List Frac) := fun x => List.not_mem_nil
    rcases h with ⟨p, hp, hb⟩ | ⟨w, hw, x, hx, hb⟩
    · apply no (red (p : Int) 1)
      rw [← e, List.mem_filter, List.mem_append]
      exact ⟨.inl (List.mem_map.mpr ⟨p, by simp; omega, ofNat_red p⟩), hb⟩
    · apply no x
      obtain ⟨i, hi, h2⟩ := List.mem_flatMap.mp (mem_all.mpr hw)
      rw [← e, List.mem_filter, List.mem_append]
      exact ⟨.inr (List.mem_flatMap.mpr ⟨i, hi, List.mem_flatMap.mpr ⟨w, h2, hx⟩⟩), hb⟩

theorem nodup_from {g : Abs} {i : Nat} : ∀ (k j : Nat), (g.loopsFrom i j k).Nodup
  | 0, j => by rw [Abs.loopsFrom]; exact List.nodup_nil
  | 1, j => by
    rw [loopsFrom_one]
    split <;> simp
  | k + 2, j => by
    rw [loopsFrom_two]
    have key : ∀ (l : List Nat), l.Nodup → (∀ x ∈ l, x < g.n) → (l.flatMap fun l => (g.loopsFrom i l (k + 1)).map fun w => j :: w).Nodup := by
      intro l
      induction l with
      | nil => intro _ _; exact List.nodup_nil
      | cons a l ih =>
        intro hl hn
        rw [List.flatMap_cons, List.nodup_append]
        rw [List.nodup_cons] at hl
        refine ⟨?_, ih hl.2 (fun x hx => hn x (List.mem_cons_of_mem _ hx)), ?_⟩
        · have := nodup_from (g := g) (i := i) (k + 1) a
          unfold List.Nodup at *
          rw [List.pairwise_map]
          exact this.imp (fun h e => h (List.cons.inj e).2)
        · intro x hx y hy e
          subst e
          obtain ⟨u, hu, rfl⟩ := List.mem_map.mp hx
          obtain ⟨b, hb, h2⟩ := List.mem_flatMap.mp hy
          obtain ⟨u', hu', e'⟩ := List.mem_map.mp h2
          have e2 := (List.cons.inj e').2
          subst e2
          obtain ⟨_, ⟨v, rfl⟩, _⟩ := (mem_loopsFrom k a _ (hn a (List.mem_cons_self))).mp hu
          obtain ⟨_, ⟨v', e3⟩, _⟩ := (mem_loopsFrom k b _ (hn b (List.mem_cons_of_mem _ hb))).mp hu'
          have := (List.cons.inj e3).1
          subst this
          exact hl.1 hb
    exact key _ (List.nodup_range.filter _) (fun x hx => by simpa using (List.mem_filter.mp hx).1)

theorem nodup_all {g : Abs} {k : Nat} : (AllLoops g k).Nodup := by
  unfold AllLoops
  have key : ∀ (l : List Nat), l.Nodup → (∀ x ∈ l, x < g.n) → (l.flatMap fun i => g.loopsFrom i i k).Nodup := by
    intro l
    induction l with
    | nil => intro _ _; exact List.nodup_nil
    | cons a l ih =>
      intro hl hn
      rw [List.flatMap_cons, List.nodup_append]
      rw [List.nodup_cons] at hl
      refine ⟨nodup_from k a, ih hl.2 (fun x hx => hn x (List.mem_cons_of_mem _ hx)), ?_⟩
      intro x hx y hy e
      subst e
      obtain ⟨b, hb, h2⟩ := List.mem_flatMap.mp hy
      cases k with
      | zero => rw [Abs.loopsFrom] at hx; simp at hx
      | succ k =>
        obtain ⟨_, ⟨v, rfl⟩, _⟩ := (mem_loopsFrom k a _ (hn a (List.mem_cons_self))).mp hx
        obtain ⟨_, ⟨v', e3⟩, _⟩ := (mem_loopsFrom k b _ (hn b (List.mem_cons_of_mem _ hb))).mp h2
        have := (List.cons.inj e3).1
        subst this
        exact hl.1 hb
  exact key _ List.nodup_range (fun x hx => by simpa using hx)

end HM
end
section
open Su183
namespace HM

theorem ch_get {g : Abs} : ∀ (w : List Nat) (z : Nat), Ch g w z → ∀ i, i < w.length → w.getD i 0 < g.n ∧ g.covers (w.getD i 0) (w.getD (i + 1) z) = true
  | [], _, _, i, h => by simp at h
  | a :: w, z, ⟨h1, h2, h3⟩, 0, _ => by
    refine ⟨h1, ?_⟩
    cases w with
    | nil => exact h2
    | cons b w => exact h2
  | a :: w, z, ⟨h1, h2, h3⟩, i + 1, h => by
    have := ch_get w z h3 i (by simpa using h)
    simpa using this

theorem fol_get {g : Abs} {Q : Nat} : ∀ (w : List Nat) (P : Int), Fol g Q P w → ∀ i, i < w.length → ((w.getD i 0 : Nat) : Int) * Q ≤ It g Q i P ∧ It g Q i P ≤ ((w.getD i 0 + 1 : Nat) : Int) * Q
  | [], _, _, i, h => by simp at h
  | a :: w, P, ⟨h1, _⟩, 0, _ => h1
  | a :: w, P, ⟨h1, h2⟩, i + 1, h => by
    have := fol_get w _ h2 i (by simpa using h)
    rw [List.getD_cons_succ]
    exact this

def cyc (w : List Nat) (k j : Nat) : Nat := w.getD (j % k) 0

/-- A loop and a place that goes along it, on and on. -/
structure Go (g : Abs) (Q k : Nat) (W : Nat → Nat) (X : Nat → Int) : Prop where
  pos : 0 < k
  den : 0 < Q
  lt : ∀ i, W i < g.n
  cov : ∀ i, g.covers (W i) (W (i + 1)) = true
  per : ∀ i, W (i + k) = W i
  inn : ∀ i, ((W i : Nat) : Int) * Q ≤ X i ∧ X i ≤ ((W i + 1 : Nat) : Int) * Q
  it : ∀ i, X i = It g Q i (X 0)
  back : X k = X 0

theorem Go.nxt {g Q k W X} (h : Go g Q k W X) (i : Nat) : X (i + 1) = F g Q (X i) := by
  rw [h.it (i + 1), It_succ, ← h.it i]

theorem Go.perX {g Q k W X} (h : Go g Q k W X) (i : Nat) : X (i + k) = X i := by
  rw [h.it (i + k), Nat.add_comm, It_add, ← h.it k, h.back, ← h.it i]

theorem cyc_cov {g : Abs} {k : Nat} {w : List Nat} (h : Loop g k w) (i : Nat) : cyc w k i < g.n ∧ g.covers (cyc w k i) (cyc w k (i + 1)) = true := by
  have hm := Nat.mod_lt i h.pos
  have := ch_get w _ h.ch (i % k) (by rw [h.len]; exact hm)
  refine ⟨this.1, ?_⟩
  unfold cyc
  by_cases he : i % k + 1 < k
  · have e : (i + 1) % k = i % k + 1 := by
      rw [Nat.add_mod, Nat.mod_eq_of_lt (a := 1) (by omega), Nat.mod_eq_of_lt he]
    rw [e]
    have e2 : w.getD (i % k + 1) (w.headD 0) = w.getD (i % k + 1) 0 := by
      rw [List.getD_eq_getElem?_getD, List.getD_eq_getElem?_getD, List.getElem?_eq_getElem (by rw [h.len]; exact he)]
      rfl
    rw [← e2]; exact this.2
  · have e : (i + 1) % k = 0 := by
      have e1 : i % k + 1 = k := by omega
      rw [← Nat.mod_add_mod, e1, Nat.mod_self]
    rw [e]
    have e2 : w.getD (i % k + 1) (w.headD 0) = w.headD 0 := by
      rw [List.getD_eq_getElem?_getD, List.getElem?_eq_none (by rw [h.len]; omega)]
      rfl
    rw [e2] at this
    have e3 : w.getD 0 0 = w.headD 0 := by cases w <;> rfl
    rw [e3]; exact this.2

theorem cyc_per (w : List Nat) (k i : Nat) : cyc w k (i + k) = cyc w k i := by
  unfold cyc; rw [Nat.add_mod_right]

theorem It_per {g : Abs} {Q k : Nat} {P : Int} (h : It g Q k P = P) : ∀ i m, It g Q (i + k * m) P = It g Q i P := by
  intro i m
  induction m with
  | zero => rfl
  | succ m ih =>
    rw [Nat.mul_succ, ← Nat.add_assoc, Nat.add_comm, It_add, h, ih]

theorem go_of {g : Abs} {k : Nat} {w : List Nat} (h : Loop g k w) {P : Int} {Q : Nat} (hQ : 0 < Q) (hf : Fol g Q P w) (hb : It g Q k P = P) :
    Go g Q k (cyc w k) (fun i => It g Q i P) where
  pos := h.pos
  den := hQ
  lt := fun i => (cyc_cov h i).1
  cov := fun i => (cyc_cov h i).2
  per := cyc_per w k
  inn := fun i => by
    have e : It g Q i P = It g Q (i % k) P := by
      conv => lhs; rw [← Nat.mod_add_div i k]
      rw [It_per hb]
    rw [e]
    exact fol_get w P hf (i % k) (by rw [h.len]; exact Nat.mod_lt i h.pos)
  it := fun i => rfl
  back := hb

/-- Two pieces that a place is in: it's the point between them. -/
theorem between {a b Q : Nat} {x : Int} (hQ : 0 < Q) (h1 : (a : Int) * Q ≤ x) (h2 : x ≤ ((a + 1 : Nat) : Int) * Q) (h3 : (b : Int) * Q ≤ x) (h4 : x ≤ ((b + 1 : Nat) : Int) * Q) (h : a ≠ b) :
    ∃ y : Nat, x = (y : Int) * Q ∧ a ≤ y ∧ y ≤ a + 1 ∧ b ≤ y ∧ y ≤ b + 1 := by
  have hQ' : (0 : Int) < Q := by omega
  rcases Nat.lt_or_gt_of_ne h with hl | hl
  · have e1 : ((a + 1 : Nat) : Int) * Q ≤ (b : Int) * Q := Int.mul_le_mul_of_nonneg_right (by omega) (by omega)
    have e2 : (b : Int) ≤ ((a + 1 : Nat) : Int) := Int.le_of_mul_le_mul_right (by omega : (b : Int) * Q ≤ ((a + 1 : Nat) : Int) * Q) hQ'
    exact ⟨b, by omega, by omega, by omega, by omega, by omega⟩
  · have e1 : ((b + 1 : Nat) : Int) * Q ≤ (a : Int) * Q := Int.mul_le_mul_of_nonneg_right (by omega) (by omega)
    have e2 : (a : Int) ≤ ((b + 1 : Nat) : Int) := Int.le_of_mul_le_mul_right (by omega : (a : Int) * Q ≤ ((b + 1 : Nat) : Int) * Q) hQ'
    exact ⟨a, by omega, by omega, by omega, by omega, by omega⟩

theorem F_point {g : Abs} (ok : Ok g) {Q : Nat} (hQ : 0 < Q) {y : Nat} (hy : y ≤ g.n) : F g Q ((y : Int) * Q) = (g.point y : Int) * Q := by
  have hp := ok.pos
  have hQ' : (0 : Int) ≤ Q := by omega
  by_cases h : y < g.n
  · rw [F_in hQ h (Int.le_refl _) (Int.mul_le_mul_of_nonneg_right (by omega) hQ')]
    rw [Int.sub_self, Int.mul_zero, Int.add_zero]
  · obtain ⟨z, rfl⟩ : ∃ z, y = z + 1 := ⟨y - 1, by omega⟩
    rw [F_in (i := z) hQ (by omega) (Int.mul_le_mul_of_nonneg_right (by omega) hQ') (Int.le_refl _)]
    unfold Abs.slope
    rw [Int.natCast_add]
    grind

/-- Where a point is behind so many steps. -/
def tp (g : Abs) : Nat → Nat → Nat
  | 0, p => p
  | k + 1, p => tp g k (g.point p)

theorem tp_succ (g : Abs) : ∀ k p, tp g (k + 1) p = g.point (tp g k p)
  | 0, p => rfl
  | k + 1, p => tp_succ g k (g.point p)

theorem tp_le {g : Abs} (ok : Ok g) : ∀ k p, p ≤ g.n → tp g k p ≤ g.n
  | 0, p, h => h
  | k + 1, p, _ => tp_le ok k _ (ok.top p)

theorem It_point {g : Abs} (ok : Ok g) {Q : Nat} (hQ : 0 < Q) : ∀ k y, y ≤ g.n → It g Q k ((y : Int) * Q) = (tp g k y : Int) * Q
  | 0, y, _ => rfl
  | k + 1, y, hy => by
    show It g Q k (F g Q _) = _
    rw [F_point ok hQ hy, It_point ok hQ k _ (ok.top y)]
    rfl

theorem back_point {g : Abs} (ok : Ok g) {p : Nat} (hp : p ≤ g.n) (k : Nat) : g.back (red (p : Int) 1) k = true ↔ (0 < k ∧ tp g k p = p ∧ ∀ j, 0 < j → j < k → tp g j p ≠ p) := by
  rw [back_red g 1 (by decide)]
  have e : ∀ j, It g 1 j (p : Int) = (tp g j p : Int) := fun j => by
    have := It_point ok (Q := 1) (by decide) j p hp
    simpa using this
  simp only [e]
  constructor
  · rintro ⟨a, b, c⟩; exact ⟨a, by omega, fun j h1 h2 h3 => c j h1 h2 (by omega)⟩
  · rintro ⟨a, b, c⟩; exact ⟨a, by omega, fun j h1 h2 h3 => c j h1 h2 (by omega)⟩

/-- Behind the steps that divide both. -/
theorem It_gcd {g : Abs} {Q : Nat} {P : Int} : ∀ a b, It g Q a P = P → It g Q b P = P → It g Q (Nat.gcd a b) P = P := by
  intro a b
  induction a, b using Nat.gcd.induction with
  | H0 b => intro _ h; rwa [Nat.gcd_zero_left]
  | H1 a b ha ih =>
    intro h1 h2
    rw [Nat.gcd_rec]
    refine ih ?_ h1
    have e := It_per h1 (b % a) (b / a)
    rw [Nat.mod_add_div] at e
    rw [← e, h2]

theorem tp_gcd {g : Abs} (ok : Ok g) {p : Nat} (hp : p ≤ g.n) (a b : Nat) (h1 : tp g a p = p) (h2 : tp g b p = p) : tp g (Nat.gcd a b) p = p := by
  have e : ∀ j, It g 1 j (p : Int) = (tp g j p : Int) := fun j => by
    have := It_point ok (Q := 1) (by decide) j p hp
    simpa using this
  have := It_gcd (g := g) (Q := 1) (P := (p : Int)) a b (by rw [e]; omega) (by rw [e]; omega)
  rw [e] at this
  omega

/-- It is no shorter loop, gone through again and again. -/
def PrimW (k : Nat) (W : Nat → Nat) : Prop := ∀ m d, 1 < m → k = m * d → ¬ ∀ j, W (j + d) = W j

theorem det {g : Abs} {y a b a' : Nat} (h1 : a ≤ y) (h2 : y ≤ a + 1) (hb : g.covers a b = true) (ha' : g.covers a a' = true) (h3 : b ≤ g.point y) (h4 : g.point y ≤ b + 1) (h5 : a' ≤ g.point y) (h6 : g.point y ≤ a' + 1) : b = a' := by
  have c1 := cov_two hb
  have c2 := cov_two ha'
  have : y = a ∨ y = a + 1 := by omega
  rcases this with rfl | rfl <;> omega

/-- A whole loop whose place comes back ahead of it: a point on whose other side it goes on, half the loop's steps. -/
theorem turned_about {g : Abs} (ok : Ok g) {Q k : Nat} {W : Nat → Nat} {X : Nat → Int} (h : Go g Q k W X) (hp : PrimW k W) {j : Nat} (hj : 0 < j) (hjk : j < k) (hX : X j = X 0) :
    ∃ (d : Nat) (Y : Nat → Nat), k = 2 * d ∧ 0 < d ∧ (∀ i, Y i ≤ g.n ∧ Y (i + 1) = g.point (Y i) ∧ X i = (Y i : Int) * Q ∧ W i ≤ Y i ∧ Y i ≤ W i + 1 ∧ Y (i + d) = Y i) ∧ (∀ i, W (i + d) ≠ W i) := by
  -- steps that divide k
  obtain ⟨d, m, hd, hm, hk, hXd⟩ : ∃ d m, 0 < d ∧ 1 < m ∧ k = m * d ∧ X d = X 0 := by
    have hg := It_gcd (g := g) (Q := Q) (P := X 0) j k (by rw [← h.it]; exact hX) (by rw [← h.it]; exact h.back)
    have g1 : 0 < Nat.gcd j k := Nat.gcd_pos_of_pos_left _ hj
    have g2 : Nat.gcd j k ≤ j := Nat.le_of_dvd hj (Nat.gcd_dvd_left _ _)
    have g3 : Nat.gcd j k * (k / Nat.gcd j k) = k := Nat.mul_div_cancel' (Nat.gcd_dvd_right _ _)
    refine ⟨Nat.gcd j k, k / Nat.gcd j k, g1, ?_, by rw [Nat.mul_comm]; exact g3.symm, by rw [h.it]; exact hg⟩
    have : ¬ k / Nat.gcd j k ≤ 1 := by
      intro hc
      have : Nat.gcd j k * (k / Nat.gcd j k) ≤ Nat.gcd j k * 1 := Nat.mul_le_mul_left _ hc
      omega
    omega
  have hper : ∀ i, X (i + d) = X i := fun i => by
    rw [h.it (i + d), Nat.add_comm, It_add, ← h.it d, hXd, ← h.it i]
  -- it's a point
  have hns := hp m d hm hk
  have hex : ∃ i, W (i + d) ≠ W i := Classical.byContradiction fun hc => hns fun i => Classical.byContradiction fun hh => hc ⟨i, hh⟩
  obtain ⟨i0, hi0⟩ := hex
  obtain ⟨y, hy, hy1, hy2, hy3, hy4⟩ := between h.den (h.inn i0).1 (h.inn i0).2 (by have := (h.inn (i0 + d)).1; rw [hper] at this; exact this) (by have := (h.inn (i0 + d)).2; rw [hper] at this; exact this) (Ne.symm hi0)
  have hyn : y ≤ g.n := by have := h.lt i0; omega
  have hshift : ∀ i, X i = (tp g (k * i0 - i0 + i) y : Int) * Q := fun i => by
    have e1 : X i = X (i + k * i0) := by
      rw [h.it (i + k * i0), It_per (by rw [← h.it]; exact h.back), ← h.it i]
    have hle : i0 ≤ k * i0 := Nat.le_mul_of_pos_left _ h.pos
    have e2 : i + k * i0 = i0 + (k * i0 - i0 + i) := by omega
    rw [e1, e2, h.it, It_add, ← h.it i0, hy, It_point ok h.den _ _ hyn]
  refine ⟨d, fun i => tp g (k * i0 - i0 + i) y, ?_⟩
  generalize hY : (fun i => tp g (k * i0 - i0 + i) y) = Y
  have hXY : ∀ i, X i = (Y i : Int) * Q := fun i => by rw [← hY]; exact hshift i
  have hYn : ∀ i, Y i ≤ g.n := fun i => by rw [← hY]; exact tp_le ok _ _ hyn
  have hYs : ∀ i, Y (i + 1) = g.point (Y i) := fun i => by rw [← hY]; exact tp_succ g _ _
  have hQ' : (0 : Int) < Q := by have := h.den; omega
  have hWY : ∀ i, W i ≤ Y i ∧ Y i ≤ W i + 1 := fun i => by
    have a := (h.inn i).1
    have b := (h.inn i).2
    rw [hXY] at a b
    have a' := Int.le_of_mul_le_mul_right a hQ'
    have b' := Int.le_of_mul_le_mul_right b hQ'
    omega
  have hYd : ∀ i, Y (i + d) = Y i := fun i => by
    have := hper i
    rw [hXY, hXY] at this
    have := Int.eq_of_mul_eq_mul_right (by omega) this
    omega
  have step : ∀ i i', Y i = Y i' → W i = W i' → W (i + 1) = W (i' + 1) := fun i i' e1 e2 => by
    have a := hWY i
    have c := hWY (i + 1)
    have c' := hWY (i' + 1)
    rw [hYs] at c c'
    rw [← e1] at c'
    have hc := h.cov i
    have hc' := h.cov i'
    rw [← e2] at hc'
    exact det a.1 a.2 hc hc' c.1 c.2 c'.1 c'.2
  have run : ∀ i d', (∀ j, Y (j + d') = Y j) → W (i + d') = W i → ∀ j, W (i + j + d') = W (i + j) := fun i d' hd' h0 j => by
    induction j with
    | zero => exact h0
    | succ j ih =>
      have := step (i + j + d') (i + j) (hd' _) ih
      rw [show i + (j + 1) + d' = i + j + d' + 1 by omega, show i + (j + 1) = i + j + 1 by omega]
      exact this
  -- it changes sides
  have n0 : ∀ i, W (i + d) ≠ W i := fun i he => by
    apply hns
    intro j
    have r := run i d hYd he (k * i - i + j)
    have hle : i ≤ k * i := Nat.le_mul_of_pos_left _ h.pos
    have pr : ∀ a b, W (a + k * b) = W a := fun a b => by
      induction b with
      | zero => rfl
      | succ b ih => rw [Nat.mul_succ, ← Nat.add_assoc, h.per, ih]
    rw [show i + (k * i - i + j) + d = (j + d) + k * i by omega, show i + (k * i - i + j) = j + k * i by omega, pr, pr] at r
    exact r
  have two : ∀ i, W (i + 2 * d) = W i := fun i => by
    have a := n0 i
    have b := n0 (i + d)
    have c := hWY i
    have c1 := hWY (i + d)
    have c2 := hWY (i + d + d)
    rw [hYd] at c1 c2
    rw [hYd] at c2
    rw [show i + 2 * d = i + d + d by omega]
    omega
  have hm2 : m = 2 := by
    have ev : ∀ a b, W (a + 2 * d * b) = W a := fun a b => by
      induction b with
      | zero => rfl
      | succ b ih => rw [Nat.mul_succ, ← Nat.add_assoc, two, ih]
    rcases Nat.mod_two_eq_zero_or_one m with e | e
    · -- even: the half is enough
      have em : m = 2 * (m / 2) := by omega
      by_cases hm1 : m / 2 = 1
      · omega
      · exfalso
        refine hp (m / 2) (2 * d) (by omega) ?_ two
        rw [hk]
        conv => lhs; rw [em]
        rw [Nat.mul_comm 2 (m / 2), Nat.mul_assoc]
    · exfalso
      have em : m = 1 + 2 * (m / 2) := by omega
      have ek : k = d + 2 * d * (m / 2) := by
        rw [hk]
        conv => lhs; rw [em]
        rw [Nat.add_mul, Nat.one_mul, Nat.mul_right_comm]
      have := h.per 0
      rw [ek, ← Nat.add_assoc, ev] at this
      exact n0 0 this
  refine ⟨by rw [hk, hm2], hd, fun i => ⟨hYn i, hYs i, hXY i, (hWY i).1, (hWY i).2, hYd i⟩, n0⟩

end HM
end
section
open Su183
namespace HM

theorem ivt (B : Nat → Prop) (b : Nat) : ∀ (m a : Nat), (a ≤ b → b - a ≤ m) → (b ≤ a → a - b ≤ m) → B a → ¬ B b →
    ∃ c c', (c' = c + 1 ∨ c = c' + 1) ∧ min a b ≤ min c c' ∧ max c c' ≤ max a b ∧ B c ∧ ¬ B c'
  | 0, a, h1, h2, ha, hb => by
    have : a = b := by omega
    subst this; exact absurd ha hb
  | m + 1, a, h1, h2, ha, hb => by
    have hne : a ≠ b := fun e => by subst e; exact hb ha
    by_cases hl : a < b
    · by_cases hc : B (a + 1)
      · obtain ⟨c, c', e1, e2, e3, e4, e5⟩ := ivt B b m (a + 1) (by omega) (by omega) hc hb
        exact ⟨c, c', e1, by omega, by omega, e4, e5⟩
      · exact ⟨a, a + 1, .inl rfl, by omega, by omega, ha, hc⟩
    · by_cases hc : B (a - 1)
      · obtain ⟨c, c', e1, e2, e3, e4, e5⟩ := ivt B b m (a - 1) (by omega) (by omega) hc hb
        exact ⟨c, c', e1, by omega, by omega, e4, e5⟩
      · exact ⟨a, a - 1, .inr (by omega), by omega, by omega, ha, hc⟩

theorem straddle (h : Nat → Nat) {a b q : Nat} (ha : q + 1 ≤ h a) (hb : h b ≤ q) :
    ∃ j, min a b ≤ j ∧ j + 1 ≤ max a b ∧ ((h j ≤ q ∧ q + 1 ≤ h (j + 1)) ∨ (h (j + 1) ≤ q ∧ q + 1 ≤ h j)) := by
  obtain ⟨c, c', e1, e2, e3, e4, e5⟩ := ivt (fun x => q + 1 ≤ h x) b (a + b) a (by omega) (by omega) ha (by omega)
  rcases e1 with rfl | rfl
  · exact ⟨c, by omega, by omega, .inr ⟨by omega, e4⟩⟩
  · exact ⟨c', by omega, by omega, .inl ⟨by omega, e4⟩⟩

theorem ivt1 {g : Abs} {a b q : Nat} (ha : q + 1 ≤ g.point a) (hb : g.point b ≤ q) : ∃ j, min a b ≤ j ∧ j + 1 ≤ max a b ∧ g.covers j q = true := by
  obtain ⟨j, h1, h2, h3⟩ := straddle g.point ha hb
  refine ⟨j, h1, h2, ?_⟩
  rcases h3 with h | h
  · exact cov_up h.1 h.2
  · exact cov_dn h.1 h.2

theorem cov_mid {g : Abs} {i j : Nat} (h1 : min (g.point i) (g.point (i + 1)) ≤ j) (h2 : j + 1 ≤ max (g.point i) (g.point (i + 1))) : g.covers i j = true := by
  rw [cov_iff]; omega

theorem ivt2 {g : Abs} {a b q : Nat} (ha : q + 1 ≤ g.point (g.point a)) (hb : g.point (g.point b) ≤ q) : ∃ j j', min a b ≤ j ∧ j + 1 ≤ max a b ∧ g.covers j j' = true ∧ g.covers j' q = true := by
  obtain ⟨j, h1, h2, h3⟩ := straddle (fun x => g.point (g.point x)) ha hb
  rcases h3 with ⟨x, y⟩ | ⟨x, y⟩
  · obtain ⟨j', e1, e2, e3⟩ := ivt1 y x
    exact ⟨j, j', h1, h2, cov_mid (by omega) (by omega), e3⟩
  · obtain ⟨j', e1, e2, e3⟩ := ivt1 y x
    exact ⟨j, j', h1, h2, cov_mid (by omega) (by omega), e3⟩

def Goal1 (g : Abs) (p : Nat) : Prop := (∃ y, y ≤ g.n ∧ tp g 2 y = y ∧ tp g 1 y ≠ y) ∨ (∃ q j, q < g.n ∧ j < g.n ∧ g.covers q j = true ∧ g.covers j q = true ∧ p ≤ q ∧ j + 1 ≤ p ∧ (p < q ∨ j + 2 ≤ p))

theorem walk1_up {g : Abs} (ok : Ok g) {p : Nat} (hp : g.point p = p) : ∀ (m q : Nat), g.n - q ≤ m → p < q → q ≤ g.n → g.point q < p → q + 1 ≤ g.point (g.point q) → Goal1 g p
  | m, q, hm, h1, h2, h3, h4 => by
    have hn : q + 1 ≤ g.n := Nat.le_trans h4 (ok.top _)
    by_cases ht : p ≤ g.point (q + 1)
    · obtain ⟨j, e1, e2, e3⟩ := ivt1 (b := p) h4 (by omega)
      exact .inr ⟨q, j, by omega, by omega, cov_up (by omega) (by omega), e3, by omega, by omega, by omega⟩
    · rcases Nat.lt_trichotomy (g.point (g.point (q + 1))) (q + 1) with h | h | h
      · obtain ⟨j, e1, e2, e3⟩ := ivt1 (b := g.point (q + 1)) h4 (by omega)
        exact .inr ⟨q, j, by omega, by omega, cov_mid (by omega) (by omega), e3, by omega, by omega, by omega⟩
      · exact .inl ⟨q + 1, hn, h, by show g.point (q + 1) ≠ q + 1; omega⟩
      · cases m with
        | zero => omega
        | succ m => exact walk1_up ok hp m (q + 1) (by omega) (by omega) hn (by omega) (by omega)

theorem walk1 {g : Abs} (ok : Ok g) {p : Nat} (hp : g.point p = p) (h0 : p < g.n) (hR : g.point (p + 1) + 1 ≤ p) (hL : p + 1 ≤ g.point (p - 1)) : Goal1 g p := by
  rcases Nat.lt_trichotomy (g.point (g.point (p + 1))) (p + 1) with h | h | h
  · obtain ⟨j, e1, e2, e3⟩ := ivt1 (a := p - 1) (b := g.point (p + 1)) (q := p) hL (by omega)
    exact .inr ⟨p, j, by omega, by omega, cov_dn (by omega) (by omega), e3, by omega, by omega, by omega⟩
  · exact .inl ⟨p + 1, by omega, h, by show g.point (p + 1) ≠ p + 1; omega⟩
  · exact walk1_up ok hp _ (p + 1) (Nat.le_refl _) (by omega) (by omega) (by omega) (by omega)

def Goal2 (g : Abs) (p p' : Nat) : Prop := (∃ y, y ≤ g.n ∧ tp g 4 y = y ∧ tp g 2 y ≠ y) ∨
  (∃ q j1 j j', (q < g.n ∧ j1 < g.n ∧ j < g.n ∧ j' < g.n) ∧ (g.covers q j1 = true ∧ g.covers j1 j = true ∧ g.covers j j' = true ∧ g.covers j' q = true) ∧ p ≤ q ∧ j + 1 ≤ p ∧
    (p < q ∨ j + 2 ≤ p ∨ ¬ (j' ≤ p' ∧ p' ≤ j' + 1) ∨ ¬ (j1 ≤ p' ∧ p' ≤ j1 + 1)))

theorem cov_lt {g : Abs} (ok : Ok g) {i j : Nat} (h : g.covers i j = true) : j < g.n := by
  have a := ok.top i
  have b := ok.top (i + 1)
  have := cov_two h
  omega

theorem walk2_in {g : Abs} (ok : Ok g) {p p' : Nat} (hp : g.point p = p') (hp' : g.point p' = p) {q c : Nat} (hq : p ≤ q) (hqn : q < g.n)
    (hc : ∀ j1, min c (g.point (q + 1)) ≤ j1 → j1 + 1 ≤ max c (g.point (q + 1)) → g.covers q j1 = true ∧ (p < q ∨ ¬ (j1 ≤ p' ∧ p' ≤ j1 + 1)))
    (h1 : g.point c < p) (h2 : q + 1 ≤ g.point (g.point (g.point c))) :
    Goal2 g p p' ∨ (g.point (g.point (q + 1)) < p ∧ q + 1 ≤ g.point (g.point (g.point (g.point (q + 1))))) := by
  by_cases hB : g.point (g.point (q + 1)) < p ∧ q + 1 ≤ g.point (g.point (g.point (g.point (q + 1))))
  · exact .inr hB
  · left
    obtain ⟨c2, c3, e1, e2, e3, e4, e5⟩ := ivt (fun x => g.point x < p ∧ q + 1 ≤ g.point (g.point (g.point x))) (g.point (q + 1)) (c + g.point (q + 1)) c (by omega) (by omega) ⟨h1, h2⟩ hB
    obtain ⟨k1, k2⟩ := hc (min c2 c3) (by omega) (by omega)
    have cj : ∀ z, min (g.point c2) (g.point c3) ≤ z → z + 1 ≤ max (g.point c2) (g.point c3) → g.covers (min c2 c3) z = true := by
      intro z z1 z2
      apply cov_mid
      · rcases e1 with rfl | rfl
        · rw [show min c2 (c2 + 1) = c2 by omega]; exact z1
        · rw [show min (c3 + 1) c3 = c3 by omega]; omega
      · rcases e1 with rfl | rfl
        · rw [show min c2 (c2 + 1) = c2 by omega]; exact z2
        · rw [show min (c3 + 1) c3 = c3 by omega]; omega
    obtain ⟨y, y1, y2, y3, y4⟩ : ∃ y, y ≤ p ∧ g.point (g.point y) ≤ q ∧ min (g.point c2) (g.point c3) ≤ min (g.point c2) y ∧ max (g.point c2) y ≤ max (g.point c2) (g.point c3) := by
      by_cases ht : p ≤ g.point c3
      · exact ⟨p, Nat.le_refl _, by rw [hp, hp']; exact hq, by omega, by omega⟩
      · refine ⟨g.point c3, by omega, ?_, by omega, by omega⟩
        have : ¬ (q + 1 ≤ g.point (g.point (g.point c3))) := fun hh => e5 ⟨by omega, hh⟩
        omega
    obtain ⟨j, j', f1, f2, f3, f4⟩ := ivt2 (a := g.point c2) (b := y) e4.2 y2
    have hcj := cj j (by omega) (by omega)
    refine .inr ⟨q, min c2 c3, j, j', ⟨hqn, cov_lt ok k1, cov_lt ok hcj, cov_lt ok f3⟩, ⟨k1, hcj, f3, f4⟩, hq, by omega, ?_⟩
    rcases k2 with k | k
    · exact .inl k
    · exact .inr (.inr (.inr k))

theorem walk2_up {g : Abs} (ok : Ok g) {p p' : Nat} (hp : g.point p = p') (hp' : g.point p' = p) : ∀ (m q : Nat), g.n - q ≤ m → p < q → q ≤ g.n → g.point (g.point q) < p → q + 1 ≤ g.point (g.point (g.point (g.point q))) → Goal2 g p p'
  | m, q, hm, h1, h2, h3, h4 => by
    have hn : q + 1 ≤ g.n := Nat.le_trans h4 (ok.top _)
    rcases walk2_in ok hp hp' (q := q) (c := g.point q) (by omega) (by omega) (fun j1 a b => ⟨cov_mid a b, .inl h1⟩) h3 h4 with h | ⟨h5, h6⟩
    · exact h
    · by_cases he : g.point (g.point (g.point (g.point (q + 1)))) = q + 1
      · exact .inl ⟨q + 1, hn, he, by show g.point (g.point (q + 1)) ≠ q + 1; omega⟩
      · cases m with
        | zero => omega
        | succ m => exact walk2_up ok hp hp' m (q + 1) (by omega) (by omega) hn h5 (by omega)

theorem walk2 {g : Abs} (ok : Ok g) {p p' W1 W3 : Nat} (hp : g.point p = p') (hp' : g.point p' = p) (h0 : 0 < p) (hn : p < g.n)
    (k0 : g.covers p W1 = true) (k1 : g.covers W1 (p - 1) = true) (k2 : g.covers (p - 1) W3 = true) (k3 : g.covers W3 p = true)
    (hne : W1 ≠ W3) (a1 : W1 ≤ p') (a2 : p' ≤ W1 + 1) (a3 : W3 ≤ p') (a4 : p' ≤ W3 + 1) : Goal2 g p p' := by
  -- the other ends
  obtain ⟨c1, d1, d2⟩ : ∃ c1, ((W1 = p' ∧ c1 = p' + 1) ∨ (W1 + 1 = p' ∧ c1 = W1)) ∧ g.point c1 + 1 ≤ p := by
    have := cov_two k1
    by_cases h : W1 = p'
    · subst h; exact ⟨W1 + 1, .inl ⟨rfl, rfl⟩, by omega⟩
    · have e : W1 + 1 = p' := by omega
      subst e; exact ⟨W1, .inr ⟨rfl, rfl⟩, by omega⟩
  obtain ⟨c3, d3, d4⟩ : ∃ c3, ((W3 = p' ∧ c3 = p' + 1) ∨ (W3 + 1 = p' ∧ c3 = W3)) ∧ p + 1 ≤ g.point c3 := by
    have := cov_two k3
    by_cases h : W3 = p'
    · subst h; exact ⟨W3 + 1, .inl ⟨rfl, rfl⟩, by omega⟩
    · have e : W3 + 1 = p' := by omega
      subst e; exact ⟨W3, .inr ⟨rfl, rfl⟩, by omega⟩
  have e1 := cov_two k0
  have e2 := cov_two k2
  rw [show p - 1 + 1 = p by omega] at e2
  rw [hp] at e1 e2
  by_cases hB : p + 1 ≤ g.point (g.point (g.point c1))
  · rcases walk2_in ok hp hp' (q := p) (c := c1) (Nat.le_refl _) hn (fun j1 a b => ⟨cov_mid (by omega) (by omega), .inr (by omega)⟩) (by omega) hB with h | ⟨h5, h6⟩
    · exact h
    · by_cases he : g.point (g.point (g.point (g.point (p + 1)))) = p + 1
      · exact .inl ⟨p + 1, hn, he, by show g.point (g.point (p + 1)) ≠ p + 1; omega⟩
      · exact walk2_up ok hp hp' _ (p + 1) (Nat.le_refl _) (by omega) hn h5 (by omega)
  · have f1 := cov_two k1
    by_cases hs : g.point (g.point (p - 1)) ≤ p
    · obtain ⟨j', x1, x2, x3⟩ := ivt1 (b := g.point (p - 1)) d4 hs
      refine .inr ⟨p, W1, p - 1, j', ⟨hn, cov_lt ok k0, by omega, ?_⟩, ⟨k0, k1, cov_mid ?_ ?_, x3⟩, Nat.le_refl _, by omega, .inr (.inr (.inl (by omega)))⟩
      · have := ok.top (p - 1)
        have := ok.top p
        omega
      · rw [show p - 1 + 1 = p by omega, hp]; omega
      · rw [show p - 1 + 1 = p by omega, hp]; omega
    · obtain ⟨j, j', x1, x2, x3, x4⟩ := ivt2 (g := g) (a := p - 1) (b := g.point c1) (q := p) (by omega) (by omega)
      have hne' : g.point c1 ≠ p - 1 := fun e => by rw [e] at hB; omega
      have hcj : g.covers W1 j = true := by
        rcases d1 with ⟨rfl, rfl⟩ | ⟨e, rfl⟩
        · exact cov_mid (by omega) (by omega)
        · subst e; exact cov_mid (by omega) (by omega)
      exact .inr ⟨p, W1, j, j', ⟨hn, cov_lt ok k0, by omega, cov_lt ok x3⟩, ⟨k0, hcj, x3, x4⟩, Nat.le_refl _, by omega, .inr (.inl (by omega))⟩

end HM
end
section
open Su183
namespace HM

/-- A row of steps by one, from a point to a point: each with the piece in which it began; these rise. -/
def Pt (R : Nat → Nat → Prop) : List (Nat × Nat × Nat) → Nat → Nat → Prop
  | [], a, b => a = b
  | s :: L, a, b => s.2.1 = a ∧ (s.2.2 = a + 1 ∨ a = s.2.2 + 1) ∧ R s.1 (min a s.2.2) ∧ (∀ r ∈ L, s.1 ≤ r.1) ∧ Pt R L s.2.2 b

theorem pt_append {R : Nat → Nat → Prop} : ∀ (L M : List (Nat × Nat × Nat)) (a b c : Nat), Pt R L a b → Pt R M b c → (∀ s ∈ L, ∀ r ∈ M, s.1 ≤ r.1) → Pt R (L ++ M) a c
  | [], M, a, b, c, h1, h2, _ => by
    have : a = b := h1
    subst this; exact h2
  | s :: L, M, a, b, c, ⟨e1, e2, e3, e4, e5⟩, h2, h3 => by
    refine ⟨e1, e2, e3, ?_, pt_append L M _ b c e5 h2 (fun s hs => h3 s (List.mem_cons_of_mem _ hs))⟩
    intro r hr
    rcases List.mem_append.mp hr with h | h
    · exact e4 r h
    · exact h3 s List.mem_cons_self r h

theorem pt_seg {R : Nat → Nat → Prop} (x b : Nat) : ∀ (m a : Nat), (a ≤ b → b - a ≤ m) → (b ≤ a → a - b ≤ m) → (∀ j, min a b ≤ j → j + 1 ≤ max a b → R x j) →
    ∃ L, Pt R L a b ∧ ∀ s ∈ L, s.1 = x
  | 0, a, h1, h2, _ => ⟨[], by show a = b; omega, by simp⟩
  | m + 1, a, h1, h2, h => by
    by_cases he : a = b
    · exact ⟨[], he, by simp⟩
    · by_cases hl : a < b
      · obtain ⟨L, p1, p2⟩ := pt_seg x b m (a + 1) (by omega) (by omega) (fun j x1 x2 => h j (by omega) (by omega))
        refine ⟨(x, a, a + 1) :: L, ⟨rfl, .inl rfl, h _ (show min a b ≤ min a (a + 1) by omega) (show min a (a + 1) + 1 ≤ max a b by omega), fun r hr => by rw [p2 r hr]; exact Nat.le_refl _, p1⟩, ?_⟩
        intro s hs
        obtain rfl | hs := List.mem_cons.mp hs
        · rfl
        · exact p2 s hs
      · obtain ⟨L, p1, p2⟩ := pt_seg x b m (a - 1) (by omega) (by omega) (fun j x1 x2 => h j (by omega) (by omega))
        refine ⟨(x, a, a - 1) :: L, ⟨rfl, .inr (show a = a - 1 + 1 by omega), h _ (show min a b ≤ min a (a - 1) by omega) (show min a (a - 1) + 1 ≤ max a b by omega), fun r hr => by rw [p2 r hr]; exact Nat.le_refl _, p1⟩, ?_⟩
        intro s hs
        obtain rfl | hs := List.mem_cons.mp hs
        · rfl
        · exact p2 s hs

theorem pt_lift {g : Abs} {R : Nat → Nat → Prop} : ∀ (L : List (Nat × Nat × Nat)) (a b : Nat), Pt R L a b →
    ∃ M, Pt (fun x z => ∃ y, R x y ∧ g.covers y z = true) M (g.point a) (g.point b) ∧ ∀ r ∈ M, ∃ s ∈ L, r.1 = s.1
  | [], a, b, h => by
    have : a = b := h
    subst this
    exact ⟨[], rfl, by simp⟩
  | s :: L, a, b, ⟨e1, e2, e3, e4, e5⟩ => by
    obtain ⟨M, m1, m2⟩ := pt_lift L _ b e5
    obtain ⟨N, n1, n2⟩ := pt_seg (R := fun x z => ∃ y, R x y ∧ g.covers y z = true) s.1 (g.point s.2.2) (g.point a + g.point s.2.2) (g.point a) (by omega) (by omega) (by
      intro j x1 x2
      refine ⟨_, e3, cov_mid ?_ ?_⟩
      · rcases e2 with e2 | e2
        · rw [show min a s.2.2 = a by omega, ← e2]; exact x1
        · rw [show min a s.2.2 = s.2.2 by omega, ← e2]; omega
      · rcases e2 with e2 | e2
        · rw [show min a s.2.2 = a by omega, ← e2]; exact x2
        · rw [show min a s.2.2 = s.2.2 by omega, ← e2]; omega)
    refine ⟨N ++ M, pt_append N M _ _ _ n1 m1 ?_, ?_⟩
    · intro u hu r hr
      obtain ⟨v, hv, hr'⟩ := m2 r hr
      rw [n2 u hu, hr']
      exact e4 v hv
    · intro r hr
      rcases List.mem_append.mp hr with h | h
      · exact ⟨s, List.mem_cons_self, n2 r h⟩
      · obtain ⟨v, hv, hr'⟩ := m2 r h
        exact ⟨v, List.mem_cons_of_mem _ hv, hr'⟩

def Within (R : Nat → Nat → Prop) (lo hi : Nat) : Nat → Nat → Prop := fun x z => R x z ∧ lo ≤ z ∧ z + 1 ≤ hi

def Sub (L M : List (Nat × Nat × Nat)) : Prop := ∀ r ∈ L, r ∈ M

theorem pt_cut_up {R : Nat → Nat → Prop} {lo hi b : Nat} (hlh : lo < hi) (hb : hi ≤ b) : ∀ (L : List (Nat × Nat × Nat)) (a : Nat), Pt R L a b →
    ((a ≤ lo → ∃ M, Pt (Within R lo hi) M lo hi ∧ Sub M L) ∧
     (lo < a → a ≤ hi → (∃ M, Pt (Within R lo hi) M a hi ∧ Sub M L) ∨ (∃ M, Pt (Within R lo hi) M lo hi ∧ Sub M L)))
  | [], a, h => by
    have : a = b := h
    subst this
    refine ⟨fun _ => by omega, fun _ _ => .inl ⟨[], show a = hi by omega, fun r hr => hr⟩⟩
  | s :: L, a, ⟨e1, e2, e3, e4, e5⟩ => by
    obtain ⟨i1, i2⟩ := pt_cut_up hlh hb L s.2.2 e5
    have up : (∃ M, Pt (Within R lo hi) M lo hi ∧ Sub M L) → ∃ M, Pt (Within R lo hi) M lo hi ∧ Sub M (s :: L) := fun ⟨M, m1, m2⟩ => ⟨M, m1, fun r hr => List.mem_cons_of_mem _ (m2 r hr)⟩
    have on : lo ≤ min a s.2.2 → min a s.2.2 + 1 ≤ hi → (∃ M, Pt (Within R lo hi) M s.2.2 hi ∧ Sub M L) → ∃ M, Pt (Within R lo hi) M a hi ∧ Sub M (s :: L) := fun h1 h2 ⟨M, m1, m2⟩ =>
      ⟨s :: M, ⟨e1, e2, ⟨e3, h1, h2⟩, fun r hr => e4 r (m2 r hr), m1⟩, fun r hr => by
        rcases List.mem_cons.mp hr with rfl | h
        · exact List.mem_cons_self
        · exact List.mem_cons_of_mem _ (m2 r h)⟩
    constructor
    · intro ha
      by_cases h : s.2.2 ≤ lo
      · exact up (i1 h)
      · have ea : a = lo := by omega
        rcases i2 (by omega) (by omega) with h | h
        · have := on (by omega) (by omega) h
          rw [ea] at this; exact this
        · exact up h
    · intro h1 h2
      by_cases h : s.2.2 ≤ lo
      · exact .inr (up (i1 h))
      · by_cases h' : s.2.2 ≤ hi
        · by_cases h3 : a = hi
          · exact .inl ⟨[], h3, fun r hr => by simp at hr⟩
          · rcases i2 (by omega) h' with h4 | h4
            · exact .inl (on (by omega) (by omega) h4)
            · exact .inr (up h4)
        · have : a = hi := by omega
          exact .inl ⟨[], this, fun r hr => by simp at hr⟩

theorem pt_cut_dn {R : Nat → Nat → Prop} {lo hi b : Nat} (hlh : lo < hi) (hb : b ≤ lo) : ∀ (L : List (Nat × Nat × Nat)) (a : Nat), Pt R L a b →
    ((hi ≤ a → ∃ M, Pt (Within R lo hi) M hi lo ∧ Sub M L) ∧
     (a < hi → lo ≤ a → (∃ M, Pt (Within R lo hi) M a lo ∧ Sub M L) ∨ (∃ M, Pt (Within R lo hi) M hi lo ∧ Sub M L)))
  | [], a, h => by
    have : a = b := h
    subst this
    refine ⟨fun _ => by omega, fun _ _ => .inl ⟨[], show a = lo by omega, fun r hr => hr⟩⟩
  | s :: L, a, ⟨e1, e2, e3, e4, e5⟩ => by
    obtain ⟨i1, i2⟩ := pt_cut_dn hlh hb L s.2.2 e5
    have up : (∃ M, Pt (Within R lo hi) M hi lo ∧ Sub M L) → ∃ M, Pt (Within R lo hi) M hi lo ∧ Sub M (s :: L) := fun ⟨M, m1, m2⟩ => ⟨M, m1, fun r hr => List.mem_cons_of_mem _ (m2 r hr)⟩
    have on : lo ≤ min a s.2.2 → min a s.2.2 + 1 ≤ hi → (∃ M, Pt (Within R lo hi) M s.2.2 lo ∧ Sub M L) → ∃ M, Pt (Within R lo hi) M a lo ∧ Sub M (s :: L) := fun h1 h2 ⟨M, m1, m2⟩ =>
      ⟨s :: M, ⟨e1, e2, ⟨e3, h1, h2⟩, fun r hr => e4 r (m2 r hr), m1⟩, fun r hr => by
        rcases List.mem_cons.mp hr with rfl | h
        · exact List.mem_cons_self
        · exact List.mem_cons_of_mem _ (m2 r h)⟩
    constructor
    · intro ha
      by_cases h : hi ≤ s.2.2
      · exact up (i1 h)
      · have ea : a = hi := by omega
        rcases i2 (by omega) (by omega) with h | h
        · have := on (by omega) (by omega) h
          rw [ea] at this; exact this
        · exact up h
    · intro h1 h2
      by_cases h : hi ≤ s.2.2
      · exact .inr (up (i1 h))
      · by_cases h' : lo ≤ s.2.2
        · by_cases h3 : a = lo
          · exact .inl ⟨[], h3, fun r hr => by simp at hr⟩
          · rcases i2 (by omega) h' with h4 | h4
            · exact .inl (on (by omega) (by omega) h4)
            · exact .inr (up h4)
        · have : a = lo := by omega
          exact .inl ⟨[], this, fun r hr => by simp at hr⟩

/-- What ends at or above where it began, and begins below: somewhere it is just there. -/
theorem pt_close {R : Nat → Nat → Prop} {b : Nat} : ∀ (L : List (Nat × Nat × Nat)) (a : Nat), Pt R L a b → L ≠ [] → (∀ s ∈ L, a ≤ s.1) → (∀ s ∈ L, s.1 + 1 ≤ b) → ∃ x, R x x
  | [], _, _, h, _, _ => absurd rfl h
  | s :: L, a, ⟨e1, e2, e3, e4, e5⟩, _, h1, h2 => by
    have ha := h1 s List.mem_cons_self
    have hb := h2 s List.mem_cons_self
    by_cases hx : s.1 + 1 ≤ s.2.2
    · have : min a s.2.2 = s.1 := by omega
      rw [this] at e3
      exact ⟨_, e3⟩
    · by_cases hL : L = []
      · subst hL
        have : s.2.2 = b := e5
        omega
      · exact pt_close L s.2.2 e5 hL (fun r hr => by have := e4 r hr; omega) (fun r hr => h2 r (List.mem_cons_of_mem _ hr))

/-- One step more, kept within. -/
theorem pt_on_up {g : Abs} {R : Nat → Nat → Prop} {L : List (Nat × Nat × Nat)} {a b lo hi : Nat} (h : Pt R L a b) (h1 : lo < hi) (h2 : g.point a ≤ lo) (h3 : hi ≤ g.point b) :
    ∃ M, Pt (Within (fun x z => ∃ y, R x y ∧ g.covers y z = true) lo hi) M lo hi ∧ ∀ r ∈ M, ∃ s ∈ L, r.1 = s.1 := by
  obtain ⟨N, n1, n2⟩ := pt_lift (g := g) L a b h
  obtain ⟨M, m1, m2⟩ := (pt_cut_up h1 h3 N _ n1).1 h2
  exact ⟨M, m1, fun r hr => n2 r (m2 r hr)⟩

theorem pt_on_dn {g : Abs} {R : Nat → Nat → Prop} {L : List (Nat × Nat × Nat)} {a b lo hi : Nat} (h : Pt R L a b) (h1 : lo < hi) (h2 : hi ≤ g.point a) (h3 : g.point b ≤ lo) :
    ∃ M, Pt (Within (fun x z => ∃ y, R x y ∧ g.covers y z = true) lo hi) M hi lo ∧ ∀ r ∈ M, ∃ s ∈ L, r.1 = s.1 := by
  obtain ⟨N, n1, n2⟩ := pt_lift (g := g) L a b h
  obtain ⟨M, m1, m2⟩ := (pt_cut_dn h1 h3 N _ n1).1 h2
  exact ⟨M, m1, fun r hr => n2 r (m2 r hr)⟩

/-- The row of a stretch's own points. -/
theorem pt_first {lo : Nat} : ∀ (m a hi : Nat), hi - a ≤ m → lo ≤ a → a ≤ hi → ∃ L, Pt (fun x z => x = z ∧ lo ≤ z ∧ z + 1 ≤ hi) L a hi ∧ ∀ s ∈ L, a ≤ s.1 ∧ s.1 + 1 ≤ hi
  | 0, a, hi, h1, h2, h3 => ⟨[], show a = hi by omega, by simp⟩
  | m + 1, a, hi, h1, h2, h3 => by
    by_cases h : a = hi
    · exact ⟨[], h, by simp⟩
    · obtain ⟨L, p1, p2⟩ := pt_first (lo := lo) m (a + 1) hi (by omega) (by omega) (by omega)
      refine ⟨(a, a, a + 1) :: L, ⟨rfl, .inl rfl, ⟨show a = min a (a + 1) by omega, show lo ≤ min a (a + 1) by omega, show min a (a + 1) + 1 ≤ hi by omega⟩, fun r hr => by have := (p2 r hr).1; show a ≤ r.1; omega, p1⟩, ?_⟩
      intro s hs
      obtain rfl | hs := List.mem_cons.mp hs
      · exact ⟨Nat.le_refl _, by show a + 1 ≤ hi; omega⟩
      · have := p2 s hs; omega

theorem pt_ne {R : Nat → Nat → Prop} {L : List (Nat × Nat × Nat)} {a b : Nat} (h : Pt R L a b) (hn : a ≠ b) : L ≠ [] := by
  intro e; subst e; exact hn h

/-- A round of three points, rising: a loop of six steps, in the lower part, the upper one, the lower one, the upper one three times. -/
theorem six_up {g : Abs} {u v w : Nat} (h1 : u < v) (h2 : v < w) (tu : g.point u = v) (tv : g.point v = w) (tw : g.point w = u) :
    ∃ z0 z1 z2 z3 z4 z5, (g.covers z0 z1 = true ∧ g.covers z1 z2 = true ∧ g.covers z2 z3 = true ∧ g.covers z3 z4 = true ∧ g.covers z4 z5 = true ∧ g.covers z5 z0 = true)
      ∧ (u ≤ z0 ∧ z0 + 1 ≤ v) ∧ (v ≤ z1 ∧ z1 + 1 ≤ w) ∧ (u ≤ z2 ∧ z2 + 1 ≤ v) ∧ (v ≤ z3 ∧ z3 + 1 ≤ w) ∧ (v ≤ z4 ∧ z4 + 1 ≤ w) ∧ (v ≤ z5 ∧ z5 + 1 ≤ w) := by
  obtain ⟨L0, p0, b0⟩ := pt_first (lo := u) v u v (by omega) (Nat.le_refl _) (by omega)
  obtain ⟨L1, p1, b1⟩ := pt_on_up (g := g) (lo := v) (hi := w) p0 h2 (by omega) (by omega)
  obtain ⟨L2, p2, b2⟩ := pt_on_dn (g := g) (lo := u) (hi := v) p1 h1 (by omega) (by omega)
  obtain ⟨L3, p3, b3⟩ := pt_on_dn (g := g) (lo := v) (hi := w) p2 h2 (by omega) (by omega)
  obtain ⟨L4, p4, b4⟩ := pt_on_up (g := g) (lo := v) (hi := w) p3 h2 (by omega) (by omega)
  obtain ⟨L5, p5, b5⟩ := pt_on_dn (g := g) (lo := v) (hi := w) p4 h2 (by omega) (by omega)
  obtain ⟨L6, p6, b6⟩ := pt_on_up (g := g) (lo := u) (hi := v) p5 h1 (by omega) (by omega)
  have base : ∀ s ∈ L6, u ≤ s.1 ∧ s.1 + 1 ≤ v := by
    intro s hs
    obtain ⟨s5, m5, e5⟩ := b6 s hs
    obtain ⟨s4, m4, e4⟩ := b5 s5 m5
    obtain ⟨s3, m3, e3⟩ := b4 s4 m4
    obtain ⟨s2, m2, e2⟩ := b3 s3 m3
    obtain ⟨s1, m1, e1⟩ := b2 s2 m2
    obtain ⟨s0, m0, e0⟩ := b1 s1 m1
    have := b0 s0 m0
    omega
  obtain ⟨x, hx⟩ := pt_close L6 u p6 (pt_ne p6 (by omega)) (fun s hs => (base s hs).1) (fun s hs => (base s hs).2)
  obtain ⟨⟨z5, ⟨⟨z4, ⟨⟨z3, ⟨⟨z2, ⟨⟨z1, ⟨⟨z0, ⟨e0, i0⟩, c0⟩, i1⟩, c1⟩, i2⟩, c2⟩, i3⟩, c3⟩, i4⟩, c4⟩, i5⟩, c5⟩, i6⟩ := hx
  subst e0
  exact ⟨x, z1, z2, z3, z4, z5, ⟨c0, c1, c2, c3, c4, c5⟩, i0, i1, i2, i3, i4, i5⟩

/-- The same, falling. -/
theorem six_dn {g : Abs} {u v w : Nat} (h1 : u < v) (h2 : v < w) (tu : g.point u = w) (tv : g.point v = u) (tw : g.point w = v) :
    ∃ z0 z1 z2 z3 z4 z5, (g.covers z0 z1 = true ∧ g.covers z1 z2 = true ∧ g.covers z2 z3 = true ∧ g.covers z3 z4 = true ∧ g.covers z4 z5 = true ∧ g.covers z5 z0 = true)
      ∧ (v ≤ z0 ∧ z0 + 1 ≤ w) ∧ (u ≤ z1 ∧ z1 + 1 ≤ v) ∧ (v ≤ z2 ∧ z2 + 1 ≤ w) ∧ (u ≤ z3 ∧ z3 + 1 ≤ v) ∧ (u ≤ z4 ∧ z4 + 1 ≤ v) ∧ (u ≤ z5 ∧ z5 + 1 ≤ v) := by
  obtain ⟨L0, p0, b0⟩ := pt_first (lo := v) w v w (by omega) (Nat.le_refl _) (by omega)
  obtain ⟨L1, p1, b1⟩ := pt_on_up (g := g) (lo := u) (hi := v) p0 h1 (by omega) (by omega)
  obtain ⟨L2, p2, b2⟩ := pt_on_dn (g := g) (lo := v) (hi := w) p1 h2 (by omega) (by omega)
  obtain ⟨L3, p3, b3⟩ := pt_on_dn (g := g) (lo := u) (hi := v) p2 h1 (by omega) (by omega)
  obtain ⟨L4, p4, b4⟩ := pt_on_up (g := g) (lo := u) (hi := v) p3 h1 (by omega) (by omega)
  obtain ⟨L5, p5, b5⟩ := pt_on_dn (g := g) (lo := u) (hi := v) p4 h1 (by omega) (by omega)
  obtain ⟨L6, p6, b6⟩ := pt_on_up (g := g) (lo := v) (hi := w) p5 h2 (by omega) (by omega)
  have base : ∀ s ∈ L6, v ≤ s.1 ∧ s.1 + 1 ≤ w := by
    intro s hs
    obtain ⟨s5, m5, e5⟩ := b6 s hs
    obtain ⟨s4, m4, e4⟩ := b5 s5 m5
    obtain ⟨s3, m3, e3⟩ := b4 s4 m4
    obtain ⟨s2, m2, e2⟩ := b3 s3 m3
    obtain ⟨s1, m1, e1⟩ := b2 s2 m2
    obtain ⟨s0, m0, e0⟩ := b1 s1 m1
    have := b0 s0 m0
    omega
  obtain ⟨x, hx⟩ := pt_close L6 v p6 (pt_ne p6 (by omega)) (fun s hs => (base s hs).1) (fun s hs => (base s hs).2)
  obtain ⟨⟨z5, ⟨⟨z4, ⟨⟨z3, ⟨⟨z2, ⟨⟨z1, ⟨⟨z0, ⟨e0, i0⟩, c0⟩, i1⟩, c1⟩, i2⟩, c2⟩, i3⟩, c3⟩, i4⟩, c4⟩, i5⟩, c5⟩, i6⟩ := hx
  subst e0
  exact ⟨x, z1, z2, z3, z4, z5, ⟨c0, c1, c2, c3, c4, c5⟩, i0, i1, i2, i3, i4, i5⟩

end HM
end
section
open Su183
namespace HM

theorem tp_add (g : Abs) : ∀ i j p, tp g (i + j) p = tp g j (tp g i p)
  | 0, j, p => by rw [Nat.zero_add]; rfl
  | i + 1, j, p => by rw [Nat.add_right_comm]; exact tp_add g i j _

/-- A loop whose place doesn't come back ahead of it. -/
theorem has_of_loop {g : Abs} {k : Nat} {w : List Nat} (hw : Loop g k w)
    (h : ∀ (P : Int) (Q : Nat), 0 < Q → It g Q k P = P → (∀ i, ((cyc w k i : Nat) : Int) * Q ≤ It g Q i P ∧ It g Q i P ≤ ((cyc w k i + 1 : Nat) : Int) * Q) → ∀ j, 0 < j → j < k → It g Q j P ≠ P) : g.has k = true := by
  obtain ⟨P, Q, hQ, hg, hf, hb, _, _⟩ := loop_place hw
  have go := go_of hw hQ hf hb
  rw [has_iff]
  right
  refine ⟨w, hw, red P Q, by rw [hg]; exact List.mem_singleton.mpr rfl, ?_⟩
  rw [back_red g Q hQ]
  exact ⟨hw.pos, hb, h P Q hQ hb go.inn⟩

theorem has_of_point {g : Abs} (ok : Ok g) {k p : Nat} (hp : p ≤ g.n) (h0 : 0 < k) (h1 : tp g k p = p) (h2 : ∀ j, 0 < j → j < k → tp g j p ≠ p) : g.has k = true := by
  rw [has_iff]
  left
  exact ⟨p, hp, (back_point ok hp k).mpr ⟨h0, h1, h2⟩⟩

theorem mulQ {a b Q : Nat} (h : a ≤ b) : (a : Int) * Q ≤ (b : Int) * Q := Int.mul_le_mul_of_nonneg_right (by omega) (by omega)
theorem mulQ_lt {a b Q : Nat} (hQ : 0 < Q) (h : a < b) : (a : Int) * Q < (b : Int) * Q := Int.mul_lt_mul_of_pos_right (by omega) (by omega)

theorem has_two {g : Abs} (ok : Ok g) {p : Nat} (h : Goal1 g p) : g.has 2 = true := by
  rcases h with ⟨y, hy, h1, h2⟩ | ⟨q, j, hq, hj, c1, c2, l1, l2, l3⟩
  · refine has_of_point ok hy (by decide) h1 fun i a b => ?_
    have : i = 1 := by omega
    subst this; exact h2
  · have hw : Loop g 2 [q, j] := ⟨by decide, rfl, hq, c1, hj, c2, trivial⟩
    refine has_of_loop hw fun P Q hQ hb inn i a b e => ?_
    have : i = 1 := by omega
    subst this
    have i0 := (inn 0).1
    have i1 := (inn 1).2
    rw [e] at i1
    have i0 : (q : Int) * Q ≤ P := i0
    have i1 : P ≤ ((j + 1 : Nat) : Int) * Q := i1
    have := mulQ_lt (a := j + 1) (b := q) hQ (by omega)
    omega

theorem has_four {g : Abs} (ok : Ok g) {p p' : Nat} (hp : g.point p = p') (hpn : p ≤ g.n) (h : Goal2 g p p') : g.has 4 = true := by
  rcases h with ⟨y, hy, h1, h2⟩ | ⟨q, j1, j, j', ⟨hq, hj1, hj, hj'⟩, ⟨c1, c2, c3, c4⟩, l1, l2, l3⟩
  · refine has_of_point ok hy (by decide) h1 fun i a b e => h2 ?_
    have := tp_gcd ok hy i 4 e h1
    have hi : i = 1 ∨ i = 2 ∨ i = 3 := by omega
    rcases hi with rfl | rfl | rfl
    · have e1 : tp g 1 y = y := e
      rw [show (2 : Nat) = 1 + 1 from rfl, tp_add, e1, e1]
    · exact e
    · have e1 : tp g 1 y = y := this
      rw [show (2 : Nat) = 1 + 1 from rfl, tp_add, e1, e1]
  · have hw : Loop g 4 [q, j1, j, j'] := ⟨by decide, rfl, hq, c1, hj1, c2, hj, c3, hj', c4, trivial⟩
    refine has_of_loop hw fun P Q hQ hb inn i a b e => ?_
    have e2 : It g Q 2 P = P := by
      have := It_gcd i 4 e hb
      have hi : i = 1 ∨ i = 2 ∨ i = 3 := by omega
      rcases hi with rfl | rfl | rfl
      · rw [show (2 : Nat) = 1 + 1 from rfl, It_add, e, e]
      · exact e
      · have e1 : It g Q 1 P = P := this
        rw [show (2 : Nat) = 1 + 1 from rfl, It_add, e1, e1]
    have i0 : (q : Int) * Q ≤ P := (inn 0).1
    have i2 : It g Q 2 P ≤ ((j + 1 : Nat) : Int) * Q := (inn 2).2
    rw [e2] at i2
    have x1 := mulQ (Q := Q) l2
    have x2 := mulQ (Q := Q) l1
    -- so it is p
    have eP : P = (p : Int) * Q := by omega
    have e1 : It g Q 1 P = (p' : Int) * Q := by
      rw [eP, It_point ok hQ 1 p hpn]
      show (g.point p : Int) * Q = _
      rw [hp]
    have e3 : It g Q 3 P = (p' : Int) * Q := by
      rw [show (3 : Nat) = 2 + 1 from rfl, It_add, e2, e1]
    have i1 := inn 1
    have i3 := inn 3
    rw [e1] at i1
    rw [e3] at i3
    have i1 : (j1 : Int) * Q ≤ (p' : Int) * Q ∧ (p' : Int) * Q ≤ ((j1 + 1 : Nat) : Int) * Q := i1
    have i3 : (j' : Int) * Q ≤ (p' : Int) * Q ∧ (p' : Int) * Q ≤ ((j' + 1 : Nat) : Int) * Q := i3
    have cc : ∀ a b : Nat, (a : Int) * Q ≤ (b : Int) * Q → a ≤ b := fun a b hab => by
      have := Int.le_of_mul_le_mul_right hab (by omega)
      omega
    rcases l3 with l | l | l | l
    · have := mulQ_lt hQ l; omega
    · have := mulQ_lt (a := j + 1) (b := p) hQ (by omega); omega
    · exact l ⟨cc _ _ i3.1, cc _ _ i3.2⟩
    · exact l ⟨cc _ _ i1.1, cc _ _ i1.2⟩

theorem six_back {j : Nat} (h0 : 0 < j) (h6 : j < 6) {g : Abs} {Q : Nat} {P : Int} (e : It g Q j P = P) (hb : It g Q 6 P = P) : It g Q 2 P = P ∨ It g Q 3 P = P := by
  have := It_gcd j 6 e hb
  have hi : j = 1 ∨ j = 2 ∨ j = 3 ∨ j = 4 ∨ j = 5 := by omega
  rcases hi with rfl | rfl | rfl | rfl | rfl
  · left; rw [show (2 : Nat) = 1 + 1 from rfl, It_add, e, e]
  · left; exact e
  · right; exact e
  · left; exact this
  · have e1 : It g Q 1 P = P := this
    left; rw [show (2 : Nat) = 1 + 1 from rfl, It_add, e1, e1]

theorem has_six_up {g : Abs} (ok : Ok g) {u v w : Nat} (hw : w ≤ g.n) (h1 : u < v) (h2 : v < w) (tu : g.point u = v) (tv : g.point v = w) (tw : g.point w = u) : g.has 6 = true := by
  obtain ⟨z0, z1, z2, z3, z4, z5, ⟨c0, c1, c2, c3, c4, c5⟩, i0, i1, i2, i3, i4, i5⟩ := six_up h1 h2 tu tv tw
  have hl : Loop g 6 [z0, z1, z2, z3, z4, z5] := ⟨by decide, rfl, by omega, c0, by omega, c1, by omega, c2, by omega, c3, by omega, c4, by omega, c5, trivial⟩
  refine has_of_loop hl fun P Q hQ hb inn i a b e => ?_
  have n0 : (z0 : Int) * Q ≤ P ∧ P ≤ ((z0 + 1 : Nat) : Int) * Q := inn 0
  have n3 : (z3 : Int) * Q ≤ It g Q 3 P ∧ It g Q 3 P ≤ ((z3 + 1 : Nat) : Int) * Q := inn 3
  have n4 : (z4 : Int) * Q ≤ It g Q 4 P ∧ It g Q 4 P ≤ ((z4 + 1 : Nat) : Int) * Q := inn 4
  have n5 : (z5 : Int) * Q ≤ It g Q 5 P ∧ It g Q 5 P ≤ ((z5 + 1 : Nat) : Int) * Q := inn 5
  have x0 := mulQ (Q := Q) i0.2
  have x3 := mulQ (Q := Q) i3.1
  have x4 := mulQ (Q := Q) i4.1
  have x5 := mulQ (Q := Q) i5.1
  have xu := mulQ_lt hQ h1
  rcases six_back a b e hb with e2 | e3
  · have e4 : It g Q 4 P = P := by rw [show (4 : Nat) = 2 + 2 from rfl, It_add, e2, e2]
    have eP : P = (v : Int) * Q := by omega
    rw [eP, It_point ok hQ 2 v (by omega)] at e2
    have : tp g 2 v = u := by show g.point (g.point v) = u; rw [tv, tw]
    rw [this] at e2
    omega
  · have eP : P = (v : Int) * Q := by omega
    have : tp g 5 v = u := by show g.point (g.point (g.point (g.point (g.point v)))) = u; rw [tv, tw, tu, tv, tw]
    rw [eP, It_point ok hQ 5 v (by omega), this] at n5
    omega

theorem has_six_dn {g : Abs} (ok : Ok g) {u v w : Nat} (hw : w ≤ g.n) (h1 : u < v) (h2 : v < w) (tu : g.point u = w) (tv : g.point v = u) (tw : g.point w = v) : g.has 6 = true := by
  obtain ⟨z0, z1, z2, z3, z4, z5, ⟨c0, c1, c2, c3, c4, c5⟩, i0, i1, i2, i3, i4, i5⟩ := six_dn h1 h2 tu tv tw
  have hl : Loop g 6 [z0, z1, z2, z3, z4, z5] := ⟨by decide, rfl, by omega, c0, by omega, c1, by omega, c2, by omega, c3, by omega, c4, by omega, c5, trivial⟩
  refine has_of_loop hl fun P Q hQ hb inn i a b e => ?_
  have n0 : (z0 : Int) * Q ≤ P ∧ P ≤ ((z0 + 1 : Nat) : Int) * Q := inn 0
  have n3 : (z3 : Int) * Q ≤ It g Q 3 P ∧ It g Q 3 P ≤ ((z3 + 1 : Nat) : Int) * Q := inn 3
  have n4 : (z4 : Int) * Q ≤ It g Q 4 P ∧ It g Q 4 P ≤ ((z4 + 1 : Nat) : Int) * Q := inn 4
  have n5 : (z5 : Int) * Q ≤ It g Q 5 P ∧ It g Q 5 P ≤ ((z5 + 1 : Nat) : Int) * Q := inn 5
  have x0 := mulQ (Q := Q) i0.1
  have x3 := mulQ (Q := Q) i3.2
  have x4 := mulQ (Q := Q) i4.2
  have x5 := mulQ (Q := Q) i5.2
  have xu := mulQ_lt hQ h2
  rcases six_back a b e hb with e2 | e3
  · have e4 : It g Q 4 P = P := by rw [show (4 : Nat) = 2 + 2 from rfl, It_add, e2, e2]
    have eP : P = (v : Int) * Q := by omega
    rw [eP, It_point ok hQ 2 v (by omega)] at e2
    have : tp g 2 v = w := by show g.point (g.point v) = w; rw [tv, tu]
    rw [this] at e2
    omega
  · have eP : P = (v : Int) * Q := by omega
    have : tp g 5 v = w := by show g.point (g.point (g.point (g.point (g.point v)))) = w; rw [tv, tu, tw, tv, tu]
    rw [eP, It_point ok hQ 5 v (by omega), this] at n5
    omega

theorem has_six {g : Abs} (ok : Ok g) {a b c : Nat} (ha : a ≤ g.n) (hb : b ≤ g.n) (hc : c ≤ g.n) (h1 : g.point a = b) (h2 : g.point b = c) (h3 : g.point c = a) (hab : a ≠ b) (hbc : b ≠ c) (hac : a ≠ c) : g.has 6 = true := by
  by_cases x : a < b <;> by_cases y : b < c <;> by_cases z : c < a
  · omega
  · exact has_six_up ok hc x y h1 h2 h3
  · exact has_six_up (u := c) (v := a) (w := b) ok hb z x h3 h1 h2
  · exact has_six_dn (u := a) (v := c) (w := b) ok hb (by omega) (by omega) h1 h3 h2
  · exact has_six_up (u := b) (v := c) (w := a) ok ha y z h2 h3 h1
  · exact has_six_dn (u := b) (v := a) (w := c) ok hc (by omega) (by omega) h2 h1 h3
  · exact has_six_dn (u := c) (v := b) (w := a) ok ha (by omega) (by omega) h3 h2 h1
  · omega

/-- A whole loop brings a round of its steps. -/
theorem has_of_prim {g : Abs} (ok : Ok g) {k : Nat} (hk : k ≤ 6) {w : List Nat} (hw : Loop g k w) (hp : PrimW k (cyc w k)) : g.has k = true := by
  obtain ⟨P, Q, hQ, hg, hf, hb, _, _⟩ := loop_place hw
  have go := go_of hw hQ hf hb
  by_cases hall : ∀ j, 0 < j → j < k → It g Q j P ≠ P
  · rw [has_iff]
    exact .inr ⟨w, hw, red P Q, by rw [hg]; exact List.mem_singleton.mpr rfl, by rw [back_red g Q hQ]; exact ⟨hw.pos, hb, hall⟩⟩
  · obtain ⟨j, hj⟩ := Classical.not_forall.mp hall
    obtain ⟨hj0, hj⟩ := Classical.not_imp.mp hj
    obtain ⟨hjk, hj⟩ := Classical.not_imp.mp hj
    have hj : It g Q j P = P := Classical.not_not.mp hj
    obtain ⟨d, Y, hkd, hd, hY, hne⟩ := turned_about ok go hp hj0 hjk hj
    generalize hW : cyc w k = W at *
    have hd3 : d = 1 ∨ d = 2 ∨ d = 3 := by omega
    rcases hd3 with rfl | rfl | rfl
    · -- one step
      have hk2 : k = 2 := by omega
      subst hk2
      have y0 := hY 0
      have y1 := hY 1
      have n0 := hne 0
      have c0 := go.cov 0
      have c1 := go.cov 1
      have per := go.per 0
      have l0 := go.lt 0
      have l1 := go.lt 1
      simp only [Nat.zero_add, Nat.reduceAdd] at *
      rw [per] at c1
      have hpp : g.point (Y 0) = Y 0 := by rw [← y0.2.1]; exact y0.2.2.2.2.2
      have hy1 : Y 1 = Y 0 := y0.2.2.2.2.2
      generalize Y 0 = p at *
      have both : g.covers p (p - 1) = true ∧ g.covers (p - 1) p = true ∧ p < g.n ∧ 0 < p := by
        by_cases h : W 0 = p
        · have e : W 1 = p - 1 := by omega
          rw [h, e] at c0 c1
          exact ⟨c0, c1, by omega, by omega⟩
        · have e : W 1 = p := by omega
          have e0 : W 0 = p - 1 := by omega
          rw [e, e0] at c0 c1
          exact ⟨c1, c0, by omega, by omega⟩
      obtain ⟨b1, b2, b3, b4⟩ := both
      have t1 := cov_two b1
      have t2 := cov_two b2
      rw [show p - 1 + 1 = p by omega] at t2
      exact has_two ok (walk1 ok hpp b3 (by omega) (by omega))
    · have hk4 : k = 4 := by omega
      subst hk4
      -- begun on the right
      have key : ∀ i, W i = Y i → g.has 4 = true := by
        intro i hi
        have y0 := hY i
        have y1 := hY (i + 1)
        have y2 := hY (i + 1 + 1)
        have y3 := hY (i + 1 + 1 + 1)
        have n0 := hne i
        have n1 := hne (i + 1)
        have c0 := go.cov i
        have c1 := go.cov (i + 1)
        have c2 := go.cov (i + 1 + 1)
        have c3 := go.cov (i + 1 + 1 + 1)
        have per := go.per i
        have l0 := go.lt i
        rw [show i + 4 = i + 1 + 1 + 1 + 1 from rfl] at per
        rw [per] at c3
        have e2 : Y (i + 1 + 1) = Y i := y0.2.2.2.2.2
        have e3 : Y (i + 1 + 1 + 1) = Y (i + 1) := y1.2.2.2.2.2
        have w2 : W (i + 1 + 1) = Y i - 1 := by have : W (i + 2) = W (i + 1 + 1) := rfl; omega
        have p0 : 0 < Y i := by have : W (i + 2) = W (i + 1 + 1) := rfl; omega
        have hp : g.point (Y i) = Y (i + 1) := y0.2.1.symm
        have hp' : g.point (Y (i + 1)) = Y i := by rw [← y1.2.1, e2]
        rw [hi] at c0 c3
        rw [w2] at c1 c2
        refine has_four ok hp y0.1 (walk2 ok hp hp' p0 (by omega) c0 c1 c2 c3 ?_ y1.2.2.2.1 y1.2.2.2.2.1 ?_ ?_)
        · exact fun e => n1 e.symm
        · rw [← e3]; exact y3.2.2.2.1
        · rw [← e3]; exact y3.2.2.2.2.1
      by_cases h : W 0 = Y 0
      · exact key 0 h
      · refine key 2 ?_
        have y0 := hY 0
        have y2 := hY 2
        have n0 := hne 0
        have e : Y 2 = Y 0 := by have := y0.2.2.2.2.2; simpa using this
        simp only [Nat.zero_add] at n0
        omega
    · have hk6 : k = 6 := by omega
      subst hk6
      have s : ∀ i, Y (i + 1) = g.point (Y i) := fun i => (hY i).2.1
      have p3 : ∀ i, Y (i + 3) = Y i := fun i => (hY i).2.2.2.2.2
      by_cases hf : Y 1 = Y 0
      · -- a point that stays
        exfalso
        have all : ∀ i, Y i = Y 0 := fun i => by
          induction i with
          | zero => rfl
          | succ i ih => rw [s, ih, ← s 0, hf]
        have stp : ∀ i j, W i = W j → W (i + 1) = W (j + 1) := fun i j e => by
          have a := hY i
          have b := hY (i + 1)
          have b' := hY (j + 1)
          have ci := go.cov i
          have cj := go.cov j
          rw [← e] at cj
          have eb : Y (i + 1) = g.point (Y i) := s i
          have eb' : Y (j + 1) = g.point (Y i) := by rw [s j, all i, all j]
          rw [eb] at b
          rw [eb'] at b'
          exact det a.2.2.2.1 a.2.2.2.2.1 ci cj b.2.2.2.1 b.2.2.2.2.1 b'.2.2.2.1 b'.2.2.2.2.1
        have side : ∀ i, W i ≤ Y 0 ∧ Y 0 ≤ W i + 1 := fun i => by
          have a := hY i
          rw [all i] at a
          exact ⟨a.2.2.2.1, a.2.2.2.2.1⟩
        have n0 := hne 0
        have n3 := hne 3
        simp only [Nat.zero_add, Nat.reduceAdd] at n0 n3
        have n1 : W 1 ≠ W 0 := fun e => by
          have e2 := stp _ _ e
          have e3 := stp _ _ e2
          simp only [Nat.zero_add, Nat.reduceAdd] at e2 e3
          omega
        have n2 : W 2 ≠ W 1 := fun e => by
          have e3 := stp _ _ e
          have e4 := stp _ _ e3
          have e5 := stp _ _ e4
          have e6 := stp _ _ e5
          have per := go.per 0
          simp only [Nat.zero_add, Nat.reduceAdd] at e3 e4 e5 e6 per
          omega
        have two : W 2 = W 0 := by
          have a := side 0
          have b := side 1
          have c := side 2
          omega
        refine hp 3 2 (by decide) (by decide) fun i => ?_
        induction i with
        | zero => exact two
        | succ i ih =>
          have := stp _ _ ih
          rw [show i + 1 + 2 = i + 2 + 1 by omega]
          exact this
      · have h0 := s 0
        have h1 := s 1
        have h2 := s 2
        have h3 := p3 0
        have h4 := p3 1
        simp only [Nat.zero_add, Nat.reduceAdd] at *
        rw [h3] at h2
        refine has_six ok (hY 0).1 (hY 1).1 (hY 2).1 h0.symm h1.symm h2.symm (Ne.symm hf) ?_ ?_
        · intro e
          apply hf
          rw [h2, ← e, ← h1, ← e]
        · intro e
          apply hf
          have : Y 1 = g.point (Y 2) := by rw [h0, e]
          rw [this, ← h2]

/-- The map of a way's first steps. -/
def af (g : Abs) (W : Nat → Nat) : Nat → Int × Int
  | 0 => (1, 0)
  | i + 1 => (g.slope (W i) * (af g W i).1, (g.point (W i) : Int) + g.slope (W i) * ((af g W i).2 - (W i : Int)))

theorem af_go {g : Abs} {Q : Nat} (hQ : 0 < Q) {W : Nat → Nat} {P : Int} : ∀ d, (∀ i, i < d → W i < g.n ∧ ((W i : Nat) : Int) * Q ≤ It g Q i P ∧ It g Q i P ≤ ((W i + 1 : Nat) : Int) * Q) →
    It g Q d P = (af g W d).1 * P + (af g W d).2 * Q
  | 0, _ => by show P = 1 * P + 0 * Q; omega
  | d + 1, h => by
    have ih := af_go hQ d (fun i hi => h i (by omega))
    have hd := h d (by omega)
    rw [It_succ, F_in hQ hd.1 hd.2.1 hd.2.2, ih]
    show _ = (g.slope (W d) * (af g W d).1) * P + ((g.point (W d) : Int) + g.slope (W d) * ((af g W d).2 - (W d : Int))) * Q
    grind

theorem af_one {g : Abs} {W : Nat → Nat} : ∀ d, (af g W d).1.natAbs = 1 → ∀ i, i < d → (g.slope (W i)).natAbs = 1
  | 0, _, i, hi => by omega
  | d + 1, h, i, hi => by
    have e : (af g W (d + 1)).1 = g.slope (W d) * (af g W d).1 := rfl
    rw [e, Int.natAbs_mul] at h
    have h1 := Nat.eq_one_of_mul_eq_one_right h
    have h2 := Nat.eq_one_of_mul_eq_one_left h
    by_cases hid : i = d
    · subst hid
      first | exact h1 | exact h2
    · first | exact af_one d h2 i (by omega) | exact af_one d h1 i (by omega)

/-- A place of a round that goes along a shorter loop again and again: the piece's end comes back in as many steps. -/
theorem point_of_rep {g : Abs} (ok : Ok g) {Q k : Nat} (hk : k ≤ 6) {W : Nat → Nat} {X : Nat → Int} (h : Go g Q k W X) (hb : ∀ j, 0 < j → j < k → X j ≠ X 0)
    {m d : Nat} (hm : 1 < m) (hkd : k = m * d) (hr : ∀ j, W (j + d) = W j) : ∃ p, p ≤ g.n ∧ tp g k p = p ∧ ∀ j, 0 < j → j < k → tp g j p ≠ p := by
  have hd : 0 < d := by
    rcases Nat.eq_zero_or_pos d with rfl | h'
    · have := h.pos; rw [Nat.mul_zero] at hkd; omega
    · exact h'
  have hdk : d < k := by
    rw [hkd]
    have : 1 * d < m * d := Nat.mul_lt_mul_of_pos_right hm hd
    omega
  have hrm : ∀ j i, W (i + d * j) = W i := fun j i => by
    induction j with
    | zero => rfl
    | succ j ih => rw [Nat.mul_succ, ← Nat.add_assoc, hr, ih]
  have aff : ∀ j, X (d * j + d) = (af g W d).1 * X (d * j) + (af g W d).2 * Q := fun j => by
    have := af_go (g := g) h.den (W := W) (P := X (d * j)) d (fun i _ => by
      have e : It g Q i (X (d * j)) = X (d * j + i) := by rw [h.it (d * j + i), It_add, ← h.it]
      rw [e]
      have := h.inn (d * j + i)
      rw [Nat.add_comm (d * j) i, hrm] at this
      rw [Nat.add_comm (d * j) i]
      exact ⟨h.lt i, this⟩)
    rw [← this, h.it (d * j + d), It_add, ← h.it]
  generalize ha : (af g W d).1 = a at *
  generalize hbb : (af g W d).2 = b at *
  have del : ∀ j, (X (d * j + d) - X (d * j)).natAbs = a.natAbs ^ j * (X d - X 0).natAbs := fun j => by
    induction j with
    | zero => simp
    | succ j ih =>
      have e1 := aff j
      have e2 := aff (j + 1)
      rw [Nat.mul_succ] at e2 ⊢
      have : X (d * j + d + d) - X (d * j + d) = a * (X (d * j + d) - X (d * j)) := by
        rw [e2]
        conv => lhs; arg 2; rw [e1]
        grind
      rw [this, Int.natAbs_mul, ih, Nat.pow_succ]
      grind
  have hne : X d ≠ X 0 := hb d hd hdk
  have hdm : d * m = k := by rw [hkd, Nat.mul_comm]
  have cyc1 : X (d * m + d) = X d := by rw [hdm, Nat.add_comm, h.perX]
  have cyc0 : X (d * m) = X 0 := by rw [hdm, h.back]
  have one : a.natAbs = 1 := by
    have := del m
    rw [cyc1, cyc0] at this
    have hpos : 0 < (X d - X 0).natAbs := by omega
    have : 1 * (X d - X 0).natAbs = a.natAbs ^ m * (X d - X 0).natAbs := by rw [Nat.one_mul]; exact this
    have := Nat.eq_of_mul_eq_mul_right hpos this
    rcases (Nat.pow_eq_one).mp this.symm with e | e
    · exact e
    · omega
  have x0 := aff 0
  rw [Nat.mul_zero, Nat.zero_add] at x0
  have a1 : a = -1 := by
    rcases (show a = 1 ∨ a = -1 by omega) with e | e
    · exfalso
      subst e
      have lin : ∀ j : Nat, X (d * j) = X 0 + (j : Int) * (X d - X 0) := fun j => by
        induction j with
        | zero => simp
        | succ j ih =>
          rw [Nat.mul_succ, aff j, ih, Int.natCast_succ]
          grind
      have := lin m
      rw [cyc0] at this
      have : (m : Int) * (X d - X 0) = 0 := by omega
      rcases Int.mul_eq_zero.mp this with e | e <;> omega
    · exact e
  subst a1
  have x1 := aff 1
  rw [Nat.mul_one] at x1
  have x2 : X (d + d) = X 0 := by rw [x1, x0]; grind
  have m2 : k = 2 * d := by
    have h2 : ¬ (d + d < k) := fun hh => hb (d + d) (by omega) hh x2
    have : m = 2 := by
      have : ¬ 2 < m := fun hh => by
        have : 2 * d < m * d := Nat.mul_lt_mul_of_pos_right hh hd
        omega
      omega
    rw [hkd, this]
  -- each piece of it is put just onto the next one
  have sl := af_one (g := g) (W := W) d (by rw [ha]; rfl)
  have ends : ∀ y, (y = W 0 ∨ y = W 0 + 1) → ∀ i, i ≤ d → (tp g i y = W i ∨ tp g i y = W i + 1) := fun y hy i => by
    induction i with
    | zero => intro _; exact hy
    | succ i ih =>
      intro hi
      rw [tp_succ]
      have c := cov_two (h.cov i)
      have s := sl i (by omega)
      unfold Abs.slope at s
      rcases ih (by omega) with e | e <;> rw [e] <;> omega
  have yn : ∀ y, (y = W 0 ∨ y = W 0 + 1) → y ≤ g.n := fun y hy => by have := h.lt 0; omega
  have val : ∀ y, (y = W 0 ∨ y = W 0 + 1) → (tp g d y : Int) = - (y : Int) + b := fun y hy => by
    have q1 : ∀ i, It g 1 i (y : Int) = (tp g i y : Int) := fun i => by
      have := It_point ok (Q := 1) (by decide) i y (yn y hy)
      simpa using this
    have := af_go (g := g) (Q := 1) (by decide) (W := W) (P := (y : Int)) d (fun i hi => by
      refine ⟨h.lt i, ?_⟩
      rw [q1]
      have := ends y hy i (by omega)
      constructor <;> omega)
    rw [q1, ha, hbb] at this
    omega
  have v0 := val (W 0) (.inl rfl)
  have v1 := val (W 0 + 1) (.inr rfl)
  have e0 := ends (W 0) (.inl rfl) d (Nat.le_refl _)
  have e1 := ends (W 0 + 1) (.inr rfl) d (Nat.le_refl _)
  have wd : W d = W 0 := by have := hr 0; rwa [Nat.zero_add] at this
  rw [wd] at e0 e1
  have f0 : tp g d (W 0) = W 0 + 1 := by omega
  have f1 : tp g d (W 0 + 1) = W 0 := by omega
  have pn := yn (W 0) (.inl rfl)
  refine ⟨W 0, pn, by rw [m2, Nat.two_mul, tp_add, f0, f1], ?_⟩
  have full : tp g k (W 0) = W 0 := by rw [m2, Nat.two_mul, tp_add, f0, f1]
  intro j hj0 hjk e
  have hg := tp_gcd ok pn j k e full
  have d3 : d = 1 ∨ d = 2 ∨ d = 3 := by omega
  have rep1 : ∀ t, tp g 1 (W 0) = W 0 → tp g t (W 0) = W 0 := fun t ht => by
    induction t with
    | zero => rfl
    | succ t ih => rw [tp_succ, ih]; exact ht
  rcases d3 with rfl | rfl | rfl
  · have : j = 1 := by omega
    subst this
    omega
  · have hk4 : k = 4 := by omega
    subst hk4
    have : j = 1 ∨ j = 2 ∨ j = 3 := by omega
    rcases this with rfl | rfl | rfl
    · have := rep1 2 e; omega
    · omega
    · have := rep1 2 hg; omega
  · have hk6 : k = 6 := by omega
    subst hk6
    have two : tp g 2 (W 0) = W 0 := by
      have : j = 1 ∨ j = 2 ∨ j = 3 ∨ j = 4 ∨ j = 5 := by omega
      rcases this with rfl | rfl | rfl | rfl | rfl
      · have := rep1 3 e; omega
      · exact e
      · omega
      · exact hg
      · have := rep1 3 hg; omega
    have t1 : g.point (W 0) = W 0 + 1 := by
      have : tp g 3 (W 0) = tp g 1 (tp g 2 (W 0)) := tp_add g 2 1 _
      rw [two] at this
      have e : tp g 1 (W 0) = g.point (W 0) := rfl
      omega
    have t2 : g.point (W 0 + 1) = W 0 := by
      have : tp g 2 (W 0) = g.point (g.point (W 0)) := rfl
      rw [t1] at this
      omega
    -- the piece is turned about in one step
    have i0 := h.inn 0
    have q1 : X 1 = ((W 0 : Int) + (W 0 : Int) + 1) * Q - X 0 := by
      have := h.nxt 0
      rw [F_in h.den (h.lt 0) i0.1 i0.2] at this
      unfold Abs.slope at this
      rw [t1, t2] at this
      rw [show (1 : Nat) = 0 + 1 from rfl, this, Int.natCast_add]
      grind
    have q2 : X 2 = ((W 0 : Int) + (W 0 : Int) + 1) * Q - X 1 := by
      have e : ((W 0 + 1 : Nat) : Int) * Q = (W 0 : Int) * Q + Q := by rw [Int.natCast_add, Int.add_mul]; simp
      have e' : ((W 0 : Int) + (W 0 : Int) + 1) * Q = (W 0 : Int) * Q + (W 0 : Int) * Q + Q := by grind
      have := h.nxt 1
      rw [F_in (i := W 0) h.den (h.lt 0) (by omega) (by omega)] at this
      unfold Abs.slope at this
      rw [t1, t2] at this
      rw [show (2 : Nat) = 1 + 1 from rfl, this, Int.natCast_add]
      grind
    exact hb 2 (by decide) (by decide) (by omega)

/-- A round of k steps: a point that comes back, or a whole loop. -/
theorem has_main {g : Abs} (ok : Ok g) {k : Nat} (hk : k ≤ 6) :
    g.has k = true ↔ (∃ p, p ≤ g.n ∧ 0 < k ∧ tp g k p = p ∧ ∀ j, 0 < j → j < k → tp g j p ≠ p) ∨ (∃ w, Loop g k w ∧ PrimW k (cyc w k)) := by
  constructor
  · intro h
    rcases has_iff.mp h with ⟨p, hp, hb⟩ | ⟨w, hw, x, hx, hb⟩
    · exact .inl ⟨p, hp, (back_point ok hp k).mp hb⟩
    · by_cases hpr : PrimW k (cyc w k)
      · exact .inr ⟨w, hw, hpr⟩
      · left
        obtain ⟨P, Q, hQ, hg, hf, hb', _, _⟩ := loop_place hw
        rw [hg] at hx
        have hx := List.mem_singleton.mp hx
        subst hx
        have go := go_of hw hQ hf hb'
        have hbk := (back_red g Q hQ P k).mp hb
        obtain ⟨m, h1⟩ := Classical.not_forall.mp hpr
        obtain ⟨d, h1⟩ := Classical.not_forall.mp h1
        obtain ⟨hm, h1⟩ := Classical.not_imp.mp h1
        obtain ⟨hkd, h1⟩ := Classical.not_imp.mp h1
        have hr := Classical.not_not.mp h1
        obtain ⟨p, p1, p2, p3⟩ := point_of_rep ok hk go hbk.2.2 hm hkd hr
        exact ⟨p, p1, hbk.1, p2, p3⟩
  · rintro (⟨p, hp, h0, h1, h2⟩ | ⟨w, hw, hp⟩)
    · exact has_of_point ok hp h0 h1 h2
    · exact has_of_prim ok hk hw hp

end HM
end
section
open Su183
namespace HM

theorem nodup_sub {α : Type} [DecidableEq α] : ∀ (l m : List α), l.Nodup → (∀ x ∈ l, x ∈ m) → l.length ≤ m.length
  | [], m, _, _ => Nat.zero_le _
  | a :: l, m, h, hs => by
    rw [List.nodup_cons] at h
    have ha := hs a List.mem_cons_self
    have := nodup_sub l (m.erase a) h.2 (fun x hx => by
      have hne : x ≠ a := fun e => by subst e; exact h.1 hx
      exact (List.mem_erase_of_ne hne).mpr (hs x (List.mem_cons_of_mem _ hx)))
    rw [List.length_erase_of_mem ha] at this
    have : 0 < m.length := List.length_pos_of_mem ha
    rw [List.length_cons]
    omega

theorem nodup_map_on {α β : Type} (f : α → β) : ∀ (l : List α), l.Nodup → (∀ x ∈ l, ∀ y ∈ l, f x = f y → x = y) → (l.map f).Nodup
  | [], _, _ => List.nodup_nil
  | a :: l, h, hi => by
    rw [List.nodup_cons] at h
    rw [List.map_cons]
    rw [List.nodup_cons]
    refine ⟨fun hm => ?_, nodup_map_on f l h.2 (fun x hx y hy => hi x (List.mem_cons_of_mem _ hx) y (List.mem_cons_of_mem _ hy))⟩
    obtain ⟨y, hy, e⟩ := List.mem_map.mp hm
    have := hi y (List.mem_cons_of_mem _ hy) a List.mem_cons_self e
    subst this
    exact h.1 hy

theorem ch_of_fun {g : Abs} {W : Nat → Nat} : ∀ (k s : Nat), (∀ i, W i < g.n ∧ g.covers (W i) (W (i + 1)) = true) → Ch g ((List.range' s k).map W) (W (s + k))
  | 0, s, _ => trivial
  | k + 1, s, h => by
    rw [List.range'_succ, List.map_cons]
    have ih := ch_of_fun k (s + 1) h
    rw [show s + 1 + k = s + (k + 1) by omega] at ih
    refine ⟨(h s).1, ?_, ih⟩
    cases k with
    | zero => exact (h s).2
    | succ k => rw [List.range'_succ, List.map_cons]; exact (h s).2

def row (W : Nat → Nat) (k : Nat) : List Nat := (List.range' 0 k).map W

theorem row_len (W : Nat → Nat) (k : Nat) : (row W k).length = k := by unfold row; simp

theorem row_get (W : Nat → Nat) (k j : Nat) (h : j < k) : (row W k).getD j 0 = W j := by
  unfold row
  rw [List.getD_eq_getElem?_getD, List.getElem?_map, List.getElem?_range' h]
  simp

theorem loop_of_fun {g : Abs} {W : Nat → Nat} {k : Nat} (hk : 0 < k) (h : ∀ i, W i < g.n ∧ g.covers (W i) (W (i + 1)) = true) (hp : W k = W 0) : Loop g k (row W k) := by
  refine ⟨hk, row_len W k, ?_⟩
  have := ch_of_fun k 0 h
  have e : (row W k).headD 0 = W (0 + k) := by
    have : (row W k).headD 0 = (row W k).getD 0 0 := by cases row W k <;> rfl
    rw [this, row_get W k 0 hk, Nat.zero_add, hp]
  rw [e]
  exact this

theorem cyc_row (W : Nat → Nat) (k : Nat) (hk : 0 < k) (hp : ∀ i, W (i + k) = W i) (j : Nat) : cyc (row W k) k j = W j := by
  unfold cyc
  rw [row_get W k _ (Nat.mod_lt _ hk)]
  have : ∀ a b, W (a + k * b) = W a := fun a b => by
    induction b with
    | zero => rfl
    | succ b ih => rw [Nat.mul_succ, ← Nat.add_assoc, hp, ih]
  conv => rhs; rw [← Nat.mod_add_div j k, this]

theorem row_cyc (w : List Nat) (k : Nat) (h : w.length = k) : row (cyc w k) k = w := by
  apply List.ext_getElem
  · rw [row_len, h]
  · intro i h1 h2
    have hi : i < k := by rw [← h]; exact h2
    have e := row_get (cyc w k) k i hi
    rw [List.getD_eq_getElem?_getD, List.getElem?_eq_getElem h1, Option.getD_some] at e
    rw [e]
    unfold cyc
    rw [Nat.mod_eq_of_lt hi, List.getD_eq_getElem?_getD, List.getElem?_eq_getElem h2, Option.getD_some]

/-- A row that is gone through again behind d. -/
def Per (k d : Nat) (w : List Nat) : Prop := ∀ j, cyc w k (j + d) = cyc w k j

/-- The loops of d steps, and those of k that are one of them, several times. -/
theorem per_count {g : Abs} {k d m : Nat} (hd : 0 < d) (hm : 0 < m) (hk : k = m * d) (A : List (List Nat)) (hA : A.Nodup) (hmem : ∀ w, w ∈ A ↔ Loop g k w ∧ Per k d w) : A.length = (AllLoops g d).length := by
  have hkp : 0 < k := by rw [hk]; exact Nat.mul_pos hm hd
  have perk : ∀ v : List Nat, ∀ i, cyc v d (i + k) = cyc v d i := fun v i => by
    unfold cyc; rw [hk, Nat.add_mul_mod_self_right]
  apply Nat.le_antisymm
  · have : A.length = (A.map fun w => row (cyc w k) d).length := by rw [List.length_map]
    rw [this]
    apply nodup_sub
    · apply nodup_map_on _ _ hA
      intro x hx y hy e
      obtain ⟨lx, px⟩ := (hmem x).mp hx
      obtain ⟨ly, py⟩ := (hmem y).mp hy
      have c : ∀ j, cyc x k j = cyc y k j := fun j => by
        rw [← cyc_row (cyc x k) d hd px j, ← cyc_row (cyc y k) d hd py j, e]
      rw [← row_cyc x k lx.len, ← row_cyc y k ly.len, show cyc x k = cyc y k from funext c]
    · intro v hv
      obtain ⟨w, hw, rfl⟩ := List.mem_map.mp hv
      obtain ⟨lw, pw⟩ := (hmem w).mp hw
      rw [mem_all]
      exact loop_of_fun hd (fun i => cyc_cov lw i) (by have := pw 0; rwa [Nat.zero_add] at this)
  · have : (AllLoops g d).length = ((AllLoops g d).map fun v => row (cyc v d) k).length := by rw [List.length_map]
    rw [this]
    apply nodup_sub
    · apply nodup_map_on _ _ nodup_all
      intro x hx y hy e
      have lx := mem_all.mp hx
      have ly := mem_all.mp hy
      have c : ∀ j, cyc x d j = cyc y d j := fun j => by
        rw [← cyc_row (cyc x d) k hkp (perk x) j, ← cyc_row (cyc y d) k hkp (perk y) j, e]
      rw [← row_cyc x d lx.len, ← row_cyc y d ly.len, show cyc x d = cyc y d from funext c]
    · intro w hw
      obtain ⟨v, hv, rfl⟩ := List.mem_map.mp hw
      have lv := mem_all.mp hv
      rw [hmem]
      refine ⟨loop_of_fun hkp (fun i => cyc_cov lv i) (by have := perk v 0; rwa [Nat.zero_add] at this), fun j => ?_⟩
      rw [cyc_row _ k hkp (perk v), cyc_row _ k hkp (perk v), cyc_per]

open Classical in
theorem split_len (l : List (List Nat)) (p : List Nat → Prop) : l.length = (l.filter fun w => decide (p w)).length + (l.filter fun w => decide (¬ p w)).length := by
  induction l with
  | nil => rfl
  | cons a l ih =>
    by_cases h : p a
    · simp [h, ih]; omega
    · simp [h, ih]; omega

open Classical in
theorem prim_one {g : Abs} {k d m : Nat} (hd : 0 < d) (hm : 0 < m) (hk : k = m * d) (hP : ∀ w : List Nat, PrimW k (cyc w k) ↔ ¬ Per k d w) :
    (∃ w, Loop g k w ∧ PrimW k (cyc w k)) ↔ (AllLoops g d).length < (AllLoops g k).length := by
  have s := split_len (AllLoops g k) (fun w => Per k d w)
  have e := per_count (g := g) hd hm hk ((AllLoops g k).filter fun w => decide (Per k d w)) (nodup_all.filter _) (fun w => by
    rw [List.mem_filter, mem_all, decide_eq_true_eq])
  rw [s, e]
  constructor
  · rintro ⟨w, lw, pw⟩
    have : 0 < ((AllLoops g k).filter fun w => decide (¬ Per k d w)).length := List.length_pos_of_mem (a := w) (by
      rw [List.mem_filter, mem_all, decide_eq_true_eq]; exact ⟨lw, (hP w).mp pw⟩)
    omega
  · intro h
    have : 0 < ((AllLoops g k).filter fun w => decide (¬ Per k d w)).length := by omega
    obtain ⟨w, hw⟩ := List.exists_mem_of_length_pos this
    rw [List.mem_filter, mem_all, decide_eq_true_eq] at hw
    exact ⟨w, hw.1, (hP w).mpr hw.2⟩

theorem per_mul {k d : Nat} {w : List Nat} (h : Per k d w) (m : Nat) : Per k (m * d) w := by
  intro j
  induction m with
  | zero => rw [Nat.zero_mul]; rfl
  | succ m ih => rw [Nat.succ_mul, ← Nat.add_assoc, h, ih]

theorem prime_prim {k : Nat} (hk : ∀ m d, 1 < m → k = m * d → d = 1) (hk1 : 1 < k) (w : List Nat) : PrimW k (cyc w k) ↔ ¬ Per k 1 w := by
  constructor
  · intro h hp
    exact h k 1 hk1 (by omega) hp
  · intro h m d hm hkd hp
    have := hk m d hm hkd
    subst this
    exact h hp

theorem dvd_cases {k m d : Nat} (h6 : k ≤ 6) (hm : 1 < m) (hk : k = m * d) (h0 : 0 < k) : m ≤ 6 ∧ 0 < d ∧ d ≤ 3 := by
  have hd : 0 < d := by
    rcases Nat.eq_zero_or_pos d with rfl | h
    · omega
    · exact h
  refine ⟨?_, hd, ?_⟩
  · have : m * 1 ≤ m * d := Nat.mul_le_mul_left _ hd
    omega
  · have : 2 * d ≤ m * d := Nat.mul_le_mul_right _ hm
    omega

theorem prim_count_p {g : Abs} {k : Nat} (hk : k = 2 ∨ k = 3 ∨ k = 5) : (∃ w, Loop g k w ∧ PrimW k (cyc w k)) ↔ (AllLoops g 1).length < (AllLoops g k).length := by
  apply prim_one (m := k) (by decide) (by omega) (by omega)
  intro w
  apply prime_prim _ (by omega)
  intro m d hm hkd
  obtain ⟨h1, h2, h3⟩ := dvd_cases (by omega) hm hkd (by omega)
  have hd : d = 1 ∨ d = 2 ∨ d = 3 := by omega
  rcases hd with rfl | rfl | rfl <;> omega

theorem prim_count_4 {g : Abs} : (∃ w, Loop g 4 w ∧ PrimW 4 (cyc w 4)) ↔ (AllLoops g 2).length < (AllLoops g 4).length := by
  apply prim_one (m := 2) (by decide) (by decide) (by decide)
  intro w
  constructor
  · intro h hp
    exact h 2 2 (by decide) (by decide) hp
  · intro h m d hm hkd hp
    obtain ⟨h1, h2, h3⟩ := dvd_cases (by decide) hm hkd (by decide)
    have hd : d = 1 ∨ d = 2 ∨ d = 3 := by omega
    rcases hd with rfl | rfl | rfl
    · exact h (per_mul (m := 2) hp)
    · exact h hp
    · omega

theorem prim_count_1 {g : Abs} : (∃ w, Loop g 1 w ∧ PrimW 1 (cyc w 1)) ↔ 0 < (AllLoops g 1).length := by
  constructor
  · rintro ⟨w, lw, _⟩
    exact List.length_pos_of_mem (mem_all.mpr lw)
  · intro h
    obtain ⟨w, hw⟩ := List.exists_mem_of_length_pos h
    refine ⟨w, mem_all.mp hw, fun m d hm hkd => ?_⟩
    obtain ⟨h1, h2, h3⟩ := dvd_cases (by decide) hm hkd (by decide)
    have : 2 * 1 ≤ m * d := Nat.mul_le_mul hm h2
    omega

open Classical in
theorem prim_count_6 {g : Abs} : (∃ w, Loop g 6 w ∧ PrimW 6 (cyc w 6)) ↔ (AllLoops g 2).length + (AllLoops g 3).length < (AllLoops g 6).length + (AllLoops g 1).length := by
  have hP : ∀ w : List Nat, PrimW 6 (cyc w 6) ↔ ¬ Per 6 2 w ∧ ¬ Per 6 3 w := by
    intro w
    constructor
    · intro h
      exact ⟨fun hp => h 3 2 (by decide) (by decide) hp, fun hp => h 2 3 (by decide) (by decide) hp⟩
    · intro h m d hm hkd hp
      obtain ⟨h1, h2, h3⟩ := dvd_cases (by decide) hm hkd (by decide)
      have hd : d = 1 ∨ d = 2 ∨ d = 3 := by omega
      rcases hd with rfl | rfl | rfl
      · exact h.1 (per_mul (m := 2) hp)
      · exact h.1 hp
      · exact h.2 hp
  have s2 := split_len (AllLoops g 6) (fun w => Per 6 2 w)
  have e2 := per_count (g := g) (k := 6) (d := 2) (m := 3) (by decide) (by decide) (by decide) ((AllLoops g 6).filter fun w => decide (Per 6 2 w)) (nodup_all.filter _) (fun w => by
    rw [List.mem_filter, mem_all, decide_eq_true_eq])
  have e3 := per_count (g := g) (k := 6) (d := 3) (m := 2) (by decide) (by decide) (by decide) ((AllLoops g 6).filter fun w => decide (Per 6 3 w)) (nodup_all.filter _) (fun w => by
    rw [List.mem_filter, mem_all, decide_eq_true_eq])
  have s3 := split_len ((AllLoops g 6).filter fun w => decide (Per 6 3 w)) (fun w => Per 6 2 w)
  have e1 := per_count (g := g) (k := 6) (d := 1) (m := 6) (by decide) (by decide) (by decide) (((AllLoops g 6).filter fun w => decide (Per 6 3 w)).filter fun w => decide (Per 6 2 w)) ((nodup_all.filter _).filter _) (fun w => by
    rw [List.mem_filter, List.mem_filter, mem_all, decide_eq_true_eq, decide_eq_true_eq]
    constructor
    · rintro ⟨⟨a, b⟩, c⟩
      refine ⟨a, fun j => ?_⟩
      have x := c (j + 1)
      have y := b j
      rw [show j + 1 + 2 = j + 3 by omega, y] at x
      exact x.symm
    · rintro ⟨a, b⟩
      exact ⟨⟨a, per_mul (m := 3) b⟩, per_mul (m := 2) b⟩)
  have s4 := split_len ((AllLoops g 6).filter fun w => decide (¬ Per 6 2 w)) (fun w => Per 6 3 w)
  have e4 : ((((AllLoops g 6).filter fun w => decide (Per 6 3 w)).filter fun w => decide (¬ Per 6 2 w))).length = (((AllLoops g 6).filter fun w => decide (¬ Per 6 2 w)).filter fun w => decide (Per 6 3 w)).length := by
    rw [List.filter_filter, List.filter_filter]
    congr 1
    congr 1
    funext w
    exact Bool.and_comm _ _
  have fin : (∃ w, Loop g 6 w ∧ PrimW 6 (cyc w 6)) ↔ 0 < (((AllLoops g 6).filter fun w => decide (¬ Per 6 2 w)).filter fun w => decide (¬ Per 6 3 w)).length := by
    constructor
    · rintro ⟨w, lw, pw⟩
      refine List.length_pos_of_mem (a := w) ?_
      rw [List.mem_filter, List.mem_filter, mem_all, decide_eq_true_eq, decide_eq_true_eq]
      exact ⟨⟨lw, ((hP w).mp pw).1⟩, ((hP w).mp pw).2⟩
    · intro h
      obtain ⟨w, hw⟩ := List.exists_mem_of_length_pos h
      rw [List.mem_filter, List.mem_filter, mem_all, decide_eq_true_eq, decide_eq_true_eq] at hw
      exact ⟨w, hw.1.1, (hP w).mpr ⟨hw.1.2, hw.2⟩⟩
  rw [fin]
  omega

end HM
end
section
open Su183
namespace HM

/-- a sum over the first n -/
def S (n : Nat) (f : Nat → Nat) : Nat := ((List.range n).map f).sum
theorem S_zero (f : Nat → Nat) : S 0 f = 0 := rfl
theorem S_succ (n : Nat) (f : Nat → Nat) : S (n + 1) f = S n f + f n := by
  unfold S
  rw [List.range_succ, List.map_append, List.sum_append]
  simp
theorem S_congr {n : Nat} {f g : Nat → Nat} (h : ∀ i, i < n → f i = g i) : S n f = S n g := by
  unfold S
  congr 1
  apply List.map_congr_left
  intro i hi
  exact h i (List.mem_range.mp hi)
theorem S_add (n : Nat) (f g : Nat → Nat) : S n (fun i => f i + g i) = S n f + S n g := by
  induction n with
  | zero => rfl
  | succ n ih => rw [S_succ, S_succ, S_succ, ih]; omega
theorem S_const_zero (n : Nat) : S n (fun _ => 0) = 0 := by
  induction n with
  | zero => rfl
  | succ n ih => rw [S_succ, ih]
theorem S_swap (n m : Nat) (f : Nat → Nat → Nat) : S n (fun i => S m (f i)) = S m (fun j => S n (fun i => f i j)) := by
  induction n with
  | zero =>
    rw [S_zero]
    exact (S_const_zero m).symm
  | succ n ih =>
    rw [S_succ, ih, ← S_add]
    exact S_congr fun j _ => (S_succ n _).symm
theorem S_ite (n : Nat) (c : Bool) (f : Nat → Nat) : S n (fun i => if c = true then f i else 0) = if c = true then S n f else 0 := by
  cases c
  · simp [S_const_zero]
  · simp
theorem S_single {n i : Nat} (h : i < n) (f : Nat → Nat) : S n (fun j => if j = i then f j else 0) = f i := by
  induction n with
  | zero => omega
  | succ n ih =>
    rw [S_succ]
    by_cases e : i = n
    · subst e
      rw [if_pos rfl]
      have : S i (fun j => if j = i then f j else 0) = 0 := by
        have h0 : S i (fun j => if j = i then f j else 0) = S i (fun _ => 0) := S_congr fun j hj => if_neg (show ¬ j = i by omega)
        rw [h0, S_const_zero]
      omega
    · rw [ih (by omega), if_neg (fun z => e z.symm)]
      omega

/-- how many ways of k steps there are from j to i: the first step ahead -/
def Nw (g : Abs) : Nat → Nat → Nat → Nat
  | 0, j, i => if j = i then 1 else 0
  | k + 1, j, i => S g.n fun l => if g.covers j l = true then Nw g k l i else 0

/-- the last step ahead -/
theorem Nw_last (g : Abs) : ∀ (k j i : Nat), j < g.n → i < g.n → Nw g (k + 1) j i = S g.n fun l => if g.covers l i = true then Nw g k j l else 0
  | 0, j, i, hj, hi => by
    show S g.n (fun l => if g.covers j l = true then (if l = i then 1 else 0) else 0) = S g.n fun l => if g.covers l i = true then (if j = l then 1 else 0) else 0
    have e1 : S g.n (fun l => if g.covers j l = true then (if l = i then 1 else 0) else 0) = S g.n (fun l => if l = i then (if g.covers j l = true then 1 else 0) else 0) := S_congr fun l _ => by
      by_cases a : l = i <;> by_cases b : g.covers j l = true <;> simp [a, b]
    have e2 : S g.n (fun l => if g.covers l i = true then (if j = l then 1 else 0) else 0) = S g.n (fun l => if l = j then (if g.covers l i = true then 1 else 0) else 0) := S_congr fun l _ => by
      by_cases a : j = l
      · subst a; simp
      · have : ¬ l = j := fun e => a e.symm
        simp [a, this]
    rw [e1, e2, S_single hi, S_single hj]
  | k + 1, j, i, hj, hi => by
    show S g.n (fun l => if g.covers j l = true then Nw g (k + 1) l i else 0) = _
    have e1 : S g.n (fun l => if g.covers j l = true then Nw g (k + 1) l i else 0) = S g.n (fun l => S g.n fun m => if g.covers j l = true then (if g.covers m i = true then Nw g k l m else 0) else 0) := S_congr fun l hl => by
      rw [Nw_last g k l i hl hi, S_ite]
    rw [e1, S_swap]
    refine S_congr fun m _ => ?_
    have e2 : (S g.n fun l => if g.covers j l = true then (if g.covers m i = true then Nw g k l m else 0) else 0) = S g.n fun l => if g.covers m i = true then (if g.covers j l = true then Nw g k l m else 0) else 0 := S_congr fun l _ => by
      by_cases a : g.covers m i = true <;> by_cases b : g.covers j l = true <;> simp [a, b]
    rw [e2, S_ite]
    rfl

theorem getD_map_range (n : Nat) (f : Nat → Nat) (j : Nat) : ((List.range n).map f).getD j 0 = if j < n then f j else 0 := by
  rw [List.getD_eq_getElem?_getD, List.getElem?_map]
  by_cases h : j < n
  · rw [if_pos h, List.getElem?_range h]; rfl
  · rw [List.getElem?_eq_none (by simpa using h), if_neg h]; rfl

theorem ways_Nw (g : Abs) : ∀ (k i j : Nat), i < g.n → j < g.n → Su186.ways g i j k = Nw g k i j
  | 0, i, j, hi, hj => by
    unfold Su186.ways Su186.rowsOf Su186.pieces
    rw [getD_map_range, if_pos hj]
    show (if j = i then 1 else 0) = if i = j then 1 else 0
    by_cases e : i = j
    · subst e; rfl
    · rw [if_neg e, if_neg (fun z => e z.symm)]
  | k + 1, i, j, hi, hj => by
    rw [Nw_last g k i j hi hj]
    show ((List.range g.n).map fun j => ((List.range g.n).map fun l => if g.covers l j = true then (Su186.rowsOf g i k).getD l 0 else 0).sum).getD j 0 = _
    rw [getD_map_range, if_pos hj]
    refine S_congr fun l hl => ?_
    rw [← ways_Nw g k i l hi hl]
    rfl

theorem length_filter_flatMap {α : Type} (p : Nat → Bool) (f : Nat → List α) : ∀ l : List Nat, ((l.filter p).flatMap f).length = (l.map fun x => if p x = true then (f x).length else 0).sum
  | [] => rfl
  | x :: l => by
    rw [List.map_cons, List.sum_cons, ← length_filter_flatMap p f l]
    by_cases h : p x = true
    · rw [List.filter_cons_of_pos h, List.flatMap_cons, List.length_append, if_pos h]
    · rw [List.filter_cons_of_neg h, if_neg h, Nat.zero_add]

theorem loopsFrom_len (g : Abs) (i : Nat) (hi : i < g.n) : ∀ (k j : Nat), (g.loopsFrom i j (k + 1)).length = Nw g (k + 1) j i
  | 0, j => by
    rw [loopsFrom_one]
    show _ = S g.n fun l => if g.covers j l = true then (if l = i then 1 else 0) else 0
    have e1 : S g.n (fun l => if g.covers j l = true then (if l = i then 1 else 0) else 0) = S g.n (fun l => if l = i then (if g.covers j l = true then 1 else 0) else 0) := S_congr fun l _ => by
      by_cases a : l = i <;> by_cases b : g.covers j l = true <;> simp [a, b]
    rw [e1, S_single hi]
    split <;> rfl
  | k + 1, j => by
    rw [loopsFrom_two, length_filter_flatMap]
    show _ = S g.n fun l => if g.covers j l = true then Nw g (k + 1) l i else 0
    refine S_congr fun l _ => ?_
    rw [List.length_map, loopsFrom_len g i hi k l]

theorem length_flatMap_range {α : Type} (f : Nat → List α) (l : List Nat) : (l.flatMap f).length = (l.map fun x => (f x).length).sum := by
  induction l with
  | nil => rfl
  | cons x l ih => rw [List.flatMap_cons, List.length_append, ih, List.map_cons, List.sum_cons]

theorem all_len (g : Abs) (k : Nat) : (AllLoops g (k + 1)).length = Su186.loops g (k + 1) := by
  unfold AllLoops Su186.loops Su186.pieces
  rw [length_flatMap_range]
  refine S_congr fun i hi => ?_
  rw [loopsFrom_len g i hi k i, ways_Nw g (k + 1) i i hi hi]

/-- has, by how many loops there are -/
theorem has_count {g : Abs} (ok : Ok g) {k : Nat} (h0 : 0 < k) (hk : k ≤ 6) : g.has k = true ↔
    (∃ p, p ≤ g.n ∧ 0 < k ∧ tp g k p = p ∧ ∀ j, 0 < j → j < k → tp g j p ≠ p) ∨
    (k = 1 ∧ 0 < Su186.loops g 1) ∨ ((k = 2 ∨ k = 3 ∨ k = 5) ∧ Su186.loops g 1 < Su186.loops g k) ∨ (k = 4 ∧ Su186.loops g 2 < Su186.loops g 4) ∨ (k = 6 ∧ Su186.loops g 2 + Su186.loops g 3 < Su186.loops g 6 + Su186.loops g 1) := by
  rw [has_main ok hk]
  refine or_congr Iff.rfl ?_
  have l1 := all_len g 0
  have l2 := all_len g 1
  have l3 := all_len g 2
  have l4 := all_len g 3
  have l5 := all_len g 4
  have l6 := all_len g 5
  simp only [Nat.zero_add, Nat.reduceAdd] at l1 l2 l3 l4 l5 l6
  have hc : k = 1 ∨ k = 2 ∨ k = 3 ∨ k = 4 ∨ k = 5 ∨ k = 6 := by omega
  rcases hc with rfl | rfl | rfl | rfl | rfl | rfl
  · rw [prim_count_1, l1]; omega
  · rw [prim_count_p (.inl rfl), l1, l2]; omega
  · rw [prim_count_p (.inr (.inl rfl)), l1, l3]; omega
  · rw [prim_count_4, l2, l4]; omega
  · rw [prim_count_p (.inr (.inr rfl)), l1, l5]; omega
  · rw [prim_count_6, l1, l2, l3, l6]; omega

end HM
end
section
open Su183
namespace HM

theorem S_pos {n : Nat} {f : Nat → Nat} : S n f ≠ 0 ↔ ∃ l, l < n ∧ f l ≠ 0 := by
  induction n with
  | zero => simp [S_zero]
  | succ n ih =>
    rw [S_succ]
    constructor
    · intro h
      by_cases h0 : f n = 0
      · obtain ⟨l, a, b⟩ := ih.mp (by omega)
        exact ⟨l, by omega, b⟩
      · exact ⟨n, by omega, h0⟩
    · rintro ⟨l, a, b⟩
      by_cases e : l = n
      · subst e; omega
      · have := ih.mpr ⟨l, by omega, b⟩
        omega
/-- two of a sum -/
theorem S_two {n : Nat} {f : Nat → Nat} {a b : Nat} (ha : a < n) (hb : b < n) (hab : a ≠ b) : f a + f b ≤ S n f := by
  have h1 : f a + f b = S n fun i => (if i = a then f i else 0) + (if i = b then f i else 0) := by rw [S_add, S_single ha, S_single hb]
  rw [h1]
  have key : ∀ m (g h : Nat → Nat), (∀ i, i < m → g i ≤ h i) → S m g ≤ S m h := by
    intro m g h
    induction m with
    | zero => intro _; exact Nat.le_refl _
    | succ m ih =>
      intro hh
      rw [S_succ, S_succ]
      have := ih fun i hi => hh i (by omega)
      have := hh m (by omega)
      omega
  refine key n _ _ fun i _ => ?_
  by_cases e : i = a
  · subst e
    rw [if_pos rfl, if_neg hab]
    omega
  · rw [if_neg e]
    split <;> omega
/-- a sum of two or more: two terms, or one of two or more -/
theorem S_ge_two {n : Nat} {f : Nat → Nat} (h : 2 ≤ S n f) : (∃ a, a < n ∧ 2 ≤ f a) ∨ (∃ a b, a < n ∧ b < n ∧ a ≠ b ∧ f a ≠ 0 ∧ f b ≠ 0) := by
  induction n with
  | zero => rw [S_zero] at h; omega
  | succ n ih =>
    rw [S_succ] at h
    by_cases h2 : 2 ≤ f n
    · exact .inl ⟨n, by omega, h2⟩
    · by_cases h1 : f n = 0
      · rcases ih (by omega) with ⟨a, x, y⟩ | ⟨a, b, x, y, z, u, v⟩
        · exact .inl ⟨a, by omega, y⟩
        · exact .inr ⟨a, b, by omega, by omega, z, u, v⟩
      · obtain ⟨l, a, b⟩ := S_pos.mp (show S n f ≠ 0 by omega)
        exact .inr ⟨l, n, by omega, by omega, by omega, b, h1⟩

theorem Nw_step {g : Abs} {k i j : Nat} : Nw g (k + 1) i j ≠ 0 ↔ ∃ l, l < g.n ∧ g.covers i l = true ∧ Nw g k l j ≠ 0 := by
  show S g.n (fun l => if g.covers i l = true then Nw g k l j else 0) ≠ 0 ↔ _
  rw [S_pos]
  constructor
  · rintro ⟨l, a, b⟩
    by_cases h : g.covers i l = true
    · rw [if_pos h] at b; exact ⟨l, a, h, b⟩
    · rw [if_neg h] at b; exact absurd rfl b
  · rintro ⟨l, a, b, c⟩
    exact ⟨l, a, by rw [if_pos b]; exact c⟩

theorem Nw_add {g : Abs} : ∀ (a b : Nat) {i l j : Nat}, l < g.n → Nw g a i l ≠ 0 → Nw g b l j ≠ 0 → Nw g (a + b) i j ≠ 0
  | 0, b, i, l, j, _, h1, h2 => by
    have : i = l := Classical.byContradiction fun e => h1 (if_neg e)
    subst this
    rwa [Nat.zero_add]
  | a + 1, b, i, l, j, hl, h1, h2 => by
    obtain ⟨m, x, y, z⟩ := Nw_step.mp h1
    rw [Nat.add_right_comm]
    exact Nw_step.mpr ⟨m, x, y, Nw_add a b hl z h2⟩

/-- a way as a row of pieces -/
theorem Nw_row {g : Abs} : ∀ (k : Nat) {i j : Nat}, i < g.n → Nw g k i j ≠ 0 → ∃ W : Nat → Nat, W 0 = i ∧ W k = j ∧ (∀ m, m ≤ k → W m < g.n) ∧ ∀ m, m < k → g.covers (W m) (W (m + 1)) = true
  | 0, i, j, hi, h => by
    have : i = j := Classical.byContradiction fun e => h (if_neg e)
    subst this
    exact ⟨fun _ => i, rfl, rfl, fun _ _ => hi, fun m hm => by omega⟩
  | k + 1, i, j, hi, h => by
    obtain ⟨l, x, y, z⟩ := Nw_step.mp h
    obtain ⟨W, w0, wk, wn, wc⟩ := Nw_row k x z
    refine ⟨fun m => if m = 0 then i else W (m - 1), rfl, by show (if k + 1 = 0 then i else W (k + 1 - 1)) = j; rw [if_neg (by omega)]; exact wk, fun m hm => ?_, fun m hm => ?_⟩
    · show (if m = 0 then i else W (m - 1)) < g.n
      split
      · exact hi
      · exact wn _ (by omega)
    · show g.covers (if m = 0 then i else W (m - 1)) (if m + 1 = 0 then i else W (m + 1 - 1)) = true
      rw [if_neg (by omega : ¬ m + 1 = 0), Nat.add_sub_cancel]
      by_cases e : m = 0
      · subst e; rw [if_pos rfl, w0]; exact y
      · rw [if_neg e]
        have := wc (m - 1) (by omega)
        rwa [show m - 1 + 1 = m by omega] at this

theorem Nw_of_row {g : Abs} {W : Nat → Nat} : ∀ (k s : Nat), (∀ m, m ≤ k → W (s + m) < g.n) → (∀ m, m < k → g.covers (W (s + m)) (W (s + m + 1)) = true) → Nw g k (W s) (W (s + k)) ≠ 0
  | 0, s, _, _ => by show (if W s = W s then 1 else 0) ≠ 0; rw [if_pos rfl]; decide
  | k + 1, s, h1, h2 => by
    refine Nw_step.mpr ⟨W (s + 1), h1 1 (by omega), h2 0 (by omega), ?_⟩
    have := Nw_of_row (W := W) k (s + 1) (fun m hm => by have := h1 (m + 1) (by omega); rwa [show s + (m + 1) = s + 1 + m by omega] at this) (fun m hm => by
      have := h2 (m + 1) (by omega)
      rwa [show s + (m + 1) = s + 1 + m by omega] at this)
    rwa [show s + 1 + k = s + (k + 1) by omega] at this

/-- more pieces than there are: one comes twice -/
theorem twice_in {n : Nat} {W : Nat → Nat} {k : Nat} (hk : n < k) (h : ∀ m, m < k → W m < n) : ∃ a b, a < b ∧ b < k ∧ W a = W b := by
  apply Classical.byContradiction
  intro hc
  have nd : ((List.range k).map W).Nodup := by
    apply nodup_map_on _ _ List.nodup_range
    intro x hx y hy e
    rw [List.mem_range] at hx hy
    rcases Nat.lt_trichotomy x y with l | l | l
    · exact absurd ⟨x, y, l, hy, e⟩ hc
    · exact l
    · exact absurd ⟨y, x, l, hx, e.symm⟩ hc
  have := nodup_sub _ (List.range n) nd (fun z hz => by
    obtain ⟨m, hm, rfl⟩ := List.mem_map.mp hz
    exact List.mem_range.mpr (h m (List.mem_range.mp hm)))
  rw [List.length_map, List.length_range, List.length_range] at this
  omega

/-- a way of fewer steps than there are pieces -/
theorem Nw_short {g : Abs} : ∀ (f k : Nat) {i j : Nat}, k ≤ f → i < g.n → Nw g k i j ≠ 0 → ∃ k', k' < g.n ∧ Nw g k' i j ≠ 0
  | f, k, i, j, hf, hi, h => by
    by_cases hk : k < g.n
    · exact ⟨k, hk, h⟩
    · obtain ⟨W, w0, wk, wn, wc⟩ := Nw_row k hi h
      obtain ⟨a, b, hab, hb, e⟩ := twice_in (n := g.n) (W := W) (k := k + 1) (by omega) (fun m hm => wn m (by omega))
      have p1 := Nw_of_row (g := g) (W := W) a 0 (fun m hm => by rw [Nat.zero_add]; exact wn m (by omega)) (fun m hm => by rw [Nat.zero_add]; exact wc m (by omega))
      have p2 := Nw_of_row (g := g) (W := W) (k - b) b (fun m hm => wn _ (by omega)) (fun m hm => wc _ (by omega))
      rw [Nat.zero_add, w0] at p1
      rw [show b + (k - b) = k by omega, wk, ← e] at p2
      have := Nw_add a (k - b) (wn a (by omega)) p1 p2
      cases f with
      | zero => omega
      | succ f => exact Nw_short f (a + (k - b)) (by omega) hi this

theorem ways_ne {g : Abs} {i j k : Nat} (hi : i < g.n) (hj : j < g.n) : (Su186.ways g i j k != 0) = true ↔ Nw g k i j ≠ 0 := by
  rw [ways_Nw g k i j hi hj, bne_iff_ne]

/-- one comes from a piece to another one: by some steps, 1 or more -/
theorem leads_iff {g : Abs} {i j : Nat} (hi : i < g.n) (hj : j < g.n) : Su186.leads g i j = true ↔ ∃ k, Nw g (k + 1) i j ≠ 0 := by
  unfold Su186.leads
  rw [List.any_eq_true]
  constructor
  · rintro ⟨k, _, h⟩
    exact ⟨k, (ways_ne hi hj).mp h⟩
  · rintro ⟨k, h⟩
    obtain ⟨l, x, y, z⟩ := Nw_step.mp h
    obtain ⟨k', hk', h'⟩ := Nw_short k k (Nat.le_refl _) x z
    exact ⟨k', List.mem_range.mpr hk', (ways_ne hi hj).mpr (Nw_step.mpr ⟨l, x, y, h'⟩)⟩
theorem leads_trans {g : Abs} {i j l : Nat} (hi : i < g.n) (hj : j < g.n) (hl : l < g.n) (h1 : Su186.leads g i j = true) (h2 : Su186.leads g j l = true) : Su186.leads g i l = true := by
  obtain ⟨a, ha⟩ := (leads_iff hi hj).mp h1
  obtain ⟨b, hb⟩ := (leads_iff hj hl).mp h2
  refine (leads_iff hi hl).mpr ⟨a + 1 + b, ?_⟩
  exact Nw_add (a + 1) (b + 1) hj ha hb
theorem leads_cov {g : Abs} {i j : Nat} (hi : i < g.n) (hj : j < g.n) (h : g.covers i j = true) : Su186.leads g i j = true :=
  (leads_iff hi hj).mpr ⟨0, Nw_step.mpr ⟨j, hj, h, by show (if j = j then 1 else 0) ≠ 0; rw [if_pos rfl]; decide⟩⟩

theorem mem_room {g : Abs} {i j : Nat} : j ∈ Su186.room g i ↔ j < g.n ∧ (j = i ∨ (Su186.leads g i j = true ∧ Su186.leads g j i = true)) := by
  unfold Su186.room Su186.pieces
  rw [List.mem_filter, List.mem_range, Bool.or_eq_true, Bool.and_eq_true, beq_iff_eq]

theorem two_in {l : List Nat} {p : Nat → Bool} (hl : l.Nodup) : 1 < (l.filter p).length ↔ ∃ a b, a ∈ l ∧ b ∈ l ∧ a ≠ b ∧ p a = true ∧ p b = true := by
  have hn : (l.filter p).Nodup := hl.filter _
  constructor
  · intro h
    match e : l.filter p, h with
    | a :: b :: r, _ =>
      rw [e] at hn
      have ha : a ∈ l.filter p := by rw [e]; exact List.mem_cons_self
      have hb : b ∈ l.filter p := by rw [e]; exact List.mem_cons_of_mem _ List.mem_cons_self
      rw [List.mem_filter] at ha hb
      refine ⟨a, b, ha.1, hb.1, fun z => ?_, ha.2, hb.2⟩
      subst z
      exact (List.nodup_cons.mp hn).1 List.mem_cons_self
  · rintro ⟨a, b, ha, hb, hab, pa, pb⟩
    have := nodup_sub [a, b] (l.filter p) (by simp [hab]) (fun x hx => by
      obtain rfl | hx := List.mem_cons.mp hx
      · exact List.mem_filter.mpr ⟨ha, pa⟩
      · have := List.mem_singleton.mp hx
        subst this
        exact List.mem_filter.mpr ⟨hb, pb⟩)
    exact this

theorem room_nodup (g : Abs) (i : Nat) : (Su186.room g i).Nodup := List.nodup_range.filter _

/-- doubled: some piece of a room with loops covers two of the room -/
def Dbl (g : Abs) : Prop := ∃ i j a b, i < g.n ∧ Su186.leads g i i = true ∧ j ∈ Su186.room g i ∧ a ∈ Su186.room g i ∧ b ∈ Su186.room g i ∧ a ≠ b ∧ g.covers j a = true ∧ g.covers j b = true

theorem kind_two {g : Abs} : Su186.kind g = 2 ↔ Dbl g := by
  unfold Su186.kind
  have key : ((Su186.pieces g).any (fun i => Su186.onLoop g i && Su186.twice g i) = true) ↔ Dbl g := by
    unfold Su186.pieces Su186.onLoop Su186.twice
    simp only [List.any_eq_true, Bool.and_eq_true, decide_eq_true_eq, List.mem_range]
    constructor
    · rintro ⟨i, hi, h1, j, hj, h2⟩
      obtain ⟨a, b, ha, hb, hab, pa, pb⟩ := (two_in (room_nodup g i)).mp h2
      exact ⟨i, j, a, b, hi, h1, hj, ha, hb, hab, pa, pb⟩
    · rintro ⟨i, j, a, b, hi, h1, hj, ha, hb, hab, pa, pb⟩
      exact ⟨i, hi, h1, j, hj, (two_in (room_nodup g i)).mpr ⟨a, b, ha, hb, hab, pa, pb⟩⟩
  constructor
  · intro h
    by_cases hc : (Su186.pieces g).any (fun i => Su186.onLoop g i && Su186.twice g i) = true
    · exact key.mp hc
    · rw [if_neg hc] at h
      split at h <;> omega
  · intro h
    rw [if_pos (key.mpr h)]

/-- in a room with loops one comes from each piece to each -/
theorem room_leads {g : Abs} {i a b : Nat} (hi : i < g.n) (hl : Su186.leads g i i = true) (ha : a ∈ Su186.room g i) (hb : b ∈ Su186.room g i) : Su186.leads g a b = true := by
  obtain ⟨an, ha⟩ := mem_room.mp ha
  obtain ⟨bn, hb⟩ := mem_room.mp hb
  have h1 : Su186.leads g a i = true := by
    rcases ha with rfl | ha
    · exact hl
    · exact ha.2
  have h2 : Su186.leads g i b = true := by
    rcases hb with rfl | hb
    · exact hl
    · exact hb.1
  exact leads_trans an hi bn h1 h2

/-- two loops of the same steps, at most twice as many as there are pieces -/
theorem dbl_loops {g : Abs} (h : Dbl g) : ∃ k j, k < 2 * g.n ∧ j < g.n ∧ 1 < Su186.ways g j j (k + 1) := by
  obtain ⟨i, j, a, b, hi, hl, hj, ha, hb, hab, ca, cb⟩ := h
  obtain ⟨jn, _⟩ := mem_room.mp hj
  obtain ⟨an, _⟩ := mem_room.mp ha
  obtain ⟨bn, _⟩ := mem_room.mp hb
  have short : ∀ l, l < g.n → l ∈ Su186.room g i → ∃ k, k < g.n ∧ Nw g k l j ≠ 0 := fun l hl' hlr => by
    obtain ⟨k, hk⟩ := (leads_iff hl' jn).mp (room_leads hi hl hlr hj)
    exact Nw_short _ _ (Nat.le_refl _) hl' hk
  obtain ⟨p, hp, np⟩ := short a an ha
  obtain ⟨q, hq, nq⟩ := short b bn hb
  refine ⟨p + (q + 1), j, by omega, jn, ?_⟩
  rw [ways_Nw g _ j j jn jn]
  have t1 : Nw g (p + (q + 1)) a j ≠ 0 := Nw_add p (q + 1) jn np (Nw_step.mpr ⟨b, bn, cb, nq⟩)
  have t2 : Nw g (p + (q + 1)) b j ≠ 0 := by
    rw [show p + (q + 1) = q + (p + 1) by omega]
    exact Nw_add q (p + 1) jn nq (Nw_step.mpr ⟨a, an, ca, np⟩)
  have := S_two (f := fun l => if g.covers j l = true then Nw g (p + (q + 1)) l j else 0) an bn hab
  rw [if_pos ca, if_pos cb] at this
  show 1 < S g.n fun l => if g.covers j l = true then Nw g (p + (q + 1)) l j else 0
  omega

/-- the other way round -/
theorem loops_dbl {g : Abs} (ok : Ok g) {i : Nat} (hi : i < g.n) : ∀ (k x : Nat), x ∈ Su186.room g i → Su186.leads g i i = true → 1 < Nw g k x i → Dbl g
  | 0, x, _, _, h => by
    have : Nw g 0 x i ≤ 1 := by show (if x = i then 1 else 0) ≤ 1; split <;> omega
    omega
  | k + 1, x, hx, hl, h => by
    obtain ⟨xn, _⟩ := mem_room.mp hx
    have back : ∀ l, l < g.n → g.covers x l = true → Nw g k l i ≠ 0 → l ∈ Su186.room g i := fun l ln cl nl => by
      refine mem_room.mpr ⟨ln, ?_⟩
      by_cases e : l = i
      · exact .inl e
      · refine .inr ⟨leads_trans hi xn ln (room_leads hi hl (mem_room.mpr ⟨hi, .inl rfl⟩) hx) (leads_cov xn ln cl), ?_⟩
        cases k with
        | zero => exact absurd (if_neg e) nl
        | succ k => exact (leads_iff ln hi).mpr ⟨k, nl⟩
    rcases S_ge_two (f := fun l => if g.covers x l = true then Nw g k l i else 0) h with ⟨l, ln, h2⟩ | ⟨a, b, an, bn, hab, ha, hb⟩
    · by_cases c : g.covers x l = true
      · have h2 : 2 ≤ if g.covers x l = true then Nw g k l i else 0 := h2
        rw [if_pos c] at h2
        exact loops_dbl ok hi k l (back l ln c (by omega)) hl h2
      · have h2 : 2 ≤ if g.covers x l = true then Nw g k l i else 0 := h2
        rw [if_neg c] at h2
        omega
    · have ha : (if g.covers x a = true then Nw g k a i else 0) ≠ 0 := ha
      have hb : (if g.covers x b = true then Nw g k b i else 0) ≠ 0 := hb
      have ca : g.covers x a = true := Classical.byContradiction fun c => ha (if_neg c)
      have cb : g.covers x b = true := Classical.byContradiction fun c => hb (if_neg c)
      rw [if_pos ca] at ha
      rw [if_pos cb] at hb
      exact ⟨i, x, a, b, hi, hl, hx, back a an ca ha, back b bn cb hb, hab, ca, cb⟩

theorem ways_dbl {g : Abs} (ok : Ok g) {i k : Nat} (hi : i < g.n) (h : 1 < Su186.ways g i i (k + 1)) : Dbl g := by
  rw [ways_Nw g _ i i hi hi] at h
  exact loops_dbl ok hi (k + 1) i (mem_room.mpr ⟨hi, .inl rfl⟩) ((leads_iff hi hi).mpr ⟨k, by omega⟩) h

/-- a shoe just if it's doubled -/
theorem shoe_none {g : Abs} (ok : Ok g) : Su186.shoe g = none ↔ Su186.kind g ≠ 2 := by
  rw [Ne, kind_two]
  unfold Su186.shoe Su186.pieces
  rw [List.findSome?_eq_none_iff]
  constructor
  · intro h hd
    obtain ⟨k, j, hk, hj, hw⟩ := dbl_loops hd
    have := h k (List.mem_range.mpr hk)
    rw [Option.map_eq_none_iff, List.find?_eq_none] at this
    exact this j (List.mem_range.mpr hj) (decide_eq_true hw)
  · intro h k _
    rw [Option.map_eq_none_iff, List.find?_eq_none]
    intro j hj hw
    exact h (ways_dbl ok (List.mem_range.mp hj) (of_decide_eq_true hw))

/-- how many ways there are, told and counted -/
theorem allWays_len {g : Abs} {j : Nat} (hj : j < g.n) : ∀ (k i : Nat), i < g.n → (Su186.allWays g j i k).length = Su186.ways g i j k
  | 0, i, hi => by
    rw [ways_Nw g 0 i j hi hj]
    show (if i = j then [[i]] else []).length = if i = j then 1 else 0
    split <;> rfl
  | k + 1, i, hi => by
    rw [ways_Nw g (k + 1) i j hi hj]
    show ((((List.range g.n).filter (g.covers i)).flatMap fun l => if Su186.ways g l j k = 0 then [] else (Su186.allWays g j l k).map fun w => i :: w)).length = S g.n fun l => if g.covers i l = true then Nw g k l j else 0
    rw [length_filter_flatMap]
    refine S_congr fun l hl => ?_
    by_cases c : g.covers i l = true
    · rw [if_pos c, if_pos c, ← ways_Nw g k l j hl hj]
      by_cases z : Su186.ways g l j k = 0
      · rw [if_pos z, z]; rfl
      · rw [if_neg z, List.length_map, allWays_len hj k l hl]
    · rw [if_neg c, if_neg c]

end HM
end
section
open Su183
namespace HM

/-! ### ways, the m-th in order -/
theorem allWays_succ {g : Abs} {j : Nat} (hj : j < g.n) (k i : Nat) : Su186.allWays g j i (k + 1) = ((List.range g.n).filter (g.covers i)).flatMap fun l => (Su186.allWays g j l k).map fun w => i :: w := by
  show ((List.range g.n).filter (g.covers i)).flatMap (fun l => if Su186.ways g l j k = 0 then [] else (Su186.allWays g j l k).map fun w => i :: w) = _
  rw [List.flatMap_def, List.flatMap_def]
  congr 1
  apply List.map_congr_left
  intro l hl
  have ln : l < g.n := List.mem_range.mp (List.mem_filter.mp hl).1
  by_cases z : Su186.ways g l j k = 0
  · rw [if_pos z]
    have := allWays_len hj k l ln
    rw [z] at this
    rw [List.eq_nil_of_length_eq_zero this]
    rfl
  · rw [if_neg z]
theorem flat_get {α β : Type} (f : α → List β) (c : α) (L : List α) (s : Nat) : ((c :: L).flatMap f)[s]? = if s < (f c).length then (f c)[s]? else (L.flatMap f)[s - (f c).length]? := by
  rw [List.flatMap_cons]
  by_cases h : s < (f c).length
  · rw [if_pos h, List.getElem?_append_left h]
  · rw [if_neg h, List.getElem?_append_right (by omega)]
theorem allWays_wlen {g : Abs} {j : Nat} (hj : j < g.n) : ∀ (k i : Nat) (w : List Nat), w ∈ Su186.allWays g j i k → w.length = k + 1
  | 0, i, w, h => by
    have h : w ∈ (if i = j then [[i]] else []) := h
    by_cases e : i = j
    · rw [if_pos e] at h
      rw [List.mem_singleton.mp h]; rfl
    · rw [if_neg e] at h; cases h
  | k + 1, i, w, h => by
    rw [allWays_succ hj, List.mem_flatMap] at h
    obtain ⟨l, _, h⟩ := h
    obtain ⟨v, hv, rfl⟩ := List.mem_map.mp h
    rw [List.length_cons, allWays_wlen hj k l v hv]

/-! ### what is reached -/
theorem reach_all {g : Abs} {s : Nat} {l : List Nat} (hs : s < g.n) (hsound : ∀ j ∈ l, j < g.n ∧ Su186.leads g s j = true) (hcl : ∀ x, (x = s ∨ x ∈ l) → ∀ y, y < g.n → g.covers x y = true → y ∈ l) (j : Nat) : j ∈ l ↔ j < g.n ∧ Su186.leads g s j = true := by
  refine ⟨hsound j, fun ⟨hj, h⟩ => ?_⟩
  obtain ⟨k, hk⟩ := (leads_iff hs hj).mp h
  have key : ∀ k x, (x = s ∨ x ∈ l) → Nw g (k + 1) x j ≠ 0 → j ∈ l := by
    intro k
    induction k with
    | zero =>
      intro x hx h
      obtain ⟨m, mn, c, z⟩ := Nw_step.mp h
      have : m = j := Classical.byContradiction fun e => z (if_neg e)
      subst this
      exact hcl x hx m mn c
    | succ k ih =>
      intro x hx h
      obtain ⟨m, mn, c, z⟩ := Nw_step.mp h
      exact ih m (.inr (hcl x hx m mn c)) z
  exact key k s (.inl rfl) hk

/-! ### doubled, by one piece's own room -/
theorem two_dbl {g : Abs} : (∃ i a b, i < g.n ∧ a ∈ Su186.room g i ∧ b ∈ Su186.room g i ∧ a ≠ b ∧ g.covers i a = true ∧ g.covers i b = true) ↔ Dbl g := by
  constructor
  · rintro ⟨i, a, b, hi, ha, hb, hab, ca, cb⟩
    have hl : Su186.leads g i i = true := by
      by_cases e : a = i
      · have e2 : b ≠ i := fun z => hab (e.trans z.symm)
        obtain ⟨bn, hb⟩ := mem_room.mp hb
        rcases hb with z | z
        · exact absurd z e2
        · exact leads_trans hi bn hi z.1 z.2
      · obtain ⟨an, ha⟩ := mem_room.mp ha
        rcases ha with z | z
        · exact absurd z e
        · exact leads_trans hi an hi z.1 z.2
    exact ⟨i, i, a, b, hi, hl, mem_room.mpr ⟨hi, .inl rfl⟩, ha, hb, hab, ca, cb⟩
  · rintro ⟨i, j, a, b, hi, hl, hj, ha, hb, hab, ca, cb⟩
    refine ⟨j, a, b, (mem_room.mp hj).1, ?_, ?_, hab, ca, cb⟩
    · exact mem_room.mpr ⟨(mem_room.mp ha).1, .inr ⟨room_leads hi hl hj ha, room_leads hi hl ha hj⟩⟩
    · exact mem_room.mpr ⟨(mem_room.mp hb).1, .inr ⟨room_leads hi hl hj hb, room_leads hi hl hb hj⟩⟩
/-- some piece covers two of its own room -/
def Two (g : Abs) : Prop := ∃ i a b, i < g.n ∧ a ∈ Su186.room g i ∧ b ∈ Su186.room g i ∧ a ≠ b ∧ g.covers i a = true ∧ g.covers i b = true
def Lp (g : Abs) : Prop := ∃ i, i < g.n ∧ Su186.leads g i i = true
theorem kind_2 {g : Abs} (h : Two g) : Su186.kind g = 2 := kind_two.mpr (two_dbl.mp h)
theorem any_lp {g : Abs} : ((Su186.pieces g).any (Su186.onLoop g) = true) ↔ Lp g := by
  rw [List.any_eq_true]
  constructor
  · rintro ⟨i, hi, h⟩
    exact ⟨i, List.mem_range.mp hi, h⟩
  · rintro ⟨i, hi, h⟩
    exact ⟨i, List.mem_range.mpr hi, h⟩
theorem kind_not {g : Abs} (h : ¬ Two g) : Su186.kind g = if (Su186.pieces g).any (Su186.onLoop g) = true then 1 else 0 := by
  have h2 : ¬ Su186.kind g = 2 := fun z => h (two_dbl.mpr (kind_two.mp z))
  unfold Su186.kind at h2 ⊢
  by_cases hc : (Su186.pieces g).any (fun i => Su186.onLoop g i && Su186.twice g i) = true
  · rw [if_pos hc] at h2; exact absurd rfl h2
  · rw [if_neg hc]
theorem kind_1 {g : Abs} (h : ¬ Two g) (hl : Lp g) : Su186.kind g = 1 := by rw [kind_not h, if_pos (any_lp.mpr hl)]
theorem kind_0 {g : Abs} (h : ¬ Two g) (hl : ¬ Lp g) : Su186.kind g = 0 := by rw [kind_not h, if_neg (fun z => hl (any_lp.mp z))]
theorem lp_of {g : Abs} (h : Su186.kind g = 1) : Lp g := by
  by_cases h2 : Two g
  · rw [kind_2 h2] at h; cases h
  · by_cases hl : Lp g
    · exact hl
    · rw [kind_0 h2 hl] at h; cases h

/-! ### the greatest of a row -/
theorem fm_ge {l : List Nat} : ∀ (a : Nat), a ≤ l.foldl max a ∧ ∀ x ∈ l, x ≤ l.foldl max a := by
  induction l with
  | nil => exact fun a => ⟨Nat.le_refl _, fun x h => by cases h⟩
  | cons y l ih =>
    intro a
    obtain ⟨h1, h2⟩ := ih (max a y)
    rw [List.foldl_cons]
    refine ⟨by omega, fun u hu => ?_⟩
    obtain rfl | hu := List.mem_cons.mp hu
    · omega
    · exact h2 u hu
theorem fm_le {l : List Nat} {m : Nat} : ∀ (a : Nat), a ≤ m → (∀ x ∈ l, x ≤ m) → l.foldl max a ≤ m := by
  induction l with
  | nil => exact fun a h _ => h
  | cons y l ih =>
    intro a h1 h2
    rw [List.foldl_cons]
    have := h2 y List.mem_cons_self
    exact ih (max a y) (by omega) fun x hx => h2 x (List.mem_cons_of_mem _ hx)
theorem fm_eq {l : List Nat} {m : Nat} (h1 : m ∈ l) (h2 : ∀ x ∈ l, x ≤ m) : l.foldl max 0 = m := Nat.le_antisymm (fm_le 0 (Nat.zero_le _) h2) ((fm_ge 0).2 m h1)

/-! ### rooms with loops, one behind another -/
theorem room_eq {g : Abs} {i r : Nat} (hi : i < g.n) (hr : r < g.n) (h1 : Su186.leads g i r = true) (h2 : Su186.leads g r i = true) : Su186.room g i = Su186.room g r := by
  unfold Su186.room Su186.pieces
  apply List.filter_congr
  intro j hj
  have jn := List.mem_range.mp hj
  rw [Bool.eq_iff_iff, Bool.or_eq_true, Bool.or_eq_true, Bool.and_eq_true, Bool.and_eq_true, beq_iff_eq, beq_iff_eq]
  constructor
  · rintro (rfl | ⟨a, b⟩)
    · exact .inr ⟨h2, h1⟩
    · exact .inr ⟨leads_trans hr hi jn h2 a, leads_trans jn hi hr b h1⟩
  · rintro (rfl | ⟨a, b⟩)
    · exact .inr ⟨h1, h2⟩
    · exact .inr ⟨leads_trans hi hr jn h1 a, leads_trans jn hr hi b h2⟩
def isRep (g : Abs) (p : Nat) : Bool := Su186.leads g p p && decide ((Su186.room g p).headD 0 = p)
def reps (g : Abs) : List Nat := (List.range g.n).filter (isRep g)
theorem mem_reps {g : Abs} {p : Nat} : p ∈ reps g ↔ p < g.n ∧ Su186.leads g p p = true ∧ (Su186.room g p).headD 0 = p := by
  unfold reps isRep
  rw [List.mem_filter, List.mem_range, Bool.and_eq_true, decide_eq_true_eq]
theorem reps_nodup (g : Abs) : (reps g).Nodup := List.nodup_range.filter _
theorem rep_eq {g : Abs} {r o : Nat} (hr : r ∈ reps g) (ho : o ∈ reps g) (h1 : Su186.leads g r o = true) (h2 : Su186.leads g o r = true) : r = o := by
  obtain ⟨rn, _, r2⟩ := mem_reps.mp hr
  obtain ⟨on, _, o2⟩ := mem_reps.mp ho
  rw [← r2, room_eq rn on h1 h2, o2]
theorem rep_of {g : Abs} {i : Nat} (hi : i < g.n) (hl : Su186.leads g i i = true) : ∃ r, r ∈ reps g ∧ Su186.leads g i r = true ∧ Su186.leads g r i = true := by
  have hm : i ∈ Su186.room g i := mem_room.mpr ⟨hi, .inl rfl⟩
  cases e : Su186.room g i with
  | nil => rw [e] at hm; cases hm
  | cons r R =>
    have hr : r ∈ Su186.room g i := by rw [e]; exact List.mem_cons_self
    have rn := (mem_room.mp hr).1
    have h1 := room_leads hi hl hm hr
    have h2 := room_leads hi hl hr hm
    refine ⟨r, mem_reps.mpr ⟨rn, room_leads hi hl hr hr, ?_⟩, h1, h2⟩
    rw [← room_eq hi rn h1 h2, e]
    rfl
def onw (g : Abs) (r : Nat) : List Nat := (reps g).filter fun o => decide (o ≠ r) && Su186.leads g r o
theorem mem_onw {g : Abs} {r o : Nat} : o ∈ onw g r ↔ o ∈ reps g ∧ o ≠ r ∧ Su186.leads g r o = true := by
  unfold onw
  rw [List.mem_filter, Bool.and_eq_true, decide_eq_true_eq]
theorem onw_lt {g : Abs} {r o : Nat} (hr : r ∈ reps g) (ho : o ∈ onw g r) : (onw g o).length < (onw g r).length := by
  obtain ⟨h1, h2, h3⟩ := mem_onw.mp ho
  have hn : (o :: onw g o).Nodup := List.nodup_cons.mpr ⟨fun z => (mem_onw.mp z).2.1 rfl, (reps_nodup g).filter _⟩
  have := nodup_sub (o :: onw g o) (onw g r) hn (fun x hx => by
    obtain rfl | hx := List.mem_cons.mp hx
    · exact ho
    · obtain ⟨x1, x2, x3⟩ := mem_onw.mp hx
      refine mem_onw.mpr ⟨x1, fun z => ?_, leads_trans (mem_reps.mp hr).1 (mem_reps.mp h1).1 (mem_reps.mp x1).1 h3 x3⟩
      subst z
      exact h2 (rep_eq h1 x1 x3 h3))
  exact this
theorem onw_n {g : Abs} {r : Nat} (hr : r ∈ reps g) : (onw g r).length < g.n := by
  have hn : (r :: onw g r).Nodup := List.nodup_cons.mpr ⟨fun z => (mem_onw.mp z).2.1 rfl, (reps_nodup g).filter _⟩
  have := nodup_sub (r :: onw g r) (List.range g.n) hn (fun x hx => by
    obtain rfl | hx := List.mem_cons.mp hx
    · exact List.mem_range.mpr (mem_reps.mp hr).1
    · exact List.mem_range.mpr (mem_reps.mp (mem_onw.mp hx).1).1)
  rw [List.length_range] at this
  exact this
/-- the most rooms passed, from a room on -/
def mrp (g : Abs) : Nat → Nat → Nat
  | 0, _ => 0
  | f + 1, r => 1 + ((onw g r).map (mrp g f)).foldl max 0
theorem mrp_mono {g : Abs} : ∀ f r, mrp g f r ≤ mrp g (f + 1) r
  | 0, r => Nat.zero_le _
  | f + 1, r => by
    show 1 + ((onw g r).map (mrp g f)).foldl max 0 ≤ 1 + ((onw g r).map (mrp g (f + 1))).foldl max 0
    refine Nat.add_le_add_left (fm_le 0 (Nat.zero_le _) fun x hx => ?_) 1
    obtain ⟨o, ho, rfl⟩ := List.mem_map.mp hx
    exact Nat.le_trans (mrp_mono f o) ((fm_ge 0).2 _ (List.mem_map.mpr ⟨o, ho, rfl⟩))
theorem chain_succ (g : Abs) (f i : Nat) : Su186.chain g (f + 1) i = (if Su186.leads g i i = true then 1 else 0) + ((List.range g.n).map fun j => if (Su186.room g i).contains j = false ∧ Su186.leads g i j = true then Su186.chain g f j else 0).foldl max 0 := rfl
theorem mrp_chain {g : Abs} : ∀ f r, r ∈ reps g → mrp g f r ≤ Su186.chain g f r
  | 0, r, _ => Nat.zero_le _
  | f + 1, r, hr => by
    obtain ⟨rn, rl, _⟩ := mem_reps.mp hr
    rw [chain_succ, if_pos rl]
    refine Nat.add_le_add_left (fm_le 0 (Nat.zero_le _) fun x hx => ?_) 1
    obtain ⟨o, ho, rfl⟩ := List.mem_map.mp hx
    obtain ⟨h1, h2, h3⟩ := mem_onw.mp ho
    have on := (mem_reps.mp h1).1
    have hno : (Su186.room g r).contains o = false := by
      rw [← Bool.not_eq_true, List.contains_iff_mem]
      intro z
      rcases (mem_room.mp z).2 with z | z
      · exact h2 z
      · exact h2 (rep_eq h1 hr z.2 z.1)
    refine Nat.le_trans (mrp_chain f o h1) ?_
    have := (fm_ge (l := (List.range g.n).map fun j => if (Su186.room g r).contains j = false ∧ Su186.leads g r j = true then Su186.chain g f j else 0) 0).2 (Su186.chain g f o) (List.mem_map.mpr ⟨o, List.mem_range.mpr on, if_pos ⟨hno, h3⟩⟩)
    exact this
theorem chain_mrp {g : Abs} : ∀ f i, i < g.n → Su186.chain g f i = 0 ∨ ∃ r, r ∈ reps g ∧ (r = i ∨ Su186.leads g i r = true) ∧ Su186.chain g f i ≤ mrp g f r
  | 0, i, _ => .inl rfl
  | f + 1, i, hi => by
    by_cases hl : Su186.leads g i i = true
    · obtain ⟨r, hr, h1, h2⟩ := rep_of hi hl
      have rn := (mem_reps.mp hr).1
      refine .inr ⟨r, hr, .inr h1, ?_⟩
      rw [chain_succ, if_pos hl]
      refine Nat.add_le_add_left (fm_le 0 (Nat.zero_le _) fun x hx => ?_) 1
      obtain ⟨j, hj, rfl⟩ := List.mem_map.mp hx
      have jn := List.mem_range.mp hj
      by_cases hc : (Su186.room g i).contains j = false ∧ Su186.leads g i j = true
      · rw [if_pos hc]
        rcases chain_mrp f j jn with z | ⟨o, ho, h3, h4⟩
        · rw [z]; exact Nat.zero_le _
        · have on := (mem_reps.mp ho).1
          have hio : Su186.leads g i o = true := by
            rcases h3 with z | z
            · rw [z]; exact hc.2
            · exact leads_trans hi jn on hc.2 z
          refine Nat.le_trans h4 ((fm_ge 0).2 _ (List.mem_map.mpr ⟨o, mem_onw.mpr ⟨ho, fun z => ?_, leads_trans rn hi on h2 hio⟩, rfl⟩))
          subst z
          have hji : Su186.leads g j i = true := by
            rcases h3 with z | z
            · rw [← z]; exact h2
            · exact leads_trans jn on hi z h2
          have : (Su186.room g i).contains j = true := List.contains_iff_mem.mpr (mem_room.mpr ⟨jn, .inr ⟨hc.2, hji⟩⟩)
          rw [hc.1] at this
          cases this
      · rw [if_neg hc]; exact Nat.zero_le _
    · rw [chain_succ, if_neg hl, Nat.zero_add]
      by_cases hz : ((List.range g.n).map fun j => if (Su186.room g i).contains j = false ∧ Su186.leads g i j = true then Su186.chain g f j else 0).foldl max 0 = 0
      · exact .inl hz
      · right
        have hex : ∃ m, m ∈ ((List.range g.n).map fun j => if (Su186.room g i).contains j = false ∧ Su186.leads g i j = true then Su186.chain g f j else 0) ∧ ((List.range g.n).map fun j => if (Su186.room g i).contains j = false ∧ Su186.leads g i j = true then Su186.chain g f j else 0).foldl max 0 = m := by
          have gen : ∀ (l : List Nat) (a : Nat), l.foldl max a = a ∨ l.foldl max a ∈ l := by
            intro l
            induction l with
            | nil => exact fun a => .inl rfl
            | cons y l ih =>
              intro a
              rw [List.foldl_cons]
              rcases ih (max a y) with z | z
              · rw [z]
                by_cases h : y ≤ a
                · left; omega
                · right
                  rw [show max a y = y by omega]
                  exact List.mem_cons_self
              · exact .inr (List.mem_cons_of_mem _ z)
          rcases gen ((List.range g.n).map fun j => if (Su186.room g i).contains j = false ∧ Su186.leads g i j = true then Su186.chain g f j else 0) 0 with z | z
          · exact absurd z hz
          · exact ⟨_, z, rfl⟩
        obtain ⟨m, hm, e⟩ := hex
        rw [e] at hz ⊢
        obtain ⟨j, hj, hjm⟩ := List.mem_map.mp hm
        have jn := List.mem_range.mp hj
        by_cases hc : (Su186.room g i).contains j = false ∧ Su186.leads g i j = true
        · rw [if_pos hc] at hjm
          subst hjm
          rcases chain_mrp f j jn with z | ⟨o, ho, h3, h4⟩
          · exact absurd z hz
          · have on := (mem_reps.mp ho).1
            refine ⟨o, ho, .inr ?_, Nat.le_trans h4 (mrp_mono f o)⟩
            rcases h3 with z | z
            · rw [z]; exact hc.2
            · exact leads_trans hi jn on hc.2 z
        · rw [if_neg hc] at hjm
          exact absurd hjm.symm hz
theorem power_eq (g : Abs) : Su186.power g = ((reps g).map (mrp g g.n)).foldl max 0 - 1 := by
  unfold Su186.power Su186.pieces
  congr 1
  apply Nat.le_antisymm
  · refine fm_le 0 (Nat.zero_le _) fun x hx => ?_
    obtain ⟨i, hi, rfl⟩ := List.mem_map.mp hx
    rcases chain_mrp g.n i (List.mem_range.mp hi) with z | ⟨r, hr, _, h⟩
    · rw [z]; exact Nat.zero_le _
    · exact Nat.le_trans h ((fm_ge 0).2 _ (List.mem_map.mpr ⟨r, hr, rfl⟩))
  · refine fm_le 0 (Nat.zero_le _) fun x hx => ?_
    obtain ⟨r, hr, rfl⟩ := List.mem_map.mp hx
    exact Nat.le_trans (mrp_chain g.n r hr) ((fm_ge 0).2 _ (List.mem_map.mpr ⟨r, List.mem_range.mpr (mem_reps.mp hr).1, rfl⟩))
theorem reps_some {g : Abs} (h : Su186.kind g = 1) : reps g ≠ [] := by
  obtain ⟨i, hi, hl⟩ := lp_of h
  obtain ⟨r, hr, _⟩ := rep_of hi hl
  intro z
  rw [z] at hr
  cases hr

/-! ### the first of a row -/
theorem range_split {n i : Nat} (h : i < n) : ∃ R, List.range n = List.range i ++ i :: R := by
  refine ⟨List.range' (i + 1) (n - i - 1), ?_⟩
  rw [List.range_eq_range', List.range_eq_range']
  have : n = i + ((n - i - 1) + 1) := by omega
  have e := List.range'_append (s := 0) (m := i) (n := (n - i - 1) + 1) (step := 1)
  rw [← this] at e
  rw [← e, Nat.one_mul, Nat.zero_add, List.range'_succ]
theorem find_first {n i : Nat} {p : Nat → Bool} (h : i < n) (h1 : ∀ j, j < i → p j = false) (h2 : p i = true) : (List.range n).find? p = some i := by
  obtain ⟨R, e⟩ := range_split h
  rw [e, List.find?_append, List.find?_eq_none.mpr (fun j hj => by rw [h1 j (List.mem_range.mp hj)]; exact Bool.false_ne_true), List.find?_cons, h2]
  rfl
theorem findSome_first {α : Type} {n i : Nat} {f : Nat → Option α} {b : α} (h : i < n) (h1 : ∀ j, j < i → f j = none) (h2 : f i = some b) : (List.range n).findSome? f = some b := by
  obtain ⟨R, e⟩ := range_split h
  rw [e, List.findSome?_append, List.findSome?_eq_none_iff.mpr (fun j hj => h1 j (List.mem_range.mp hj)), List.findSome?_cons, h2]
  rfl
theorem shoe_at {g : Abs} {k i : Nat} (hk : k < 2 * g.n) (hi : i < g.n) (h1 : ∀ k', k' < k → ∀ i', i' < g.n → Su186.ways g i' i' (k' + 1) ≤ 1) (h2 : ∀ i', i' < i → Su186.ways g i' i' (k + 1) ≤ 1) (h3 : 1 < Su186.ways g i i (k + 1)) : Su186.shoe g = some (k + 1, i) := by
  unfold Su186.shoe Su186.pieces
  refine findSome_first hk (fun j hj => ?_) ?_
  · rw [Option.map_eq_none_iff, List.find?_eq_none]
    intro x hx z
    have := h1 j hj x (List.mem_range.mp hx)
    have := of_decide_eq_true z
    omega
  · rw [find_first (p := fun i => decide (1 < Su186.ways g i i (k + 1))) hi (fun j hj => decide_eq_false (by have := h2 j hj; omega)) (decide_eq_true h3)]
    rfl
theorem shoe_no {g : Abs} (h1 : ∀ k', k' < 2 * g.n → ∀ i', i' < g.n → Su186.ways g i' i' (k' + 1) ≤ 1) : Su186.shoe g = none := by
  unfold Su186.shoe Su186.pieces
  rw [List.findSome?_eq_none_iff]
  intro j hj
  rw [Option.map_eq_none_iff, List.find?_eq_none]
  intro x hx z
  have := h1 j (List.mem_range.mp hj) x (List.mem_range.mp hx)
  have := of_decide_eq_true z
  omega
theorem shortest_at {g : Abs} {i k : Nat} (hk : k < g.n) (h1 : ∀ k', k' < k → Su186.ways g i i (k' + 1) = 0) (h2 : Su186.ways g i i (k + 1) ≠ 0) : Su186.shortest g i = some (k + 1) := by
  unfold Su186.shortest
  rw [find_first (p := fun k => Su186.ways g i i (k + 1) != 0) hk (fun j hj => by rw [h1 j hj]; rfl) (bne_iff_ne.mpr h2)]
  rfl
theorem shortest_no {g : Abs} {i : Nat} (h1 : ∀ k', k' < g.n → Su186.ways g i i (k' + 1) = 0) : Su186.shortest g i = none := by
  unfold Su186.shortest
  rw [Option.map_eq_none_iff, List.find?_eq_none]
  intro j hj z
  rw [h1 j (List.mem_range.mp hj)] at z
  cases z
theorem take_two {α : Type} {l : List (List α)} {a b : List α} (h0 : l[0]? = some a) (h1 : l[1]? = some b) : (l.take 2).flatten = a ++ b := by
  match l, h0, h1 with
  | x :: y :: r, h0, h1 =>
    cases h0
    cases h1
    simp
theorem head_of {α : Type} {l : List (List α)} {a : List α} (h0 : l[0]? = some a) : l.headD [] = a := by
  match l, h0 with
  | x :: r, h0 => cases h0; rfl
end HM
end
namespace FG
/-- how many numbers a call has behind its own -/
def cnt (p : Nat) : Nat := [1, 2, 0, 0, 0, 1, 1, 3, 4, 1, 0, 0, 0, 0, 1, 1].getD p 0
abbrev nums (l : List Nat) : List Int := l.map fun (x : Nat) => (x : Int)
theorem nums_len (l : List Nat) : (nums l).length = l.length := List.length_map _

theorem shape_nat (p : Nat) (n k : Nat) (h : PySu186.shape (p : Int) = some (n, k)) : p < 16 ∧ (p ≠ 2 → n = cnt p ∧ k = 0) ∧ (p = 2 → n = 0 ∧ k = 1) := by
  match p, h with
  | 0, h => cases h; exact ⟨by decide, fun _ => ⟨rfl, rfl⟩, fun z => by cases z⟩
  | 1, h => cases h; exact ⟨by decide, fun _ => ⟨rfl, rfl⟩, fun z => by cases z⟩
  | 2, h => cases h; exact ⟨by decide, fun z => absurd rfl z, fun _ => ⟨rfl, rfl⟩⟩
  | 3, h => cases h; exact ⟨by decide, fun _ => ⟨rfl, rfl⟩, fun z => by cases z⟩
  | 4, h => cases h; exact ⟨by decide, fun _ => ⟨rfl, rfl⟩, fun z => by cases z⟩
  | 5, h => cases h; exact ⟨by decide, fun _ => ⟨rfl, rfl⟩, fun z => by cases z⟩
  | 6, h => cases h; exact ⟨by decide, fun _ => ⟨rfl, rfl⟩, fun z => by cases z⟩
  | 7, h => cases h; exact ⟨by decide, fun _ => ⟨rfl, rfl⟩, fun z => by cases z⟩
  | 8, h => cases h; exact ⟨by decide, fun _ => ⟨rfl, rfl⟩, fun z => by cases z⟩
  | 9, h => cases h; exact ⟨by decide, fun _ => ⟨rfl, rfl⟩, fun z => by cases z⟩
  | 10, h => cases h; exact ⟨by decide, fun _ => ⟨rfl, rfl⟩, fun z => by cases z⟩
  | 11, h => cases h; exact ⟨by decide, fun _ => ⟨rfl, rfl⟩, fun z => by cases z⟩
  | 12, h => cases h; exact ⟨by decide, fun _ => ⟨rfl, rfl⟩, fun z => by cases z⟩
  | 13, h => cases h; exact ⟨by decide, fun _ => ⟨rfl, rfl⟩, fun z => by cases z⟩
  | 14, h => cases h; exact ⟨by decide, fun _ => ⟨rfl, rfl⟩, fun z => by cases z⟩
  | 15, h => cases h; exact ⟨by decide, fun _ => ⟨rfl, rfl⟩, fun z => by cases z⟩
  | p + 16, h =>
    exfalso
    unfold PySu186.shape at h
    repeat rw [if_neg (by omega)] at h
    cases h

/-- one call, read -/
theorem call_read (r : List Nat) (c : List (List Int)) (t : List Int) (h : PyFlat.call PySu186.shape (nums r) = some (c, t)) :
    ∃ p args r', p < 16 ∧ (p ≠ 2 → r = p :: (args ++ r') ∧ args.length = cnt p ∧ c = [nums (p :: args)]) ∧ (p = 2 → r = p :: args.length :: (args ++ r') ∧ c = [[2], nums args]) ∧ t = nums r' := by
  cases r with
  | nil => cases h
  | cons p r0 =>
    have h : (match PySu186.shape (p : Int) with
      | none => none
      | some (n, k) => if (nums r0).length < n then none else match PyFlat.rows k ((nums r0).drop n) with
        | none => none
        | some (xs, t) => some (((p : Int) :: (nums r0).take n) :: xs, t)) = some (c, t) := h
    cases e : PySu186.shape (p : Int) with
    | none => (rw [e] at h; cases h)
    | some nk =>
      obtain ⟨n, k⟩ := nk
      rw [e] at h
      obtain ⟨h1, h2, h3⟩ := shape_nat p n k e
      have h : (if (nums r0).length < n then none else match PyFlat.rows k ((nums r0).drop n) with
        | none => none
        | some (xs, t) => some (((p : Int) :: (nums r0).take n) :: xs, t)) = some (c, t) := h
      by_cases hl : (nums r0).length < n
      · (rw [if_pos hl] at h; cases h)
      · rw [if_neg hl] at h
        rw [nums_len] at hl
        by_cases hp : p = 2
        · obtain ⟨rfl, rfl⟩ := h3 hp
          subst hp
          rw [List.drop_zero] at h
          cases r0 with
          | nil => cases h
          | cons m r1 =>
            have h : (match (match (if 0 ≤ (m : Int) ∧ (m : Int).toNat ≤ (nums r1).length then some ((nums r1).take (m : Int).toNat, (nums r1).drop (m : Int).toNat) else none) with
                | none => none
                | some (x, s) => match PyFlat.rows 0 s with
                  | none => none
                  | some (xs, t) => some (x :: xs, t)) with
              | none => none
              | some (xs, t) => some (([(2 : Nat)] : List Nat).map (fun (x : Nat) => (x : Int)) :: xs, t)) = some (c, t) := h
            by_cases hm : 0 ≤ (m : Int) ∧ (m : Int).toNat ≤ (nums r1).length
            · rw [if_pos hm] at h
              have h := Option.some.inj h
              have hm2 : m ≤ r1.length := by rw [nums_len] at hm; omega
              refine ⟨2, r1.take m, r1.drop m, by decide, fun z => absurd rfl z, fun _ => ⟨?_, ?_⟩, ?_⟩
              · rw [List.length_take, Nat.min_eq_left hm2, List.take_append_drop]
              · refine (Prod.mk.inj h).1.symm.trans ?_
                unfold nums
                rw [List.map_take]
                rfl
              · refine (Prod.mk.inj h).2.symm.trans ?_
                unfold nums
                rw [List.map_drop]
                rfl
            · rw [if_neg hm] at h; cases h
        · obtain ⟨rfl, rfl⟩ := h2 hp
          have h := Option.some.inj h
          refine ⟨p, r0.take (cnt p), r0.drop (cnt p), h1, fun _ => ⟨?_, ?_, ?_⟩, fun z => absurd z hp, ?_⟩
          · rw [List.take_append_drop]
          · rw [List.length_take]; omega
          · refine (Prod.mk.inj h).1.symm.trans ?_
            unfold nums
            rw [List.map_cons, List.map_take]
          · refine (Prod.mk.inj h).2.symm.trans ?_
            unfold nums
            rw [List.map_drop]

theorem whole_one (x : List Int) : PySu186.whole [x] = [x] := by
  unfold PySu186.whole
  split <;> first | rfl | (rename_i h; cases h <;> rfl)

/-- what's due at one call -/
def one (s : Su186Neutral.S) (p : Nat) (args : List Nat) : Su186Neutral.S × List Int := Su186Neutral.step s (nums (p :: args))
/-- what's due of the rest -/
def rest (s : Su186Neutral.S) (raw : List (List (List Int))) : List Int := PyFlat.told (PyFlat.played (fun s c => Su186Neutral.step s (c.headD [])) s (raw.map PySu186.whole))

/-- the next call at a place of the list -/
theorem next_call {l : List Nat} {i f : Nat} {raw : List (List (List Int))} (hi : i < l.length) (h : PyFlat.calls PySu186.shape f (nums (l.drop i)) = some raw) (hb : PyInside.calls PySu186.bound raw = true) :
    ∃ p args f' raw', p < 16 ∧ l[i]? = some p ∧ (p ≠ 2 → args.length = cnt p) ∧ (p = 2 → l[i + 1]? = some args.length ∧ args.length ≤ 10)
      ∧ (l.drop (if p = 2 then i + 2 else i + 1)).take args.length = args ∧ (if p = 2 then i + 2 else i + 1) + args.length ≤ l.length
      ∧ PyFlat.calls PySu186.shape f' (nums (l.drop ((if p = 2 then i + 2 else i + 1) + args.length))) = some raw' ∧ PyInside.calls PySu186.bound raw' = true
      ∧ ∀ s, rest s raw = ((one s p args).2.length : Int) :: ((one s p args).2 ++ rest (one s p args).1 raw') := by
  obtain ⟨p0, r0, hd⟩ : ∃ p0 r0, l.drop i = p0 :: r0 := by
    cases e : l.drop i with
    | nil =>
      have := congrArg List.length e
      rw [List.length_drop] at this
      simp at this
      omega
    | cons a b => exact ⟨a, b, rfl⟩
  rw [hd] at h
  cases f with
  | zero => cases h
  | succ f =>
    have h : (match PyFlat.call PySu186.shape (nums (p0 :: r0)) with
      | none => none
      | some (c, t) => match PyFlat.calls PySu186.shape f t with
        | none => none
        | some cs => some (c :: cs)) = some raw := h
    cases e : PyFlat.call PySu186.shape (nums (p0 :: r0)) with
    | none => (rw [e] at h; cases h)
    | some ct =>
      obtain ⟨c, t⟩ := ct
      rw [e] at h
      have h : (match PyFlat.calls PySu186.shape f t with
        | none => none
        | some cs => some (c :: cs)) = some raw := h
      cases e2 : PyFlat.calls PySu186.shape f t with
      | none => rw [e2] at h; cases h
      | some cs =>
        rw [e2] at h
        have h := Option.some.inj h
        subst h
        obtain ⟨p, args, r', hp, g1, g2, rfl⟩ := call_read _ _ _ e
        have hb' : (PyInside.call PySu186.bound c && cs.all (PyInside.call PySu186.bound)) = true := hb
        rw [Bool.and_eq_true] at hb'
        have hdr : ∀ j, l.drop (i + j) = (p0 :: r0).drop j := fun j => by rw [← hd, List.drop_drop]
        have hlen : l.length = i + (p0 :: r0).length := by
          have := congrArg List.length hd
          rw [List.length_drop] at this
          omega
        by_cases h2 : p = 2
        · obtain ⟨q1, q2⟩ := g2 h2
          subst h2
          subst q2
          rw [q1] at hd hdr hlen
          refine ⟨2, args, f, cs, hp, ?_, fun z => absurd rfl z, fun _ => ⟨?_, ?_⟩, ?_, ?_, ?_, hb'.2, fun s => ?_⟩
          · have := List.getElem?_drop (xs := l) (i := i) (j := 0)
            rw [hd] at this
            exact this.symm
          · have := List.getElem?_drop (xs := l) (i := i) (j := 1)
            rw [hd] at this
            exact this.symm
          · have hx : PyInside.call PySu186.bound [[2], nums args] = true := hb'.1
            have hx : (PyInside.each [] [] && PyInside.lists [(0, 4294967295, 0, 10)] [nums args]) = true := hx
            have hx : (true && ((decide (0 ≤ (nums args).length) && decide ((nums args).length ≤ 10) && (nums args).all (PyInside.within 0 4294967295) && true))) = true := hx
            simp only [Bool.and_eq_true, decide_eq_true_eq, nums_len] at hx
            exact hx.2.1.1.2
          · rw [if_pos rfl, hdr]
            show (args ++ r').take args.length = args
            exact List.take_left
          · rw [if_pos rfl]
            simp only [List.length_cons, List.length_append] at hlen
            omega
          · rw [if_pos rfl, Nat.add_assoc, hdr]
            have : (2 :: args.length :: (args ++ r')).drop (2 + args.length) = r' := by
              rw [Nat.add_comm]
              show (args ++ r').drop args.length = r'
              exact List.drop_left
            rw [this]
            exact e2
          · rfl
        · obtain ⟨q1, q2, q3⟩ := g1 h2
          subst q3
          rw [q1] at hd hdr hlen
          refine ⟨p, args, f, cs, hp, ?_, fun _ => q2, fun z => absurd z h2, ?_, ?_, ?_, hb'.2, fun s => ?_⟩
          · have := List.getElem?_drop (xs := l) (i := i) (j := 0)
            rw [hd] at this
            exact this.symm
          · rw [if_neg h2, hdr]
            show (args ++ r').take args.length = args
            exact List.take_left
          · rw [if_neg h2]
            simp only [List.length_cons, List.length_append] at hlen
            omega
          · rw [if_neg h2, Nat.add_assoc, hdr]
            have : (p :: (args ++ r')).drop (1 + args.length) = r' := by
              rw [Nat.add_comm]
              show (args ++ r').drop args.length = r'
              exact List.drop_left
            rw [this]
            exact e2
          · unfold rest
            rw [List.map_cons, whole_one]
            rfl

theorem rest_nil (s : Su186Neutral.S) : rest s [] = [] := rfl
theorem calls_nil {f : Nat} {raw : List (List (List Int))} (h : PyFlat.calls PySu186.shape f [] = some raw) : raw = [] := by
  cases f <;> exact (Option.some.inj h).symm
/-- the beginning -/
theorem begin_all {l : List Nat} (h : PySu186.answers_asked (nums l) = true) :
    ∃ raw, PyFlat.calls PySu186.shape (nums l).length (nums l) = some raw ∧ PyInside.calls PySu186.bound raw = true ∧ PySu186.answers (nums l) = rest none raw ∧ (PySu186.answers (nums l)).length ≤ 10000000 := by
  unfold PySu186.answers_asked at h
  cases e : PyFlat.calls PySu186.shape (nums l).length (nums l) with
  | none => (rw [e] at h; cases h)
  | some raw =>
    rw [e] at h
    have h2 := h; simp only [Bool.and_eq_true] at h2
    refine ⟨raw, rfl, h2.1.1.2, ?_, ?_⟩
    · unfold PySu186.answers PySu186.calls
      rw [e]
      rfl
    · exact of_decide_eq_true h2.2
end FG
namespace FG
open PyProof.Rows L2 PySem PySem.Spec
/-! ### the text -/
def topS (i : Nat) : Stmt := PySem.Challenge.pw_foldgrowth_s01_answers.main.body.getD i (.Pass ⟨0, 0, 0, 0⟩)
abbrev sUnf : Stmt := topS 1
abbrev sTur : Stmt := topS 2
abbrev sPc : Stmt := topS 3
abbrev sCov : Stmt := topS 4
abbrev sOsm : Stmt := topS 5
abbrev sOsa : Stmt := topS 6
abbrev sBi : Stmt := topS 7
abbrev sWe : Stmt := topS 8
abbrev sLen : Stmt := topS 9
abbrev sWc : Stmt := topS 10
abbrev sCo : Stmt := topS 11
abbrev sWa : Stmt := topS 12
abbrev sLb : Stmt := topS 13
abbrev sLc : Stmt := topS 14
abbrev sSl : Stmt := topS 15
abbrev sWl : Stmt := topS 16
abbrev sCb : Stmt := topS 17
abbrev sHr : Stmt := topS 18
abbrev sRe : Stmt := topS 23
abbrev sOl : Stmt := topS 24
abbrev sRo : Stmt := topS 25
abbrev sC2 : Stmt := topS 26
abbrev sKi : Stmt := topS 27
abbrev sRl : Stmt := topS 28
abbrev sMr : Stmt := topS 29
abbrev sPo : Stmt := topS 30
abbrev sFl : Stmt := topS 31
abbrev sSh : Stmt := topS 32
theorem scUnf : FnScope ["pieces"] ["pieces"] (defScope sUnf) := ⟨rfl, rfl, rfl, by decide +kernel, rfl, by decide +kernel, by decide +kernel⟩
theorem scPc : FnScope ["spots"] ["spots"] (defScope sPc) := ⟨rfl, rfl, rfl, by decide +kernel, rfl, by decide +kernel, by decide +kernel⟩
theorem scCov : FnScope ["spots", "piece", "least", "behind"] ["spots", "piece"] (defScope sCov) := ⟨rfl, rfl, rfl, by decide +kernel, rfl, by decide +kernel, by decide +kernel⟩

/-! ### heaps -/
theorem same_upd {H : Hp} {q : Addr} {o : HO} (h : H q = none) : Same H (upd H q o) := fun b x e => by
  rw [upd_ne (ne_of_none e h)]
  exact e
/-- a row of whole numbers from 0 on -/
abbrev iv (l : List Nat) : List V := l.map fun (x : Nat) => V.int (x : Int)
theorem iv_get {l : List Nat} {i x : Nat} (h : l[i]? = some x) : (iv l)[i]? = some (V.int (x : Int)) := by
  rw [List.getElem?_map, h]; rfl

/-- a def that may be called: where it stands, how it's bound, its name -/
structure Df (K : PySem.W.Frag) (mg : Str → Option Value) (nm : Str) (st : Stmt) (ps : List Str) (f : Addr) (fd : FuncData) : Prop where
  F : Fun K nm nm st f fd
  b : Binds K fd ps []
  g : mg nm = some (.ref f)
/-- what stays built in -/
structure Bi (mg : Str → Option Value) : Prop where
  list : mg "list" = none
  range : mg "range" = none
  len : mg "len" = none
  min : mg "min" = none
  max : mg "max" = none
  enum : mg "enumerate" = none
  sum : mg "sum" = none
  any : mg "any" = none
  all : mg "all" = none
  rev : mg "reversed" = none

section
variable {base : Heap} {mg : Str → Option Value} {K : PySem.W.Frag} {P : Program} {w : World}

theorem rgV_nat (a b : Nat) (h : a ≤ b) : rgV (a : Int) (b : Int) = iv (List.range' a (b - a)) := by
  unfold rgV
  rw [show ((b : Int) - (a : Int)).toNat = b - a by omega, List.range'_eq_map_range, iv, List.map_map]
  apply List.map_congr_left
  intro i _
  show V.int ((a : Int) + (i : Nat)) = V.int ((a + i : Nat) : Int)
  rw [Int.natCast_add]

/-! ### unfolded -/
def spUnf : Sp := fun vs H Q _ => ∃ n : Nat, vs = [.int (n : Int)] ∧ n ≤ 6 ∧ ∀ p, H p = none → Q (.ref p) (upd H p (.lst (iv (List.range (n + 1)))))
theorem ok_unf {f : Addr} {fd : FuncData} {k : Nat} (F : Fun K "unfolded" "unfolded" sUnf f fd) (B : Bi mg) : FnOk P w K mg base CX0 (k + 1) f fd ["pieces"] spUnf := by
  refine F.ok scUnf (fun vs H Q E h => ?_) (fun cdv A outer s H vs Q E hr h => ?_)
  · obtain ⟨n, rfl, _⟩ := h
    rfl
  · obtain ⟨n, rfl, hn, q⟩ := h
    refine ⟨_, pss_one (ps_ret (pe_listRg rfl (by rfl) B.list (prg_1 (by rfl) B.range (pe_op op_add (pv 0) pe_int)))), ?_⟩
    refine ⟨_, rfl, _, _, rfl, rfl, _, rfl, ⟨by omega, by omega, by omega, by omega, by omega⟩, fun p hp => ?_⟩
    have e : rgV 0 ((n : Int) + 1) = iv (List.range (n + 1)) := by
      have := rgV_nat 0 (n + 1) (by omega)
      rw [Nat.sub_zero, ← List.range_eq_range'] at this
      exact this
    rw [e]
    exact q p hp

/-! ### piece_count -/
def spPc (K : PySem.W.Frag) : Sp := fun vs H Q _ => ∃ (a : Addr) (xs : List V), vs = [.ref a] ∧ SqL K H a xs ∧ Q (.int ((xs.length : Int) - 1)) H
theorem ok_pc {f : Addr} {fd : FuncData} {k : Nat} (F : Fun K "piece_count" "piece_count" sPc f fd) (B : Bi mg) : FnOk P w K mg base CX0 (k + 1) f fd ["spots"] (spPc K) := by
  refine F.ok scPc (fun vs H Q E h => ?_) (fun cdv A outer s H vs Q E hr h => ?_)
  · obtain ⟨a, xs, rfl, _⟩ := h
    rfl
  · obtain ⟨a, xs, rfl, hS, q⟩ := h
    refine ⟨_, pss_one (ps_ret (pe_op op_sub (pe_callB call_len_seq (by rfl) B.len PySem.boot_len (pa_cons (pv 0) pa_nil)) pe_int)), ?_⟩
    exact ⟨_, rfl, a, xs, rfl, .inl hS, _, _, rfl, rfl, q⟩

/-! ### covered -/
def covL (t : List Nat) (i : Nat) : List Nat := List.range' (min (t.getD i 0) (t.getD (i + 1) 0)) (max (t.getD i 0) (t.getD (i + 1) 0) - min (t.getD i 0) (t.getD (i + 1) 0))
def spCov (K : PySem.W.Frag) : Sp := fun vs H Q _ => ∃ (a : Addr) (t : List Nat) (i : Nat), vs = [.ref a, .int (i : Int)] ∧ SqL K H a (iv t) ∧ i + 1 < t.length ∧ (∀ x ∈ t, x ≤ 6) ∧
  ∀ p, H p = none → Q (.ref p) (upd H p (.lst (iv (covL t i))))
theorem get_le {t : List Nat} {i b : Nat} (h : ∀ x ∈ t, x ≤ b) : t.getD i 0 ≤ b := by
  rw [(List.getD_eq_getElem?_getD)]
  cases e : t[i]? with
  | none => exact Nat.zero_le _
  | some x => exact h x (List.mem_of_getElem? e)
theorem get_some {t : List Nat} {i : Nat} (h : i < t.length) : t[i]? = some (t.getD i 0) := by
  have e := List.getElem?_eq_getElem h; rw [List.getD_eq_getElem?_getD, e]; rfl
theorem min_int (a b : Nat) : (if (b : Int) < (a : Int) then (b : Int) else (a : Int)) = ((min a b : Nat) : Int) := by
  split <;> omega
theorem max_int (a b : Nat) : (if (b : Int) > (a : Int) then (b : Int) else (a : Int)) = ((max a b : Nat) : Int) := by
  split <;> omega
theorem ok_cov {f : Addr} {fd : FuncData} {k : Nat} (F : Fun K "covered" "covered" sCov f fd) (B : Bi mg) : FnOk P w K mg base CX0 (k + 1) f fd ["spots", "piece"] (spCov K) := by
  refine F.ok scCov (fun vs H Q E h => ?_) (fun cdv A outer s H vs Q E hr h => ?_)
  · obtain ⟨a, t, i, rfl, _⟩ := h
    rfl
  · obtain ⟨a, t, i, rfl, hS, hi, ht, q⟩ := h
    refine ⟨_, pss_cons (ps_set (i := 2) scCov.nd rfl (.inl rfl) (pe_callB (call_min2 rfl) (by rfl) B.min (by decide +kernel) (pa_cons (pe_ix ix_list (pv 0) (pv 1) (fun _ _ => rfl)) (pa_cons (pe_ix ix_list (pv 0) (pe_op op_add (pv 1) pe_int) (fun _ _ => rfl)) pa_nil))))
      (pss_cons (ps_set (i := 3) scCov.nd rfl (.inl rfl) (pe_callB (call_max2 rfl) (by rfl) B.max (by decide +kernel) (pa_cons (pe_ix ix_list (pv 0) (pv 1) (fun _ _ => rfl)) (pa_cons (pe_ix ix_list (pv 0) (pe_op op_add (pv 1) pe_int) (fun _ _ => rfl)) pa_nil))))
      (pss_one (ps_ret (pe_listRg rfl (by rfl) B.list (prg_2 (by rfl) B.range (pv 2) (pv 3)))))), ?_⟩
    have g0 := iv_get (get_some (t := t) (i := i) (by omega))
    have g1 := iv_get (get_some (t := t) (i := i + 1) hi)
    have b0 := get_le (t := t) (i := i) ht
    have b1 := get_le (t := t) (i := i + 1) ht
    have g1' : atI (iv t) ((i : Int) + 1) = some (V.int ((t.getD (i + 1) 0 : Nat) : Int)) := by
      have := atI_nat g1
      rwa [Int.natCast_add] at this
    refine ⟨_, rfl, _, rfl, a, _, _, _, rfl, rfl, hS, atI_nat g0, _, rfl, _, rfl, _, _, rfl, rfl, a, _, _, _, rfl, rfl, hS, g1', _, _, rfl, ?_⟩
    rw [min_int]
    refine ⟨_, rfl, _, rfl, a, _, _, _, rfl, rfl, hS, atI_nat g0, _, rfl, _, rfl, _, _, rfl, rfl, a, _, _, _, rfl, rfl, hS, g1', _, _, rfl, ?_⟩
    rw [max_int]
    refine ⟨_, rfl, _, rfl, _, _, rfl, rfl, ⟨by omega, by omega, by omega, by omega, by omega⟩, fun p hp => ?_⟩
    rw [rgV_nat _ _ (by omega)]
    exact q p hp
end
end FG
namespace FG
open PyProof.Rows L2 PySem PySem.Spec
theorem scOsm : FnScope ["spots", "counts", "onward", "piece", "count", "other"] ["spots", "counts"] (defScope sOsm) := ⟨rfl, rfl, rfl, by decide +kernel, rfl, by decide +kernel, by decide +kernel⟩

/-! ### tables -/
def tab (N : Nat) (f : Nat → Nat) : List Nat := (List.range N).map f
theorem tab_len (N : Nat) (f : Nat → Nat) : (tab N f).length = N := by unfold tab; rw [List.length_map, List.length_range]
theorem tab_get {N : Nat} {f : Nat → Nat} {j : Nat} (h : j < N) : (tab N f)[j]? = some (f j) := by
  unfold tab; rw [List.getElem?_map, List.getElem?_range h]; rfl
theorem tab_congr {N : Nat} {f g : Nat → Nat} (h : ∀ j, j < N → f j = g j) : tab N f = tab N g := by
  unfold tab
  apply List.map_congr_left
  intro j hj
  exact h j (List.mem_range.mp hj)
theorem tab_set {N : Nat} {f : Nat → Nat} {j v : Nat} : (tab N f).set j v = tab N (fun x => if x = j then v else f x) := by
  apply List.ext_getElem?
  intro i
  by_cases hi : i < N
  · rw [tab_get hi, List.getElem?_set]
    by_cases e : j = i
    · subst e
      rw [if_pos rfl, tab_len, if_pos hi, if_pos rfl]
    · rw [if_neg e, tab_get hi, if_neg (fun z => e z.symm)]
  · rw [List.getElem?_eq_none (by rw [List.length_set, tab_len]; omega), List.getElem?_eq_none (by rw [tab_len]; omega)]
theorem tab_zero (N : Nat) : (List.replicate N [V.int 0]).flatten = iv (tab N fun _ => 0) := by
  unfold tab iv
  rw [List.map_map]
  induction N with
  | zero => rfl
  | succ N ih =>
    rw [List.replicate_succ, List.flatten_cons, ih, List.range_succ_eq_map, List.map_cons, List.map_map]
    rfl
theorem iv_set {l : List Nat} {j v : Nat} : (iv l).set j (V.int (v : Int)) = iv (l.set j v) := by
  unfold iv
  rw [List.map_set]
theorem iv_len (l : List Nat) : (iv l).length = l.length := List.length_map _

/-- whether piece i covers j, on the points t -/
def cvr (t : List Nat) (i j : Nat) : Bool := decide (min (t.getD i 0) (t.getD (i + 1) 0) ≤ j) && decide (j < max (t.getD i 0) (t.getD (i + 1) 0))
/-- how many end in j, of the first i pieces -/
def pre (t c : List Nat) (i j : Nat) : Nat := ((List.range i).map fun l => if cvr t l j = true then c.getD l 0 else 0).sum
/-- one step more -/
def osm (t c : List Nat) : List Nat := tab c.length (pre t c c.length)
theorem pre_succ (t c : List Nat) (i j : Nat) : pre t c (i + 1) j = pre t c i j + if cvr t i j = true then c.getD i 0 else 0 := by
  unfold pre
  rw [List.range_succ, List.map_append, List.sum_append]
  simp

theorem same_set {H H' : Hp} {o : Addr} {x : HO} (s : Same H H') (h : H o = none) : Same H (upd H' o x) := fun b y e => by
  rw [upd_ne (ne_of_none e h)]
  exact s b y e
theorem ixN_nat {n j : Nat} (h : j < n) : ixN n (j : Int) = some j := by
  have h0 : (0 : Int) ≤ (j : Int) := Int.natCast_nonneg j
  have h1 : (j : Int) < (n : Int) := Int.ofNat_lt.mpr h
  simp only [ixN, if_pos h0, if_pos h1, Int.toNat_natCast]

/-- an item of a list by its place, ahead of += -/
def rGetN (K : PySem.W.Frag) : V → V → Hp → VK → Prop := fun o i H Q => ∃ (p : Addr) (xs : List V) (j : Nat) (v : V), o = .ref p ∧ i = .int (j : Int) ∧ SqL K H p xs ∧ xs[j]? = some v ∧ Q v H
theorem get_list {X : Cx} : PGet X (rGetN X.K) := by
  intro pins s σ H o i ov iv Q I r1 r2 h
  obtain ⟨p, xs, j, v, rfl, rfl, hS, hv, q⟩ := h
  cases r1
  obtain ⟨tk, rfl⟩ := r2
  obtain ⟨us, rel, plain, size⟩ := I.list hS
  obtain ⟨u, hu, ru⟩ := rel.get hv
  have hj : j < xs.length := (List.getElem?_eq_some_iff.mp hv).1
  have hz : xs.length ≤ 2 ^ 24 := size
  refine wpAny_getItem_list plain.isList (by omega) (by omega) ?_ ⟨v, H, I, ru, q⟩
  rw [Int.toNat_natCast]
  simpa using hu

section
variable {base : Heap} {mg : Str → Option Value} {K : PySem.W.Frag} {P : Program} {w : World}
/-! ### one_step_more -/
def spOsm (K : PySem.W.Frag) : Sp := fun vs H Q _ => ∃ (a b : Addr) (t c : List Nat), vs = [.ref a, .ref b] ∧ SqL K H a (iv t) ∧ SqL K H b (iv c) ∧ c.length + 1 = t.length ∧ t.length ≤ 7 ∧ (∀ x ∈ t, x + 1 ≤ t.length) ∧
  ∀ p H', Same H H' → H p = none → H' p = some (.lst (iv (osm t c))) → Q (.ref p) H'
theorem ok_osm {f fC : Addr} {fd fdC : FuncData} {k : Nat} (F : Fun K "one_step_more" "one_step_more" sOsm f fd) (B : Bi mg) (DC : Df K mg "covered" sCov ["spots", "piece"] fC fdC) : FnOk P w K mg base CX0 (k + 2) f fd ["spots", "counts"] (spOsm K) := by
  have GC : FnOk P w K mg base CX0 (k + 1) fC fdC ["spots", "piece"] (spCov K) := ok_cov DC.F B
  refine F.ok scOsm (fun vs H Q E h => ?_) (fun cdv A outer s H vs Q E hr h => ?_)
  · obtain ⟨a, b, t, c, rfl, _⟩ := h
    rfl
  · obtain ⟨a, b, t, c, rfl, hA, hB, hl, h7, ht, q⟩ := h
    refine ⟨_, pss_cons (ps_set (i := 2) scOsm.nd rfl (.inl rfl) (pe_op op_rep (pe_lst (pa_cons pe_int pa_nil)) (pe_callB call_len_seq (by rfl) B.len PySem.boot_len (pa_cons (pv 1) pa_nil))))
      (pss_cons (ps_for PassesOwn.never rfl (pi_enum (by rfl) B.enum (pa_cons (pv 1) pa_nil)) (pg_tup rfl (pgs_cons (pg_name (i := 3) scOsm.nd rfl (.inl rfl)) (pgs_cons (pg_name (i := 4) scOsm.nd rfl (.inl rfl)) pgs_nil)))
        (pss_one (ps_for PassesOwn.never rfl (pi_list (pe_call GC hr (by rfl) DC.g DC.F.kp DC.b .nil pass0 (pa_cons (pv 0) (pa_cons (pv 3) pa_nil)))) (pg_name (i := 5) scOsm.nd rfl (.inl rfl))
          (pss_one (ps_augS (pv 2) (pv 5) get_list (pv 4) ip_add set_list)))))
      (pss_one (ps_ret (pv 2)))), ?_⟩
    -- onward = [0] * len(counts)
    refine ⟨by show 1 ≤ sizeLine; decide, fun z hz => ?_⟩
    have s1 : Same H (upd H z (.lst [V.int 0])) := same_upd hz
    refine ⟨_, rfl, b, iv c, rfl, .inl (s1.seq hB), z, _, _, rfl, rfl, upd_same, by omega, by rw [iv_len]; omega, ?_, fun o ho => ?_⟩
    · rw [iv_len]
      show 1 * _ ≤ 2 ^ 24
      omega
    have hoH : H o = none := s1.free ho
    have s2 : Same H (upd (upd H z (.lst [V.int 0])) o (.lst (iv (tab c.length fun _ => 0)))) := s1.trans (same_upd ho)
    have e0 : (List.replicate ((iv c).length : Int).toNat [V.int 0]).flatten = iv (tab c.length fun _ => 0) := by
      rw [iv_len, Int.toNat_natCast, tab_zero]
    rw [e0]
    have o1 : (upd (upd H z (.lst [V.int 0])) o (.lst (iv (tab c.length fun _ => 0)))) o = some (.lst (iv (tab c.length fun _ => 0))) := upd_same
    generalize (upd (upd H z (.lst [V.int 0])) o (.lst (iv (tab c.length fun _ => 0)))) = H1 at s2 o1 ⊢
    -- for piece, count in enumerate(counts)
    refine ⟨_, rfl, b, iv c, rfl, s2.seq hB, for_it (walk_enum (K := K) (a := b) (xs := iv c)) (fun i σ H' => ∃ v3 v4 v5, σ = [some (.ref a), some (.ref b), some (.ref o), v3, v4, v5] ∧ Same H H' ∧ H' o = some (.lst (iv (tab c.length (pre t c i)))))
      ⟨none, none, none, rfl, s2, o1⟩ (fun i σ H' _ ⟨_, _, _, _, s5, _⟩ => s5.seq hB) ?_ ?_⟩
    · rintro i x σ H2 H3 hi ⟨v3, v4, v5, rfl, s5, o5⟩ ⟨T, x1, x2, rfl, nT, rfl, e1, e2⟩
      rw [iv_len] at hi
      obtain rfl : V.int (i : Nat) = x1 := Option.some.inj e1
      obtain rfl : V.int ((c.getD i 0 : Nat) : Int) = x2 := Option.some.inj ((iv_get (get_some hi)).symm.trans e2)
      have s6 : Same H2 (upd H2 T (.tup [.int (i : Nat), .int ((c.getD i 0 : Nat) : Int)])) := same_upd nT
      refine ⟨T, _, rfl, .inl (.inl upd_same), rfl, _, _, rfl, _, _, rfl, rfl, ?_⟩
      have o6 := s6 _ _ o5
      have s7 := s5.trans s6
      generalize (upd H2 T (.tup [.int (i : Nat), .int ((c.getD i 0 : Nat) : Int)])) = H4 at s6 o6 s7 ⊢
      -- for other in covered(spots, piece)
      refine ⟨_, rfl, _, rfl, a, t, i, rfl, s7.seq hA, by omega, fun x hx => by have := ht x hx; omega, fun p hp => ?_⟩
      have s8 : Same H4 (upd H4 p (.lst (iv (covL t i)))) := same_upd hp
      have p8 : (upd H4 p (.lst (iv (covL t i)))) p = some (.lst (iv (covL t i))) := upd_same
      have o8 := s8 _ _ o6
      have s9 := s7.trans s8
      have op : o ≠ p := ne_of_none o6 hp
      generalize (upd H4 p (.lst (iv (covL t i)))) = H5 at s8 p8 o8 s9 ⊢
      refine ⟨p, rfl, ⟨_, .inl (.inl p8)⟩, for_list (K := K) (a := p) (xs := iv (covL t i)) (fun m σ H' => ∃ v5, σ = [some (.ref a), some (.ref b), some (.ref o), some (.int (i : Nat)), some (.int ((c.getD i 0 : Nat) : Int)), v5] ∧ Same H H' ∧ H' p = some (.lst (iv (covL t i))) ∧
        H' o = some (.lst (iv (tab c.length fun j => pre t c i j + if min (t.getD i 0) (t.getD (i + 1) 0) ≤ j ∧ j < min (t.getD i 0) (t.getD (i + 1) 0) + m then c.getD i 0 else 0)))) ?_ (fun m σ H' _ ⟨_, _, _, hp', _⟩ => .inl (.inl hp')) ?_ ?_⟩
      · refine ⟨v5, rfl, s9, p8, ?_⟩
        rw [o8]
        refine congrArg (fun l => some (HO.lst (iv l))) (tab_congr fun j _ => ?_)
        rw [if_neg (by omega), Nat.add_zero]
      · rintro m y σ H6 hy ⟨v5, rfl, s10, p10, o10⟩
        have hm : m < (covL t i).length := by
          have := (List.getElem?_eq_some_iff.mp hy).1
          rwa [iv_len] at this
        have hmc : m < max (t.getD i 0) (t.getD (i + 1) 0) - min (t.getD i 0) (t.getD (i + 1) 0) := by
          unfold covL at hm
          rwa [List.length_range'] at hm
        have ey : y = V.int ((min (t.getD i 0) (t.getD (i + 1) 0) + m : Nat) : Int) := by
          have g : (covL t i)[m]? = some (min (t.getD i 0) (t.getD (i + 1) 0) + m) := by
            unfold covL
            rw [List.getElem?_range' hmc, Nat.one_mul]
          exact Option.some.inj (hy.symm.trans (iv_get g))
        subst ey
        have hx0 : t.getD i 0 + 1 ≤ t.length := ht _ (List.mem_of_getElem? (get_some (by omega)))
        have hx1 : t.getD (i + 1) 0 + 1 ≤ t.length := ht _ (List.mem_of_getElem? (get_some (by omega)))
        generalize hlo : min (t.getD i 0) (t.getD (i + 1) 0) = lo at *
        have hj : lo + m < c.length := by omega
        refine ⟨_, rfl, _, rfl, o, _, lo + m, _, rfl, rfl, .inl (.inl o10), iv_get (tab_get hj), _, rfl, _, _, rfl, rfl, o, _, _, lo + m, rfl, rfl, o10, ?_, ?_⟩
        · rw [iv_len, tab_len]
          exact ixN_nat hj
        · refine ⟨_, rfl, same_set s10 hoH, by rw [upd_ne (Ne.symm op)]; exact p10, ?_⟩
          rw [upd_same]
          dsimp only
          rw [← Int.natCast_add, iv_set, tab_set]
          refine congrArg (fun l => some (HO.lst (iv l))) (tab_congr fun j _ => ?_)
          by_cases e : j = lo + m
          · subst e
            rw [if_pos rfl, if_neg (by omega), if_pos (by omega), Nat.add_zero]
          · rw [if_neg e]
            by_cases e2 : lo ≤ j ∧ j < lo + m
            · rw [if_pos e2, if_pos (by omega)]
            · rw [if_neg e2, if_neg (by omega)]
      · rintro σ H6 ⟨v5, rfl, s10, p10, o10⟩
        refine ⟨_, _, _, rfl, s10, ?_⟩
        rw [o10]
        refine congrArg (fun l => some (HO.lst (iv l))) (tab_congr fun j _ => ?_)
        rw [pre_succ]
        congr 1
        rw [iv_len]
        unfold covL cvr
        rw [List.length_range']
        by_cases e : min (t.getD i 0) (t.getD (i + 1) 0) ≤ j ∧ j < max (t.getD i 0) (t.getD (i + 1) 0)
        · rw [if_pos (by omega), if_pos (by rw [decide_eq_true e.1, decide_eq_true e.2]; rfl)]
        · rw [if_neg (by omega), if_neg]
          intro hc
          rw [Bool.and_eq_true, decide_eq_true_eq, decide_eq_true_eq] at hc
          exact e hc
    · rintro σ H6 ⟨v3, v4, v5, rfl, s10, o10⟩
      refine ⟨_, rfl, q o H6 s10 hoH ?_⟩
      rw [o10, iv_len]
      rfl
end
end FG
namespace FG
open PyProof.Rows L2 PySem PySem.Spec
theorem scTur : FnScope ["spots", "last", "spot"] ["spots"] (defScope sTur) := ⟨rfl, rfl, rfl, by decide +kernel, rfl, by decide +kernel, by decide +kernel⟩
theorem scWe : FnScope ["spots", "begins", "steps", "counts", "step"] ["spots", "begins", "steps"] (defScope sWe) := ⟨rfl, rfl, rfl, by decide +kernel, rfl, by decide +kernel, by decide +kernel⟩
theorem scLen : FnScope ["spots", "steps"] ["spots", "steps"] (defScope sLen) := ⟨rfl, rfl, rfl, by decide +kernel, rfl, by decide +kernel, by decide +kernel⟩
theorem scBi : FnScope ["spots", "piece", "begins"] ["spots", "piece"] (defScope sBi) := ⟨rfl, rfl, rfl, by decide +kernel, rfl, by decide +kernel, by decide +kernel⟩
theorem scWc : FnScope ["spots", "first", "last", "steps"] ["spots", "first", "last", "steps"] (defScope sWc) := ⟨rfl, rfl, rfl, by decide +kernel, rfl, by decide +kernel, by decide +kernel⟩
theorem scLc : FnScope ["spots", "steps"] ["spots", "steps"] (defScope sLc) := ⟨rfl, rfl, rfl, by decide +kernel, rfl, by decide +kernel, by decide +kernel⟩
theorem scWl : FnScope ["spots", "steps", "count", "fewer"] ["spots", "steps"] (defScope sWl) := ⟨rfl, rfl, rfl, by decide +kernel, rfl, by decide +kernel, by decide +kernel⟩
theorem scCb : FnScope ["spots", "start", "steps", "point", "step"] ["spots", "start", "steps"] (defScope sCb) := ⟨rfl, rfl, rfl, by decide +kernel, rfl, by decide +kernel, by decide +kernel⟩
theorem scHr : FnScope ["spots", "steps", "point"] ["spots", "steps"] (defScope sHr) := ⟨rfl, rfl, rfl, by decide +kernel, rfl, by decide +kernel, by decide +kernel⟩

/-- told from the other end -/
def trn (t : List Nat) : List Nat := t.reverse.map fun x => t.length - 1 - x
theorem trn_len (t : List Nat) : (trn t).length = t.length := by unfold trn; rw [List.length_map, List.length_reverse]
theorem trn_get {t : List Nat} {i x : Nat} (hi : i < t.length) (h : t[t.length - 1 - i]? = some x) : (trn t)[i]? = some (t.length - 1 - x) := by
  unfold trn
  rw [List.getElem?_map, List.getElem?_reverse hi, h]
  rfl
theorem iv_take_more {l : List Nat} {i x : Nat} (h : l[i]? = some x) : iv (l.take i) ++ [V.int (x : Int)] = iv (l.take (i + 1)) := by
  rw [List.take_add_one, h]
  unfold iv
  rw [List.map_append]
  rfl

theorem yesT {σ : L2.St} {H : Hp} {A B : Hp → Prop} (h : A H) : tYes σ H (fun b H3 => if b = true then A H3 else B H3) := by
  show if true = true then A H else B H
  rw [if_pos rfl]
  exact h

section
variable {base : Heap} {mg : Str → Option Value} {K : PySem.W.Frag} {P : Program} {w : World}
/-! ### turned -/
def spTur (K : PySem.W.Frag) : Sp := fun vs H Q _ => ∃ (a : Addr) (t : List Nat), vs = [.ref a] ∧ SqL K H a (iv t) ∧ t.length ≤ 7 ∧ (∀ x ∈ t, x + 1 ≤ t.length) ∧
  ∀ p H', Same H H' → H p = none → H' p = some (.lst (iv (trn t))) → Q (.ref p) H'
theorem ok_tur {f : Addr} {fd : FuncData} {k : Nat} (F : Fun K "turned" "turned" sTur f fd) (B : Bi mg) : FnOk P w K mg base CX0 (k + 1) f fd ["spots"] (spTur K) := by
  refine F.ok scTur (fun vs H Q E h => ?_) (fun cdv A outer s H vs Q E hr h => ?_)
  · obtain ⟨a, t, rfl, _⟩ := h
    rfl
  · obtain ⟨a, t, rfl, hA, h7, ht, q⟩ := h
    refine ⟨_, pss_cons (ps_set (i := 1) scTur.nd rfl (.inr rfl) (pe_op op_sub (pe_callB call_len_seq (by rfl) B.len PySem.boot_len (pa_cons (pv 0) pa_nil)) pe_int))
      (pss_one (ps_ret (pe_lc (own := [("spot", 2)]) (g := gName 2) (tt := tYes) rfl scTur.nd (pi_reversed (by rfl) B.rev (pa_cons (pv 0) pa_nil)) (blkOk_by (own := [("spot", 2)]) (N := ["spots", "last", "spot"]) (sc := defScope sTur) (by decide +kernel))
        (fun _ _ _ _ _ => pg_name (i := 2) scTur.nd rfl (.inl rfl)) (fun _ _ _ _ _ => pts_nil) (fun _ _ _ _ _ => pe_op op_sub (pv 1) (pv 2))))), ?_⟩
    refine ⟨_, rfl, a, iv t, rfl, .inl hA, _, _, rfl, rfl, ?_⟩
    refine ⟨_, rfl, a, iv t, rfl, hA, fun D hD => ?_⟩
    have s1 : Same H (upd H D (.lst [])) := same_upd hD
    refine lc_it (walk_rev (K := K) (a := a) (xs := iv t)) (fun i H' => Same H H' ∧ H' D = some (.lst (iv ((trn t).take i)))) ⟨s1, upd_same⟩ (fun i H' _ h => h.1.seq hA) ?_ ?_
    · rintro i x H1 H2 hi ⟨s2, d2⟩ ⟨rfl, hx⟩
      rw [iv_len] at hi hx
      have hj : t.length - 1 - i < t.length := by omega
      obtain rfl : V.int ((t.getD (t.length - 1 - i) 0 : Nat) : Int) = x := Option.some.inj ((iv_get (get_some hj)).symm.trans hx)
      have hx6 := ht _ (List.mem_of_getElem? (get_some hj))
      refine ⟨rfl, yesT ?_⟩
      refine ⟨_, rfl, _, rfl, _, _, rfl, rfl, _, d2, ?_, same_set s2 hD, ?_⟩
      · rw [iv_len, List.length_take, trn_len]
        show _ < 2 ^ 24
        omega
      · rw [upd_same]
        have g := trn_get hi (get_some hj)
        have e : (((iv t).length : Nat) : Int) - 1 - ((t.getD (t.length - 1 - i) 0 : Nat) : Int) = ((t.length - 1 - t.getD (t.length - 1 - i) 0 : Nat) : Int) := by
          rw [iv_len]; omega
        dsimp only
        rw [e, iv_take_more g]
    · rintro H1 ⟨s2, d2⟩
      refine q D H1 s2 hD ?_
      rw [d2, iv_len, List.take_of_length_le (by rw [trn_len]; omega)]

/-! ### way_ends -/
def we (t c : List Nat) : Nat → List Nat
  | 0 => c
  | k + 1 => osm t (we t c k)
theorem osm_len (t c : List Nat) : (osm t c).length = c.length := tab_len _ _
theorem we_len (t c : List Nat) : ∀ k, (we t c k).length = c.length
  | 0 => rfl
  | k + 1 => by rw [we, osm_len, we_len t c k]
/-- what is handed on of a line: where its points are put, each a point of it -/
structure Pts (t : List Nat) : Prop where
  lo : 2 ≤ t.length
  hi : t.length ≤ 7
  top : ∀ x ∈ t, x + 1 ≤ t.length
def spWe (K : PySem.W.Frag) : Sp := fun vs H Q _ => ∃ (a b : Addr) (t c : List Nat) (n : Nat), vs = [.ref a, .ref b, .int (n : Int)] ∧ SqL K H a (iv t) ∧ SqL K H b (iv c) ∧ Pts t ∧ c.length + 1 = t.length ∧ n ≤ 100 ∧
  ∀ p H', Same H H' → H p = none → H' p = some (.lst (iv (we t c n))) → Q (.ref p) H'
theorem ok_we {f fO fC : Addr} {fd fdO fdC : FuncData} {k : Nat} (F : Fun K "way_ends" "way_ends" sWe f fd) (B : Bi mg) (DO : Df K mg "one_step_more" sOsm ["spots", "counts"] fO fdO) (DC : Df K mg "covered" sCov ["spots", "piece"] fC fdC) :
    FnOk P w K mg base CX0 (k + 3) f fd ["spots", "begins", "steps"] (spWe K) := by
  have GO : FnOk P w K mg base CX0 (k + 2) fO fdO ["spots", "counts"] (spOsm K) := ok_osm DO.F B DC
  refine F.ok scWe (fun vs H Q E h => ?_) (fun cdv A outer s H vs Q E hr h => ?_)
  · obtain ⟨a, b, t, c, n, rfl, _⟩ := h
    rfl
  · obtain ⟨a, b, t, c, n, rfl, hA, hB, ht, hl, hn, q⟩ := h
    refine ⟨_, pss_cons (ps_set (i := 3) scWe.nd rfl (.inl rfl) (pe_callTy call_list_of (by rfl) B.list (by decide +kernel) (pa_cons (pv 1) pa_nil)))
      (pss_cons (ps_for PassesOwn.never rfl (pi_range1 (by rfl) B.range (pa_cons (pv 2) pa_nil)) (pg_name (i := 4) scWe.nd rfl (.inl rfl))
        (pss_one (ps_set (i := 3) scWe.nd rfl (.inl rfl) (pe_call GO hr (by rfl) DO.g DO.F.kp DO.b .nil pass0 (pa_cons (pv 0) (pa_cons (pv 3) pa_nil))))))
      (pss_one (ps_ret (pv 3)))), ?_⟩
    refine ⟨_, rfl, b, iv c, rfl, .inl hB, fun o ho => ?_⟩
    refine ⟨_, rfl, (n : Int), rfl, by omega, by omega, ?_⟩
    rw [Int.toNat_natCast]
    refine for_range (lo := 0) (n := n) (fun i σ H' => ∃ v4 p, σ = [some (.ref a), some (.ref b), some (.int (n : Int)), some (.ref p), v4] ∧ Same H H' ∧ H p = none ∧ H' p = some (.lst (iv (we t c i)))) ⟨none, o, rfl, same_upd ho, ho, upd_same⟩ ?_ ?_
    · rintro i σ H1 hi ⟨v4, p, rfl, s1, np, p1⟩
      refine ⟨_, rfl, _, rfl, a, p, t, we t c i, rfl, s1.seq hA, .inl (.inl p1), by rw [we_len]; exact hl, ht.hi, ht.top, fun p2 H2 s2 np2 q2 => ?_⟩
      exact ⟨_, p2, rfl, s1.trans s2, s1.free np2, q2⟩
    · rintro σ H1 ⟨v4, p, rfl, s1, np, p1⟩
      exact ⟨_, rfl, q p H1 s1 np p1⟩

/-! ### length_of -/
theorem rep_iv (N v : Nat) : (List.replicate N [V.int (v : Int)]).flatten = iv (tab N fun _ => v) := by
  unfold tab iv
  rw [List.map_map]
  induction N with
  | zero => rfl
  | succ N ih =>
    rw [List.replicate_succ, List.flatten_cons, ih, List.range_succ_eq_map, List.map_cons, List.map_map]
    rfl
theorem iv_ints (l : List Nat) : iv l = (l.map fun (x : Nat) => (x : Int)).map V.int := by
  unfold iv; rw [List.map_map]; rfl
theorem sum_ints : ∀ (l : List Nat), (l.map fun (x : Nat) => (x : Int)).sum = (l.sum : Int)
  | [] => rfl
  | x :: l => by rw [List.map_cons, List.sum_cons, List.sum_cons, sum_ints l, Int.natCast_add]
def lenN (t : List Nat) (k : Nat) : Nat := (we t (tab (t.length - 1) fun _ => 1) k).sum
def spLen (K : PySem.W.Frag) : Sp := fun vs H Q _ => ∃ (a : Addr) (t : List Nat) (n : Nat), vs = [.ref a, .int (n : Int)] ∧ SqL K H a (iv t) ∧ Pts t ∧ n ≤ 100 ∧
  ∀ H', Same H H' → Q (.int (lenN t n : Nat)) H'
theorem ok_len {f fW fO fC fP : Addr} {fd fdW fdO fdC fdP : FuncData} {k : Nat} (F : Fun K "length_of" "length_of" sLen f fd) (B : Bi mg) (DW : Df K mg "way_ends" sWe ["spots", "begins", "steps"] fW fdW) (DP : Df K mg "piece_count" sPc ["spots"] fP fdP)
    (DO : Df K mg "one_step_more" sOsm ["spots", "counts"] fO fdO) (DC : Df K mg "covered" sCov ["spots", "piece"] fC fdC) : FnOk P w K mg base CX0 (k + 4) f fd ["spots", "steps"] (spLen K) := by
  have GW : FnOk P w K mg base CX0 (k + 3) fW fdW ["spots", "begins", "steps"] (spWe K) := ok_we DW.F B DO DC
  have GP : FnOk P w K mg base CX0 (k + 3) fP fdP ["spots"] (spPc K) := ok_pc DP.F B
  refine F.ok scLen (fun vs H Q E h => ?_) (fun cdv A outer s H vs Q E hr h => ?_)
  · obtain ⟨a, t, n, rfl, _⟩ := h
    rfl
  · obtain ⟨a, t, n, rfl, hA, ht, hn, q⟩ := h
    refine ⟨_, pss_one (ps_ret (pe_callB (cr_sum rfl) (by rfl) B.sum (by decide +kernel) (pa_cons (pe_call GW hr (by rfl) DW.g DW.F.kp DW.b .nil pass0 (pa_cons (pv 0)
      (pa_cons (pe_op op_rep (pe_lst (pa_cons pe_int pa_nil)) (pe_call GP hr (by rfl) DP.g DP.F.kp DP.b .nil pass0 (pa_cons (pv 0) pa_nil))) (pa_cons (pv 1) pa_nil)))) pa_nil))), ?_⟩
    have h1 := ht.lo
    have h2 := ht.hi
    refine ⟨_, rfl, by show 1 ≤ sizeLine; decide, fun z hz => ?_⟩
    have s1 : Same H (upd H z (.lst [V.int 1])) := same_upd hz
    refine ⟨_, rfl, a, iv t, rfl, s1.seq hA, z, _, _, rfl, rfl, upd_same, by rw [iv_len]; omega, by rw [iv_len]; omega, ?_, fun o ho => ?_⟩
    · show 1 * _ ≤ 2 ^ 24
      rw [iv_len]; omega
    have e0 : (List.replicate (((iv t).length : Int) - 1).toNat [V.int 1]).flatten = iv (tab (t.length - 1) fun _ => 1) := by
      rw [iv_len, show ((t.length : Int) - 1).toNat = t.length - 1 by omega]
      exact rep_iv _ 1
    rw [e0]
    have s2 := s1.trans (same_upd (o := .lst (iv (tab (t.length - 1) fun _ => 1))) ho)
    refine ⟨_, rfl, a, o, t, tab (t.length - 1) fun _ => 1, n, rfl, s2.seq hA, .inl (.inl upd_same), ht, by rw [tab_len]; omega, hn, fun p H' s3 np q3 => ?_⟩
    refine ⟨p, (we t (tab (t.length - 1) fun _ => 1) n).map fun (x : Nat) => (x : Int), rfl, .inl (.inl ?_), ?_⟩
    · rw [q3, iv_ints]
    · rw [sum_ints]
      exact q H' (s2.trans s3)

/-! ### begins_in -/
def unit (N i : Nat) : List Nat := tab N fun j => if j = i then 1 else 0
theorem unit_len (N i : Nat) : (unit N i).length = N := tab_len _ _
def spBi (K : PySem.W.Frag) : Sp := fun vs H Q _ => ∃ (a : Addr) (t : List Nat) (i : Nat), vs = [.ref a, .int (i : Int)] ∧ SqL K H a (iv t) ∧ Pts t ∧ i + 1 < t.length ∧
  ∀ p H', Same H H' → H p = none → H' p = some (.lst (iv (unit (t.length - 1) i))) → Q (.ref p) H'
theorem ok_bi {f fP : Addr} {fd fdP : FuncData} {k : Nat} (F : Fun K "begins_in" "begins_in" sBi f fd) (B : Bi mg) (DP : Df K mg "piece_count" sPc ["spots"] fP fdP) : FnOk P w K mg base CX0 (k + 2) f fd ["spots", "piece"] (spBi K) := by
  have GP : FnOk P w K mg base CX0 (k + 1) fP fdP ["spots"] (spPc K) := ok_pc DP.F B
  refine F.ok scBi (fun vs H Q E h => ?_) (fun cdv A outer s H vs Q E hr h => ?_)
  · obtain ⟨a, t, i, rfl, _⟩ := h
    rfl
  · obtain ⟨a, t, i, rfl, hA, ht, hi, q⟩ := h
    refine ⟨_, pss_cons (ps_set (i := 2) scBi.nd rfl (.inl rfl) (pe_op op_rep (pe_lst (pa_cons pe_int pa_nil)) (pe_call GP hr (by rfl) DP.g DP.F.kp DP.b .nil pass0 (pa_cons (pv 0) pa_nil))))
      (pss_cons (ps_asg pe_int (pg_sub (pv 2) (pv 1) set_list))
      (pss_one (ps_ret (pv 2)))), ?_⟩
    have h1 := ht.lo
    have h2 := ht.hi
    refine ⟨by show 1 ≤ sizeLine; decide, fun z hz => ?_⟩
    have s1 : Same H (upd H z (.lst [V.int 0])) := same_upd hz
    refine ⟨_, rfl, a, iv t, rfl, s1.seq hA, z, _, _, rfl, rfl, upd_same, by rw [iv_len]; omega, by rw [iv_len]; omega, ?_, fun o ho => ?_⟩
    · show 1 * _ ≤ 2 ^ 24
      rw [iv_len]; omega
    have e0 : (List.replicate (((iv t).length : Int) - 1).toNat [V.int 0]).flatten = iv (tab (t.length - 1) fun _ => 0) := by
      rw [iv_len, show ((t.length : Int) - 1).toNat = t.length - 1 by omega]
      exact rep_iv _ 0
    rw [e0]
    have ho' : H o = none := s1.free ho
    refine ⟨_, rfl, _, rfl, o, _, (i : Int), i, rfl, rfl, upd_same, by rw [iv_len, tab_len]; exact ixN_nat (by omega), ?_⟩
    have e1 : (iv (tab (t.length - 1) fun _ => 0)).set i (V.int 1) = iv (unit (t.length - 1) i) := by
      have := iv_set (l := tab (t.length - 1) fun _ => 0) (j := i) (v := 1)
      rw [tab_set] at this
      exact this
    rw [e1]
    have s2 := same_set (x := .lst (iv (unit (t.length - 1) i))) (s1.trans (same_upd (o := .lst (iv (tab (t.length - 1) fun _ => 0))) ho)) ho'
    exact ⟨_, rfl, q o _ s2 ho' upd_same⟩

/-! ### way_count -/
def wcN (t : List Nat) (i j k : Nat) : Nat := (we t (unit (t.length - 1) i) k).getD j 0
def spWc (K : PySem.W.Frag) : Sp := fun vs H Q _ => ∃ (a : Addr) (t : List Nat) (i j n : Nat), vs = [.ref a, .int (i : Int), .int (j : Int), .int (n : Int)] ∧ SqL K H a (iv t) ∧ Pts t ∧ i + 1 < t.length ∧ j + 1 < t.length ∧ n ≤ 100 ∧
  ∀ H', Same H H' → Q (.int (wcN t i j n : Nat)) H'
theorem ok_wc {f fW fO fC fP fB : Addr} {fd fdW fdO fdC fdP fdB : FuncData} {k : Nat} (F : Fun K "way_count" "way_count" sWc f fd) (B : Bi mg) (DW : Df K mg "way_ends" sWe ["spots", "begins", "steps"] fW fdW) (DB : Df K mg "begins_in" sBi ["spots", "piece"] fB fdB) (DP : Df K mg "piece_count" sPc ["spots"] fP fdP)
    (DO : Df K mg "one_step_more" sOsm ["spots", "counts"] fO fdO) (DC : Df K mg "covered" sCov ["spots", "piece"] fC fdC) : FnOk P w K mg base CX0 (k + 4) f fd ["spots", "first", "last", "steps"] (spWc K) := by
  have GW : FnOk P w K mg base CX0 (k + 3) fW fdW ["spots", "begins", "steps"] (spWe K) := ok_we DW.F B DO DC
  have GB : FnOk P w K mg base CX0 (k + 3) fB fdB ["spots", "piece"] (spBi K) := ok_bi DB.F B DP
  refine F.ok scWc (fun vs H Q E h => ?_) (fun cdv A outer s H vs Q E hr h => ?_)
  · obtain ⟨a, t, i, j, n, rfl, _⟩ := h
    rfl
  · obtain ⟨a, t, i, j, n, rfl, hA, ht, hi, hj, hn, q⟩ := h
    refine ⟨_, pss_one (ps_ret (pe_ix ix_list (pe_call GW hr (by rfl) DW.g DW.F.kp DW.b .nil pass0 (pa_cons (pv 0) (pa_cons (pe_call GB hr (by rfl) DB.g DB.F.kp DB.b .nil pass0 (pa_cons (pv 0) (pa_cons (pv 1) pa_nil))) (pa_cons (pv 3) pa_nil)))) (pv 2) (fun _ _ => rfl))), ?_⟩
    have h1 := ht.lo
    have h2 := ht.hi
    refine ⟨_, rfl, _, rfl, _, rfl, a, t, i, rfl, hA, ht, hi, fun o H1 s1 no ho => ?_⟩
    refine ⟨_, rfl, a, o, t, unit (t.length - 1) i, n, rfl, s1.seq hA, .inl (.inl ho), ht, by rw [unit_len]; omega, hn, fun p H' s3 np q3 => ?_⟩
    have gl : (we t (unit (t.length - 1) i) n)[j]? = some (wcN t i j n) := get_some (by rw [we_len, unit_len]; omega)
    exact ⟨_, rfl, p, _, _, _, rfl, rfl, .inl (.inl q3), atI_nat (iv_get gl), q H' (s1.trans s3)⟩
end
end FG
namespace FG
open PyProof.Rows L2 PySem PySem.Spec

/-- the defs that others call, where they stand -/
structure Ln (K : PySem.W.Frag) (mg : Str → Option Value) where
  fO : Addr
  fdO : FuncData
  DO : Df K mg "one_step_more" sOsm ["spots", "counts"] fO fdO
  fC : Addr
  fdC : FuncData
  DC : Df K mg "covered" sCov ["spots", "piece"] fC fdC
  fW : Addr
  fdW : FuncData
  DW : Df K mg "way_ends" sWe ["spots", "begins", "steps"] fW fdW
  fP : Addr
  fdP : FuncData
  DP : Df K mg "piece_count" sPc ["spots"] fP fdP
  fWc : Addr
  fdWc : FuncData
  DWc : Df K mg "way_count" sWc ["spots", "first", "last", "steps"] fWc fdWc
  fLc : Addr
  fdLc : FuncData
  DLc : Df K mg "loop_count" sLc ["spots", "steps"] fLc fdLc
  fWl : Addr
  fdWl : FuncData
  DWl : Df K mg "whole_loop_count" sWl ["spots", "steps"] fWl fdWl
  fCb : Addr
  fdCb : FuncData
  DCb : Df K mg "comes_back" sCb ["spots", "start", "steps"] fCb fdCb
  fA : Addr
  fdA : FuncData
  DA : Df K mg "one_step_ahead" sOsa ["spots", "counts"] fA fdA
  fB : Addr
  fdB : FuncData
  DB : Df K mg "begins_in" sBi ["spots", "piece"] fB fdB
  fCo : Addr
  fdCo : FuncData
  DCo : Df K mg "counts_onward" sCo ["spots", "last", "most"] fCo fdCo
  fWa : Addr
  fdWa : FuncData
  DWa : Df K mg "way_at" sWa ["spots", "first", "last", "steps", "before"] fWa fdWa
  fLb : Addr
  fdLb : FuncData
  DLb : Df K mg "loops_by_piece" sLb ["spots", "most"] fLb fdLb
  fRe : Addr
  fdRe : FuncData
  DRe : Df K mg "reached" sRe ["spots", "start"] fRe fdRe
  fOl : Addr
  fdOl : FuncData
  DOl : Df K mg "is_on_loop" sOl ["spots", "piece"] fOl fdOl
  fRo : Addr
  fdRo : FuncData
  DRo : Df K mg "room_of" sRo ["spots", "piece"] fRo fdRo
  fC2 : Addr
  fdC2 : FuncData
  DC2 : Df K mg "covers_two_of_its_room" sC2 ["spots", "piece"] fC2 fdC2
  fRl : Addr
  fdRl : FuncData
  DRl : Df K mg "rooms_with_loops" sRl ["spots"] fRl fdRl
  fMr : Addr
  fdMr : FuncData
  DMr : Df K mg "most_rooms_passed" sMr ["spots", "rooms", "room"] fMr fdMr
  B : Bi mg

/-! ### rows of rows -/
theorem ip_mul {X : Cx} : PIp X .Mult (rI CMul fun i j => .int (i * j)) := iop_mul
abbrev rv (l : List Addr) : List V := l.map V.ref
theorem rv_len (l : List Addr) : (rv l).length = l.length := List.length_map _
theorem rv_get {l : List Addr} {i : Nat} {x : Addr} (h : l[i]? = some x) : (rv l)[i]? = some (V.ref x) := by rw [List.getElem?_map, h]; rfl
/-- the m-th holds the m-th row -/
def Rw (H : Hp) (ps : List Addr) (f : Nat → List Nat) : Prop := ∀ m q, ps[m]? = some q → H q = some (.lst (iv (f m)))
theorem Rw.same {H H' : Hp} {ps : List Addr} {f : Nat → List Nat} (h : Rw H ps f) (s : Same H H') : Rw H' ps f := fun m q e => s _ _ (h m q e)
theorem Rw.upd {H : Hp} {ps : List Addr} {f : Nat → List Nat} {o : Addr} {x : HO} (h : Rw H ps f) (n : o ∉ ps) : Rw (L2.upd H o x) ps f := fun m q e => by
  rw [upd_ne (show q ≠ o from fun z => n (by rw [← z]; exact List.mem_of_getElem? e))]
  exact h m q e
theorem Rw.nil {H : Hp} {f : Nat → List Nat} : Rw H [] f := fun m q e => by cases e
theorem Rw.snoc {H : Hp} {ps : List Addr} {f : Nat → List Nat} {q : Addr} (h : Rw H ps f) (e : H q = some (.lst (iv (f ps.length)))) : Rw H (ps ++ [q]) f := fun m z hz => by
  by_cases hm : m < ps.length
  · rw [List.getElem?_append_left hm] at hz
    exact h m z hz
  · rw [List.getElem?_append_right (by omega)] at hz
    by_cases h0 : m - ps.length = 0
    · rw [h0] at hz
      cases hz
      rw [show m = ps.length by omega]
      exact e
    · rw [List.getElem?_eq_none (by show 1 ≤ m - ps.length; omega)] at hz
      cases hz
theorem rv_snoc (l : List Addr) (x : Addr) : rv l ++ [V.ref x] = rv (l ++ [x]) := by unfold rv; rw [List.map_append]; rfl
theorem at_len {l : List Addr} {i : Nat} (h : i < l.length) : ∃ q, l[i]? = some q := ⟨l[i], List.getElem?_eq_getElem h⟩

theorem scOsa : FnScope ["spots", "counts", "ahead", "piece", "other"] ["spots", "counts"] (defScope sOsa) := ⟨rfl, rfl, rfl, by decide +kernel, rfl, by decide +kernel, by decide +kernel⟩
theorem scCo : FnScope ["spots", "last", "most", "counts", "told", "step"] ["spots", "last", "most"] (defScope sCo) := ⟨rfl, rfl, rfl, by decide +kernel, rfl, by decide +kernel, by decide +kernel⟩
theorem scLb : FnScope ["spots", "most", "ends", "told", "step", "piece", "counts"] ["spots", "most"] (defScope sLb) := ⟨rfl, rfl, rfl, by decide +kernel, rfl, by decide +kernel, by decide +kernel⟩

section
variable {base : Heap} {mg : Str → Option Value} {K : PySem.W.Frag} {P : Program} {w : World}
/-! ### one_step_ahead -/
def rowS (t c : List Nat) (i : Nat) : Nat := ((covL t i).map fun l => c.getD l 0).sum
def osa (t c : List Nat) : List Nat := tab c.length (rowS t c)
theorem osa_len (t c : List Nat) : (osa t c).length = c.length := tab_len _ _
theorem cov_lt {t : List Nat} {i l : Nat} (ht : Pts t) (h : l ∈ covL t i) : l + 1 < t.length := by
  unfold covL at h
  rw [List.mem_range'_1] at h
  have h1 := ht.lo
  have h0 := get_le (t := t) (i := i) (b := t.length - 1) (fun x hx => by have := ht.top x hx; omega)
  have h2 := get_le (t := t) (i := i + 1) (b := t.length - 1) (fun x hx => by have := ht.top x hx; omega)
  omega
def spOsa (K : PySem.W.Frag) : Sp := fun vs H Q _ => ∃ (a b : Addr) (t c : List Nat), vs = [.ref a, .ref b] ∧ SqL K H a (iv t) ∧ SqL K H b (iv c) ∧ c.length + 1 = t.length ∧ Pts t ∧
  ∀ p H', Same H H' → H p = none → H' p = some (.lst (iv (osa t c))) → Q (.ref p) H'
theorem ok_osa {k : Nat} (L : Ln K mg) : FnOk P w K mg base CX0 (k + 2) L.fA L.fdA ["spots", "counts"] (spOsa K) := by
  have B := L.B
  have GC : FnOk P w K mg base CX0 (k + 1) L.fC L.fdC ["spots", "piece"] (spCov K) := ok_cov L.DC.F B
  refine L.DA.F.ok scOsa (fun vs H Q E h => ?_) (fun cdv A outer s H vs Q E hr h => ?_)
  · obtain ⟨a, b, t, c, rfl, _⟩ := h
    rfl
  · obtain ⟨a, b, t, c, rfl, hA, hB, hl, ht, q⟩ := h
    have h7 := ht.hi
    refine ⟨_, pss_cons (ps_set (i := 2) scOsa.nd rfl (.inl rfl) (pe_op op_rep (pe_lst (pa_cons pe_int pa_nil)) (pe_callB call_len_seq (by rfl) B.len PySem.boot_len (pa_cons (pv 1) pa_nil))))
      (pss_cons (ps_for PassesOwn.never rfl (pi_range1 (by rfl) B.range (pa_cons (pe_callB call_len_seq (by rfl) B.len PySem.boot_len (pa_cons (pv 1) pa_nil)) pa_nil)) (pg_name (i := 3) scOsa.nd rfl (.inl rfl))
        (pss_one (ps_for PassesOwn.never rfl (pi_list (pe_call GC hr (by rfl) L.DC.g L.DC.F.kp L.DC.b .nil pass0 (pa_cons (pv 0) (pa_cons (pv 3) pa_nil)))) (pg_name (i := 4) scOsa.nd rfl (.inl rfl))
          (pss_one (ps_augS (pv 2) (pv 3) get_list (pe_ix ix_list (pv 1) (pv 4) (fun _ _ => rfl)) ip_add set_list)))))
      (pss_one (ps_ret (pv 2)))), ?_⟩
    refine ⟨by show 1 ≤ sizeLine; decide, fun z hz => ?_⟩
    have s1 : Same H (upd H z (.lst [V.int 0])) := same_upd hz
    refine ⟨_, rfl, b, iv c, rfl, .inl (s1.seq hB), z, _, _, rfl, rfl, upd_same, by omega, by rw [iv_len]; omega, ?_, fun o ho => ?_⟩
    · rw [iv_len]
      show 1 * _ ≤ 2 ^ 24
      omega
    have hoH : H o = none := s1.free ho
    have s2 : Same H (upd (upd H z (.lst [V.int 0])) o (.lst (iv (tab c.length fun _ => 0)))) := s1.trans (same_upd ho)
    have e0 : (List.replicate ((iv c).length : Int).toNat [V.int 0]).flatten = iv (tab c.length fun _ => 0) := by
      rw [iv_len, Int.toNat_natCast, tab_zero]
    rw [e0]
    have o1 : (upd (upd H z (.lst [V.int 0])) o (.lst (iv (tab c.length fun _ => 0)))) o = some (.lst (iv (tab c.length fun _ => 0))) := upd_same
    generalize (upd (upd H z (.lst [V.int 0])) o (.lst (iv (tab c.length fun _ => 0)))) = H1 at s2 o1 ⊢
    refine ⟨_, rfl, b, iv c, rfl, .inl (s2.seq hB), (c.length : Int), by rw [iv_len], by omega, by omega, ?_⟩
    rw [Int.toNat_natCast]
    refine for_range (lo := 0) (n := c.length) (fun i σ H' => ∃ v3 v4, σ = [some (.ref a), some (.ref b), some (.ref o), v3, v4] ∧ Same H H' ∧ H' o = some (.lst (iv (tab c.length fun j => if j < i then rowS t c j else 0)))) ⟨none, none, rfl, s2, by rw [o1]; exact congrArg (fun l => some (HO.lst (iv l))) (tab_congr fun j _ => (if_neg (by omega)).symm)⟩ ?_ ?_
    · rintro i σ H2 hi ⟨v3, v4, rfl, s5, o5⟩
      rw [Int.zero_add]
      refine ⟨_, rfl, _, rfl, a, t, i, rfl, s5.seq hA, by omega, fun x hx => by have := ht.top x hx; omega, fun p hp => ?_⟩
      have s8 : Same H2 (upd H2 p (.lst (iv (covL t i)))) := same_upd hp
      have p8 : (upd H2 p (.lst (iv (covL t i)))) p = some (.lst (iv (covL t i))) := upd_same
      have o8 := s8 _ _ o5
      have s9 := s5.trans s8
      have op : o ≠ p := ne_of_none o5 hp
      generalize (upd H2 p (.lst (iv (covL t i)))) = H5 at s8 p8 o8 s9 ⊢
      refine ⟨p, rfl, ⟨_, .inl (.inl p8)⟩, for_list (K := K) (a := p) (xs := iv (covL t i)) (fun m σ H' => ∃ v4, σ = [some (.ref a), some (.ref b), some (.ref o), some (.int (i : Nat)), v4] ∧ Same H H' ∧ H' p = some (.lst (iv (covL t i))) ∧
        H' o = some (.lst (iv (tab c.length fun j => if j < i then rowS t c j else if j = i then (((covL t i).take m).map fun l => c.getD l 0).sum else 0)))) ?_ (fun m σ H' _ ⟨_, _, _, hp', _⟩ => .inl (.inl hp')) ?_ ?_⟩
      · refine ⟨v4, rfl, s9, p8, ?_⟩
        rw [o8]
        refine congrArg (fun l => some (HO.lst (iv l))) (tab_congr fun j _ => ?_)
        rw [List.take_zero]
        by_cases e : j < i
        · rw [if_pos e, if_pos e]
        · rw [if_neg e, if_neg e]
          by_cases e2 : j = i
          · rw [if_pos e2]; rfl
          · rw [if_neg e2]
      · rintro m y σ H6 hy ⟨v4, rfl, s10, p10, o10⟩
        have hm : m < (covL t i).length := by
          have := (List.getElem?_eq_some_iff.mp hy).1
          rwa [iv_len] at this
        obtain rfl : V.int (((covL t i).getD m 0 : Nat) : Int) = y := Option.some.inj ((iv_get (get_some hm)).symm.trans hy)
        have hmem : (covL t i).getD m 0 ∈ covL t i := List.mem_of_getElem? (get_some hm)
        have hlt := cov_lt ht hmem
        refine ⟨_, rfl, _, rfl, o, _, i, _, rfl, rfl, .inl (.inl o10), iv_get (tab_get hi), _, rfl, _, rfl, b, _, _, _, rfl, rfl, s10.seq hB, atI_nat (iv_get (get_some (by omega))), _, _, rfl, rfl, o, _, _, i, rfl, rfl, o10, ?_, ?_⟩
        · rw [iv_len, tab_len]; exact ixN_nat hi
        · refine ⟨_, rfl, same_set s10 hoH, ?_, ?_⟩
          · rw [upd_ne (Ne.symm op)]; exact p10
          · dsimp only
            rw [upd_same, ← Int.natCast_add, iv_set, tab_set]
            refine congrArg (fun l => some (HO.lst (iv l))) (tab_congr fun j _ => ?_)
            rw [List.take_add_one, get_some hm, List.map_append, List.sum_append]
            by_cases e : j = i
            · subst e
              simp
            · rw [if_neg e]
              by_cases e2 : j < i
              · rw [if_pos e2, if_pos e2]
              · rw [if_neg e2, if_neg e2, if_neg e, if_neg e]
      · rintro σ H6 ⟨v4, rfl, s10, p10, o10⟩
        refine ⟨_, _, rfl, s10, ?_⟩
        rw [o10]
        refine congrArg (fun l => some (HO.lst (iv l))) (tab_congr fun j _ => ?_)
        rw [iv_len, List.take_length]
        by_cases e : j < i
        · rw [if_pos e, if_pos (by omega)]
        · rw [if_neg e]
          by_cases e2 : j = i
          · rw [if_pos e2, if_pos (by omega), e2]; rfl
          · rw [if_neg e2, if_neg (by omega)]
    · rintro σ H6 ⟨v3, v4, rfl, s10, o10⟩
      refine ⟨_, rfl, q o H6 s10 hoH ?_⟩
      rw [o10]
      exact congrArg (fun l => some (HO.lst (iv l))) (tab_congr fun j hj => if_pos hj)

/-! ### counts_onward -/
def oah (t : List Nat) (j : Nat) : Nat → List Nat
  | 0 => unit (t.length - 1) j
  | k + 1 => osa t (oah t j k)
theorem oah_len (t : List Nat) (j : Nat) : ∀ k, (oah t j k).length = t.length - 1
  | 0 => unit_len _ _
  | k + 1 => by rw [oah, osa_len, oah_len t j k]
def spCo (K : PySem.W.Frag) : Sp := fun vs H Q _ => ∃ (a : Addr) (t : List Nat) (j n : Nat), vs = [.ref a, .int (j : Int), .int (n : Int)] ∧ SqL K H a (iv t) ∧ Pts t ∧ j + 1 < t.length ∧ n ≤ 100 ∧
  ∀ p H' ps, Same H H' → H' p = some (.lst (rv ps)) → ps.length = n + 1 → Rw H' ps (oah t j) → Q (.ref p) H'
theorem ok_co {k : Nat} (L : Ln K mg) : FnOk P w K mg base CX0 (k + 3) L.fCo L.fdCo ["spots", "last", "most"] (spCo K) := by
  have B := L.B
  have GB : FnOk P w K mg base CX0 (k + 2) L.fB L.fdB ["spots", "piece"] (spBi K) := ok_bi L.DB.F B L.DP
  have GA : FnOk P w K mg base CX0 (k + 2) L.fA L.fdA ["spots", "counts"] (spOsa K) := ok_osa L
  refine L.DCo.F.ok scCo (fun vs H Q E h => ?_) (fun cdv A outer s H vs Q E hr h => ?_)
  · obtain ⟨a, t, j, n, rfl, _⟩ := h
    rfl
  · obtain ⟨a, t, j, n, rfl, hA, ht, hj, hn, q⟩ := h
    refine ⟨_, pss_cons (ps_set (i := 3) scCo.nd rfl (.inl rfl) (pe_call GB hr (by rfl) L.DB.g L.DB.F.kp L.DB.b .nil pass0 (pa_cons (pv 0) (pa_cons (pv 1) pa_nil))))
      (pss_cons (ps_set (i := 4) scCo.nd rfl (.inl rfl) (pe_lst (pa_cons (pv 3) pa_nil)))
      (pss_cons (ps_for PassesOwn.never rfl (pi_range1 (by rfl) B.range (pa_cons (pv 2) pa_nil)) (pg_name (i := 5) scCo.nd rfl (.inl rfl))
        (pss_cons (ps_set (i := 3) scCo.nd rfl (.inl rfl) (pe_call GA hr (by rfl) L.DA.g L.DA.F.kp L.DA.b .nil pass0 (pa_cons (pv 0) (pa_cons (pv 3) pa_nil))))
        (pss_one (ps_expr (pe_bm PySem.F.plainAttrs_list PySem.F.slot_list_append PySem.F.type_list_append mt_append (pv 4) (pa_cons (pv 3) pa_nil))))))
      (pss_one (ps_ret (pv 4))))), ?_⟩
    have h1 := ht.lo
    have h2 := ht.hi
    refine ⟨_, rfl, _, rfl, a, t, j, rfl, hA, ht, hj, fun p0 H1 s1 np0 hp0 => ?_⟩
    refine ⟨_, rfl, by show 1 ≤ sizeLine; decide, fun o no => ?_⟩
    have s2 := s1.trans (same_upd (o := .lst [V.ref p0]) no)
    refine ⟨_, rfl, (n : Int), rfl, by omega, by omega, ?_⟩
    rw [Int.toNat_natCast]
    refine for_range (lo := 0) (n := n) (fun i σ H' => ∃ v5 p ps, σ = [some (.ref a), some (.int (j : Int)), some (.int (n : Int)), some (.ref p), some (.ref o), v5] ∧ Same H H' ∧ H' p = some (.lst (iv (oah t j i))) ∧ H' o = some (.lst (rv ps)) ∧ ps.length = i + 1 ∧ o ∉ ps ∧ Rw H' ps (oah t j)) ?_ ?_ ?_
    · have po : p0 ≠ o := ne_of_none hp0 no
      have e1 : upd H1 o (.lst [V.ref p0]) p0 = some (.lst (iv (oah t j 0))) := by rw [upd_ne po]; exact hp0
      exact ⟨none, p0, [p0], rfl, s2, e1, upd_same, rfl, fun z => po (List.mem_singleton.mp z).symm, Rw.snoc (ps := []) Rw.nil e1⟩
    · rintro i σ H2 hi ⟨v5, p, ps, rfl, s3, hp, ho, hl, nps, hR⟩
      refine ⟨_, rfl, _, rfl, a, p, t, oah t j i, rfl, s3.seq hA, .inl (.inl hp), by rw [oah_len]; omega, ht, fun p2 H3 s4 np2 hp2 => ?_⟩
      have ho3 := s4 _ _ ho
      have op2 : o ≠ p2 := ne_of_none ho np2
      refine ⟨_, rfl, .inl ⟨rfl, _, .inl (.inl ho3)⟩, _, rfl, o, _, _, rfl, rfl, ho3, ?_, ?_⟩
      · rw [rv_len]
        show _ < 2 ^ 24
        omega
      · refine ⟨_, p2, ps ++ [p2], rfl, same_set (s3.trans s4) ?_, ?_, ?_, by rw [List.length_append, hl]; rfl, ?_, ?_⟩
        · exact s1.free no
        · rw [upd_ne (Ne.symm op2)]; exact hp2
        · rw [upd_same, rv_snoc]
        · intro z
          rcases List.mem_append.mp z with z | z
          · exact nps z
          · exact op2 (List.mem_singleton.mp z)
        · refine Rw.snoc ((hR.same s4).upd nps) ?_
          rw [upd_ne (Ne.symm op2), hl]
          exact hp2
    · rintro σ H2 ⟨v5, p, ps, rfl, s3, hp, ho, hl, nps, hR⟩
      exact ⟨_, rfl, q o H2 ps s3 ho hl hR⟩
end
end FG
namespace FG
open PyProof.Rows L2 PySem PySem.Spec
/-- the line of the specification whose points are put so -/
def gl (t : List Nat) : Su183.Abs := ⟨t.length - 1, t⟩
theorem gl_point (t : List Nat) (i : Nat) : (gl t).point i = t.getD i 0 := rfl
theorem gl_cov (t : List Nat) (i j : Nat) : (gl t).covers i j = cvr t i j := rfl
theorem gl_n (t : List Nat) : (gl t).n = t.length - 1 := rfl
theorem gl_ok {t : List Nat} (ht : Pts t) : HM.Ok (gl t) := ⟨by have := ht.lo; show 0 < t.length - 1; omega, fun i => by
  rw [gl_point, List.getD_eq_getElem?_getD]
  cases e : t[i]? with
  | none => exact Nat.zero_le _
  | some x =>
    have := ht.top x (List.mem_of_getElem? e)
    show x ≤ t.length - 1
    omega⟩
theorem mem_cov {t : List Nat} {i l : Nat} : l ∈ covL t i ↔ (gl t).covers i l = true := by
  unfold covL
  rw [List.mem_range'_1, gl_cov]
  unfold cvr
  rw [Bool.and_eq_true]
  rw [decide_eq_true_eq, (decide_eq_true_eq)]
  omega
theorem filter_part {p : Nat → Bool} {a b n : Nat} (hb : b ≤ n) (hab : a ≤ b) (h : ∀ x, p x = true ↔ a ≤ x ∧ x < b) : (List.range n).filter p = List.range' a (b - a) := by
  have e1 : List.range n = List.range' 0 a ++ (List.range' a (b - a) ++ List.range' b (n - b)) := by
    have x1 := List.range'_append (s := a) (m := b - a) (n := n - b) (step := 1)
    rw [Nat.one_mul, show a + (b - a) = b by omega] at x1
    have x2 := List.range'_append (s := 0) (m := a) (n := b - a + (n - b)) (step := 1)
    rw [Nat.one_mul, Nat.zero_add, show a + (b - a + (n - b)) = n by omega] at x2
    rw [x1, x2, List.range_eq_range']
  have f1 : (List.range' 0 a).filter p = [] := List.filter_eq_nil_iff.mpr fun x hx z => by
    have := List.mem_range'_1.mp hx
    have := (h x).mp z
    omega
  have f2 : (List.range' a (b - a)).filter p = List.range' a (b - a) := List.filter_eq_self.mpr fun x hx => by
    have := List.mem_range'_1.mp hx
    exact (h x).mpr (by omega)
  have f3 : (List.range' b (n - b)).filter p = [] := List.filter_eq_nil_iff.mpr fun x hx z => by
    have := List.mem_range'_1.mp hx
    have := (h x).mp z
    omega
  rw [e1, List.filter_append, List.filter_append, f1, f2, f3, List.nil_append, List.append_nil]
theorem cov_filter {t : List Nat} (ht : Pts t) (i : Nat) : (List.range (gl t).n).filter ((gl t).covers i) = covL t i := by
  have h1 := ht.lo
  have h0 := get_le (t := t) (i := i) (b := t.length - 1) (fun x hx => by have := ht.top x hx; omega)
  have h2 := get_le (t := t) (i := i + 1) (b := t.length - 1) (fun x hx => by have := ht.top x hx; omega)
  refine filter_part (by rw [gl_n]; omega) (by omega) fun x => ?_
  rw [gl_cov]
  unfold cvr
  rw [Bool.and_eq_true]
  rw [decide_eq_true_eq, (decide_eq_true_eq)]
theorem sum_filter (p : Nat → Bool) (f : Nat → Nat) : ∀ l : List Nat, ((l.filter p).map f).sum = (l.map fun x => if p x = true then f x else 0).sum
  | [] => rfl
  | x :: l => by
    rw [List.map_cons, List.sum_cons, ← sum_filter p f l]
    by_cases h : p x = true
    · rw [List.filter_cons_of_pos h, List.map_cons, List.sum_cons, if_pos h]
    · rw [List.filter_cons_of_neg h, if_neg h, Nat.zero_add]
theorem oah_Nw {t : List Nat} (ht : Pts t) (j : Nat) : ∀ k, oah t j k = tab (t.length - 1) fun i => HM.Nw (gl t) k i j
  | 0 => rfl
  | k + 1 => by
    show osa t (oah t j k) = _
    unfold osa
    rw [oah_len]
    refine tab_congr fun i hi => ?_
    unfold rowS
    rw [← cov_filter ht i, sum_filter]
    show _ = HM.S (gl t).n fun l => if (gl t).covers i l = true then HM.Nw (gl t) k l j else 0
    refine HM.S_congr fun l hl => ?_
    rw [oah_Nw ht j k, List.getD_eq_getElem?_getD, tab_get (show l < t.length - 1 from hl)]
    rfl
/-- how many lead on, by the ways themselves -/
theorem oah_len_ways {t : List Nat} (ht : Pts t) {j k l : Nat} (hj : j + 1 < t.length) (hl : l + 1 < t.length) : (oah t j k)[l]? = some (Su186.allWays (gl t) j l k).length := by
  rw [oah_Nw ht, tab_get (by omega), HM.allWays_len (g := gl t) (by show j < t.length - 1; omega) k l (by show l < t.length - 1; omega), HM.ways_Nw (gl t) k l j (by show l < t.length - 1; omega) (by show j < t.length - 1; omega)]
theorem ways_cons {t : List Nat} (ht : Pts t) {j k i : Nat} (hj : j + 1 < t.length) : Su186.allWays (gl t) j i (k + 1) = (covL t i).flatMap fun l => (Su186.allWays (gl t) j l k).map fun w => i :: w := by
  rw [HM.allWays_succ (g := gl t) (by show j < t.length - 1; omega), cov_filter ht]

theorem scWa : FnScope ["spots", "first", "last", "steps", "before", "onward", "skipped", "way", "left", "counts", "choices", "at"] ["spots", "first", "last", "steps", "before"] (defScope sWa) := ⟨rfl, rfl, rfl, by decide +kernel, rfl, by decide +kernel, by decide +kernel⟩
section
variable {base : Heap} {mg : Str → Option Value} {K : PySem.W.Frag} {P : Program} {w : World}
/-! ### way_at -/
def spWa (K : PySem.W.Frag) : Sp := fun vs H Q _ => ∃ (a : Addr) (t : List Nat) (i j n m : Nat) (W : List Nat), vs = [.ref a, .int (i : Int), .int (j : Int), .int (n : Int), .int (m : Int)] ∧ SqL K H a (iv t) ∧ Pts t ∧ i + 1 < t.length ∧ j + 1 < t.length ∧ n ≤ 100 ∧
  (Su186.allWays (gl t) j i n)[m]? = some W ∧ ∀ p H', Same H H' → H p = none → H' p = some (.lst (iv W)) → Q (.ref p) H'
theorem ok_wa {k : Nat} (L : Ln K mg) : FnOk P w K mg base CX0 (k + 4) L.fWa L.fdWa ["spots", "first", "last", "steps", "before"] (spWa K) := by
  have B := L.B
  have GO : FnOk P w K mg base CX0 (k + 3) L.fCo L.fdCo ["spots", "last", "most"] (spCo K) := ok_co L
  have GC : FnOk P w K mg base CX0 (k + 3) L.fC L.fdC ["spots", "piece"] (spCov K) := ok_cov L.DC.F B
  refine L.DWa.F.ok scWa (fun vs H Q E h => ?_) (fun cdv A outer s H vs Q E hr h => ?_)
  · obtain ⟨a, t, i, j, n, m, W, rfl, _⟩ := h
    rfl
  · obtain ⟨a, t, i0, j, n, m, W, rfl, hA, ht, hi0, hj, hn, hW, q⟩ := h
    refine ⟨_, (pss_cons (ps_set (i := 5) scWa.nd rfl (.inl rfl) ((pe_call GO hr (by rfl) L.DCo.g L.DCo.F.kp L.DCo.b .nil pass0 (pa_cons (pv 0) (pa_cons (pv 2) (pa_cons (pv 3) pa_nil))))))
      (pss_cons (ps_set (i := 6) scWa.nd rfl (.inl rfl) (pv 4))
      (pss_cons (ps_set (i := 7) scWa.nd rfl (.inl rfl) (pe_lst (pa_cons (pv 1) pa_nil)))
      (pss_cons (ps_for PassesOwn.never rfl (pi_range3 (by rfl) B.range (pa_cons (pe_op op_sub (pv 3) pe_int) (pa_cons (pe_un un_neg pe_int) (pa_cons (pe_un un_neg pe_int) pa_nil)))) ((pg_name (i := 8) scWa.nd rfl (.inl rfl)))
        (pss_cons (ps_set (i := 9) scWa.nd rfl (.inl rfl) ((pe_ix ix_list (pv 5) (pv 8) (fun _ _ => rfl))))
      (pss_cons (ps_set (i := 10) scWa.nd rfl (.inl rfl) ((pe_call GC hr (by rfl) L.DC.g L.DC.F.kp L.DC.b .nil pass0 (pa_cons (pv 0) (pa_cons (pe_ix ix_list (pv 7) (pe_un un_neg pe_int) (fun _ _ => rfl)) pa_nil)))))
      (pss_cons (ps_set (i := 11) scWa.nd rfl (.inl rfl) pe_int)
      (pss_cons (ps_while PassesOwn.never (pt_cmpR op_ge (pv 6) ((pe_ix ix_list (pv 9) ((pe_ix ix_list (pv 10) (pv 11) (fun _ _ => rfl))) (fun _ _ => rfl))) (nomark _))
            (pss_cons (ps_aug (i := 6) scWa.nd rfl (.inl rfl) ((pe_ix ix_list (pv 9) ((pe_ix ix_list (pv 10) (pv 11) (fun _ _ => rfl))) (fun _ _ => rfl))) ip_sub) (pss_one (ps_aug (i := 11) scWa.nd rfl (.inl rfl) pe_int ip_add)))) (pss_one (ps_expr (pe_bm PySem.F.plainAttrs_list PySem.F.slot_list_append PySem.F.type_list_append mt_append (pv 7) (pa_cons ((pe_ix ix_list (pv 10) (pv 11) (fun _ _ => rfl))) pa_nil))))))))) (pss_one (ps_ret (pv 7))))))), ?_⟩
    have h1 := ht.lo
    have h2 := ht.hi
    refine ⟨_, rfl, _, rfl, _, rfl, a, t, j, n, rfl, hA, ht, hj, hn, fun po H1 psO s1 hpo hlo hR => ?_⟩
    refine ⟨_, rfl, _, rfl, by show 1 ≤ sizeLine; decide, fun o no => ?_⟩
    have s2 := s1.trans (same_upd (o := .lst [V.int (i0 : Int)]) no)
    have noH : H o = none := s1.free no
    have npo : po ≠ o := ne_of_none hpo no
    have nps : o ∉ psO := fun z => by
      obtain ⟨m', hm'⟩ := List.getElem?_of_mem z
      have := hR m' o hm'
      rw [no] at this
      cases this
    refine ⟨_, rfl, _, _, rfl, rfl, 1, rfl, 1, rfl, (n : Int) - 1, -1, -1, n, rfl, ?_, ?_⟩
    · have := RgC.neg (i := (n : Int) - 1) (j := -1) (by omega) (by omega) (by omega) (by omega)
      rwa [show ((n : Int) - 1 - -1).toNat = n by omega] at this
    refine for_rangeC (lo := (n : Int) - 1) (c := -1) (n := n) (fun i σ H' => ∃ v8 v9 v10 v11 sk pre cur w, σ = [some (.ref a), some (.int (i0 : Int)), some (.int (j : Int)), some (.int (n : Int)), some (.int (m : Int)), some (.ref po), some (.int ((sk : Nat) : Int)), some (.ref o), v8, v9, v10, v11] ∧
      Same H H' ∧ H' o = some (.lst (iv (pre ++ [cur]))) ∧ H' po = some (.lst (rv psO)) ∧ Rw H' psO (oah t j) ∧ cur + 1 < t.length ∧ pre.length = i ∧ (Su186.allWays (gl t) j cur (n - i))[sk]? = some w ∧ W = pre ++ w) ?_ ?_ ?_
    · exact ⟨none, none, none, none, m, [], i0, W, rfl, s2, upd_same, by rw [upd_ne npo]; exact hpo, hR.upd nps, hi0, rfl, hW, rfl⟩
    · rintro i σ H2 hi ⟨v8, v9, v10, v11, sk, pre, cur, w, rfl, s3, ho, hpo2, hR2, hcur, hpre, hw, hWw⟩
      have e1 : (n : Int) - 1 + (i : Nat) * -1 = ((n - 1 - i : Nat) : Int) := by omega
      rw [e1]
      obtain ⟨cr, hcr⟩ := at_len (l := psO) (i := n - 1 - i) (by omega)
      have hcrH := hR2 _ _ hcr
      refine ⟨_, rfl, _, rfl, po, _, _, _, rfl, rfl, .inl (.inl hpo2), atI_nat (rv_get hcr), ?_⟩
      have hlast : atI (iv (pre ++ [cur])) (-1) = some (V.int (cur : Int)) := by
        unfold iv
        rw [List.map_append]
        exact atI_last _ _
      refine ⟨_, rfl, _, rfl, 1, rfl, o, _, _, _, rfl, rfl, .inl (.inl ho), hlast, a, t, cur, rfl, s3.seq hA, hcur, fun x hx => by have := ht.top x hx; omega, fun p hp => ?_⟩
      have s4 := same_upd (o := .lst (iv (covL t cur))) hp
      have p4 : (upd H2 p (.lst (iv (covL t cur)))) p = some (.lst (iv (covL t cur))) := upd_same
      have ho4 := s4 _ _ ho
      have hpo4 := s4 _ _ hpo2
      have hR4 := hR2.same s4
      have hcr4 := s4 _ _ hcrH
      have s5 := s3.trans s4
      generalize (upd H2 p (.lst (iv (covL t cur)))) = H4 at s4 p4 ho4 hpo4 hR4 hcr4 s5 ⊢
      have ek : n - i = (n - 1 - i) + 1 := by omega
      rw [ek, ways_cons ht hj] at hw
      generalize hkk : n - 1 - i = kk at *
      -- the while
      refine ⟨fun m' σ' H' => ∃ at_ sk', σ' = [some (.ref a), some (.int (i0 : Int)), some (.int (j : Int)), some (.int (n : Int)), some (.int (m : Int)), some (.ref po), some (.int ((sk' : Nat) : Int)), some (.ref o), some (.int ((kk : Nat) : Int)), some (.ref cr), some (.ref p), some (.int ((at_ : Nat) : Int))] ∧ H' = H4 ∧ m' = (covL t cur).length - at_ ∧
        (((covL t cur).drop at_).flatMap fun l => (Su186.allWays (gl t) j l kk).map fun w => cur :: w)[sk']? = some w, ⟨_, 0, sk, rfl, rfl, rfl, hw⟩, ?_⟩
      rintro m' σ' H' ⟨at_, sk', rfl, rfl, rfl, hw'⟩
      have hat : at_ < (covL t cur).length := Classical.byContradiction fun z => by
        rw [List.drop_of_length_le (by omega)] at hw'
        cases hw'
      have hdrop : (covL t cur).drop at_ = (covL t cur).getD at_ 0 :: (covL t cur).drop (at_ + 1) := by
        rw [List.drop_eq_getElem_cons hat, List.getD_eq_getElem?_getD, List.getElem?_eq_getElem hat]
        rfl
      have hc := get_some hat
      have hcl := cov_lt ht (List.mem_of_getElem? hc)
      generalize hce : (covL t cur).getD at_ 0 = c at *
      rw [hdrop, HM.flat_get, List.length_map] at hw'
      have hln := oah_len_ways (k := kk) ht hj hcl
      refine ⟨_, rfl, _, rfl, _, rfl, _, rfl, p, _, _, _, rfl, rfl, .inl (.inl p4), atI_nat (iv_get hc), cr, _, _, _, rfl, rfl, .inl (.inl hcr4), atI_nat (iv_get hln), _, _, rfl, rfl, _, rfl, ite2 (fun e => ?_) (fun e => ?_)⟩
      · have e2 : (Su186.allWays (gl t) j c kk).length ≤ sk' := by have := of_decide_eq_true e; omega
        rw [if_neg (by omega)] at hw'
        refine ⟨fun σ' H9 => ∃ m', m' < (covL t cur).length - at_ ∧ ∃ at_ sk', σ' = [some (.ref a), some (.int (i0 : Int)), some (.int (j : Int)), some (.int (n : Int)), some (.int (m : Int)), some (.ref po), some (.int ((sk' : Nat) : Int)), some (.ref o), some (.int ((kk : Nat) : Int)), some (.ref cr), some (.ref p), some (.int ((at_ : Nat) : Int))] ∧ H9 = H' ∧ m' = (covL t cur).length - at_ ∧
          (((covL t cur).drop at_).flatMap fun l => (Su186.allWays (gl t) j l kk).map fun w => cur :: w)[sk']? = some w, fun σ' H' h => h, ?_⟩
        refine ⟨_, rfl, _, rfl, _, rfl, _, rfl, p, _, _, _, rfl, rfl, .inl (.inl p4), atI_nat (iv_get hc), cr, _, _, _, rfl, rfl, .inl (.inl hcr4), atI_nat (iv_get hln), _, _, rfl, rfl, ?_⟩
        refine ⟨_, rfl, _, _, rfl, rfl, (covL t cur).length - (at_ + 1), by omega, at_ + 1, sk' - (Su186.allWays (gl t) j c kk).length, ?_, rfl, rfl, hw'⟩
        have z1 : (sk' : Int) - ((Su186.allWays (gl t) j c kk).length : Int) = ((sk' - (Su186.allWays (gl t) j c kk).length : Nat) : Int) := by omega
        have z2 : (at_ : Int) + 1 = ((at_ + 1 : Nat) : Int) := by omega
        dsimp only
        rw [z1, z2]
        rfl
      · have e2 : sk' < (Su186.allWays (gl t) j c kk).length := Classical.byContradiction fun z => e (decide_eq_true (by omega))
        rw [if_pos e2, List.getElem?_map] at hw'
        obtain ⟨w2, hw2, rfl⟩ := Option.map_eq_some_iff.mp hw'
        refine ⟨_, rfl, .inl ⟨rfl, _, .inl (.inl ho4)⟩, _, rfl, _, rfl, p, _, _, _, rfl, rfl, .inl (.inl p4), atI_nat (iv_get hc), o, _, _, rfl, rfl, ho4, ?_, ?_⟩
        · rw [iv_len, List.length_append, hpre]
          show i + 1 < 2 ^ 24
          omega
        · refine ⟨_, _, _, _, sk', pre ++ [cur], c, w2, rfl, same_set s5 noH, ?_, ?_, hR4.upd nps, hcl, by rw [List.length_append, hpre]; rfl, ?_, ?_⟩
          · rw [upd_same]
            unfold iv
            rw [List.map_append (l₁ := pre ++ [cur])]
            rfl
          · rw [upd_ne npo]; exact hpo4
          · rw [show n - (i + 1) = kk by omega]; exact hw2
          · rw [hWw, List.append_assoc]; rfl
    · rintro σ H2 ⟨v8, v9, v10, v11, sk, pre, cur, w, rfl, s3, ho, hpo2, hR2, hcur, hpre, hw, hWw⟩
      rw [Nat.sub_self] at hw
      have hw : (if cur = j then [[cur]] else [])[sk]? = some w := hw
      have : w = [cur] := by
        by_cases e : cur = j
        · rw [if_pos e] at hw
          have := List.mem_of_getElem? hw
          exact List.mem_singleton.mp this
        · rw [if_neg e] at hw; cases hw
      subst this
      subst hWw
      exact ⟨_, rfl, q o H2 s3 noH ho⟩
end
end FG
namespace FG
open PyProof.Rows L2 PySem PySem.Spec
section
variable {base : Heap} {mg : Str → Option Value} {K : PySem.W.Frag} {P : Program} {w : World}
/-! ### loops_by_piece -/
/-- how many loops of m + 1 steps begin in each piece -/
def lrow (t : List Nat) (m : Nat) : List Nat := tab (t.length - 1) fun i => wcN t i i (m + 1)
theorem rw_congr {H : Hp} {ps : List Addr} {f g : Nat → List Nat} (h : Rw H ps f) (e : ∀ m, f m = g m) : Rw H ps g := fun m q z => by rw [← e m]; exact h m q z
def spLb (K : PySem.W.Frag) : Sp := fun vs H Q _ => ∃ (a : Addr) (t : List Nat) (n : Nat), vs = [.ref a, .int (n : Int)] ∧ SqL K H a (iv t) ∧ Pts t ∧ n ≤ 100 ∧
  ∀ p H' ps, Same H H' → H' p = some (.lst (rv ps)) → ps.length = n → Rw H' ps (lrow t) → Q (.ref p) H'
theorem ok_lb {k : Nat} (L : Ln K mg) : FnOk P w K mg base CX0 (k + 3) L.fLb L.fdLb ["spots", "most"] (spLb K) := by
  have B := L.B
  have GP : FnOk P w K mg base CX0 (k + 2) L.fP L.fdP ["spots"] (spPc K) := ok_pc L.DP.F B
  have GB : FnOk P w K mg base CX0 (k + 2) L.fB L.fdB ["spots", "piece"] (spBi K) := ok_bi L.DB.F B L.DP
  have GO : FnOk P w K mg base CX0 (k + 2) L.fO L.fdO ["spots", "counts"] (spOsm K) := ok_osm L.DO.F B L.DC
  refine L.DLb.F.ok scLb (fun vs H Q E h => ?_) (fun cdv A outer s H vs Q E hr h => ?_)
  · obtain ⟨a, t, n, rfl, _⟩ := h
    rfl
  · obtain ⟨a, t, n, rfl, hA, ht, hn, q⟩ := h
    refine ⟨_, (pss_cons (ps_setLc (i := 2) (own := [("piece", 5)]) (g := gName 5) (tt := tYes) rfl scLb.nd rfl rfl (sw_true rfl rfl rfl (by decide +kernel)) (pi_range1 (by rfl) B.range (pa_cons (pe_call GP hr (by rfl) L.DP.g L.DP.F.kp L.DP.b .nil pass0 (pa_cons (pv 0) pa_nil)) pa_nil))
        (blkOk_by (own := [("piece", 5)]) (N := ["spots", "most", "ends", "told", "step", "piece", "counts"]) (sc := defScope sLb) (by decide +kernel))
        (fun _ _ _ _ _ => (pg_name (i := 5) scLb.nd rfl (.inl rfl))) (fun _ _ _ _ _ => pts_nil) (fun _ _ _ _ _ => (pe_call GB hr (by rfl) L.DB.g L.DB.F.kp L.DB.b .nil pass0 (pa_cons (pv 0) (pa_cons (pv 5) pa_nil)))))
      (pss_cons (ps_set (i := 3) scLb.nd rfl (.inl rfl) (pe_lst pa_nil))
      (pss_cons (ps_for PassesOwn.never rfl (pi_range1 (by rfl) B.range (pa_cons (pv 1) pa_nil)) ((pg_name (i := 4) scLb.nd rfl (.inl rfl)))
        (pss_cons (ps_setLc (i := 2) (own := [("counts", 6)]) (g := gName 6) (tt := tYes) rfl scLb.nd rfl rfl (sw_true rfl rfl rfl (by decide +kernel)) (pi_list (pv 2))
            (blkOk_by (own := [("counts", 6)]) (N := ["spots", "most", "ends", "told", "step", "piece", "counts"]) (sc := defScope sLb) (by decide +kernel))
            (fun _ _ _ _ _ => (pg_name (i := 6) scLb.nd rfl (.inl rfl))) (fun _ _ _ _ _ => pts_nil) (fun _ _ _ _ _ => (pe_call GO hr (by rfl) L.DO.g L.DO.F.kp L.DO.b .nil pass0 (pa_cons (pv 0) (pa_cons (pv 6) pa_nil))))) (pss_one (ps_expr (pe_bm PySem.F.plainAttrs_list PySem.F.slot_list_append PySem.F.type_list_append mt_append (pv 3) (pa_cons (pe_lc (own := [("piece", 5), ("counts", 6)]) (g := gTup K 2 (gCons (gName 5) (gCons (gName 6) gNil))) (tt := tYes) (te := tOp (rIxL K) (tVar 6) (tVar 5)) rfl scLb.nd (pi_enum (by rfl) B.enum (pa_cons (pv 2) pa_nil))
            (blkOk_by (own := [("piece", 5), ("counts", 6)]) (N := ["spots", "most", "ends", "told", "step", "piece", "counts"]) (sc := defScope sLb) (by decide +kernel))
            (fun _ _ _ _ _ => pg_tup rfl (pgs_cons ((pg_name (i := 5) scLb.nd rfl (.inl rfl))) (pgs_cons ((pg_name (i := 6) scLb.nd rfl (.inl rfl))) pgs_nil))) (fun _ _ _ _ _ => pts_nil) (fun _ _ _ _ _ => (pe_ix ix_list (pv 6) (pv 5) (fun _ _ => rfl)))) pa_nil)))))) (pss_one (ps_ret (pv 3)))))), ?_⟩
    have h1 := ht.lo
    have h2 := ht.hi
    -- ends = [begins_in(spots, piece) ..]
    refine ⟨_, rfl, a, iv t, rfl, hA, _, rfl, by rw [iv_len]; omega, by rw [iv_len]; omega, fun D hD => ?_⟩
    have e0 : (((iv t).length : Int) - 1).toNat = t.length - 1 := by rw [iv_len]; omega
    rw [e0]
    refine lc_range (lo := 0) (n := t.length - 1) (fun i H' => ∃ es, Same H H' ∧ H' D = some (.lst (rv es)) ∧ es.length = i ∧ D ∉ es ∧ Rw H' es (fun m => unit (t.length - 1) m)) ⟨[], same_upd hD, upd_same, rfl, fun z => (by cases z), Rw.nil⟩ ?_ ?_
    · rintro i H1 hi ⟨es, s1, d1, el, nD, hR⟩
      refine ⟨rfl, yesT ?_⟩
      refine ⟨_, rfl, _, rfl, a, t, i, by rw [Int.zero_add]; rfl, s1.seq hA, ht, by omega, fun p H2 s2 np hp => ?_⟩
      have d2 := s2 _ _ d1
      have Dp : D ≠ p := ne_of_none d1 np
      refine ⟨_, d2, ?_, es ++ [p], same_set (s1.trans s2) hD, ?_, by rw [List.length_append, el]; rfl, ?_, ?_⟩
      · rw [rv_len]
        show _ < 2 ^ 24
        omega
      · rw [upd_same, rv_snoc]
      · intro z
        rcases List.mem_append.mp z with z | z
        · exact nD z
        · exact Dp (List.mem_singleton.mp z)
      · refine Rw.snoc ((hR.same s2).upd nD) ?_
        rw [upd_ne (Ne.symm Dp), el]
        exact hp
    rintro H1 ⟨es0, s1, d1, el0, nD0, hR0⟩
    -- told = []
    refine ⟨by exact Nat.zero_le _, fun o no => ?_⟩
    have s2 := s1.trans (same_upd (o := .lst []) no)
    have noH : H o = none := s1.free no
    have no0 : o ∉ es0 := fun z => by
      obtain ⟨m', hm'⟩ := List.getElem?_of_mem z
      have := hR0 m' o hm'
      rw [no] at this
      cases this
    refine ⟨_, rfl, (n : Int), rfl, by omega, by omega, ?_⟩
    rw [Int.toNat_natCast]
    refine for_range (lo := 0) (n := n) (fun i σ H' => ∃ v4 v5 v6 e es ps, σ = [some (.ref a), some (.int (n : Int)), some (.ref e), some (.ref o), v4, v5, v6] ∧ Same H H' ∧ H' e = some (.lst (rv es)) ∧ es.length = t.length - 1 ∧ e ≠ o ∧ o ∉ es ∧ Rw H' es (fun m => we t (unit (t.length - 1) m) i) ∧
      H' o = some (.lst (rv ps)) ∧ ps.length = i ∧ o ∉ ps ∧ Rw H' ps (lrow t)) ?_ ?_ ?_
    · exact ⟨none, none, none, D, es0, [], rfl, s2, by rw [upd_ne (ne_of_none d1 no)]; exact d1, el0, ne_of_none d1 no, no0, hR0.upd no0, upd_same, rfl, fun z => (by cases z), Rw.nil⟩
    · rintro i σ H2 hi ⟨v4, v5, v6, e, es, ps, rfl, s3, he, hel, eo, oes, hE, ho, hpl, ops, hP⟩
      -- ends = [one_step_more(spots, counts) ..]
      refine ⟨_, rfl, e, rfl, ⟨_, .inl (.inl he)⟩, fun D2 hD2 => ?_⟩
      refine lc_list (K := K) (a := e) (xs := rv es) (fun m H' => ∃ fs, Same H2 H' ∧ H' D2 = some (.lst (rv fs)) ∧ fs.length = m ∧ D2 ∉ fs ∧ o ∉ fs ∧ Rw H' fs (fun m => we t (unit (t.length - 1) m) (i + 1))) ⟨[], same_upd hD2, upd_same, rfl, fun z => (by cases z), fun z => (by cases z), Rw.nil⟩ (fun m H' _ ⟨fs, sx, _⟩ => .inl (.inl (sx _ _ he))) ?_ ?_
      · rintro m y H3 hy ⟨fs, s4, d4, fl, nD4, nof, hF⟩
        have hm : m < es.length := by
          have := (List.getElem?_eq_some_iff.mp hy).1
          rwa [rv_len] at this
        obtain ⟨c, hc⟩ := at_len hm
        obtain rfl : V.ref c = y := Option.some.inj ((rv_get hc).symm.trans hy)
        have hcH := s4 _ _ (hE _ _ hc)
        refine ⟨rfl, yesT ?_⟩
        refine ⟨_, rfl, _, rfl, a, c, t, we t (unit (t.length - 1) m) i, rfl, (s3.trans s4).seq hA, .inl (.inl hcH), by rw [we_len, unit_len]; omega, h2, ht.top, fun p H4 s5 np hp => ?_⟩
        have d5 := s5 _ _ d4
        have Dp : D2 ≠ p := ne_of_none d4 np
        have op : o ≠ p := ne_of_none (s4 _ _ ho) np
        refine ⟨_, d5, ?_, fs ++ [p], same_set (s4.trans s5) hD2, ?_, by rw [List.length_append, fl]; rfl, ?_, ?_, ?_⟩
        · rw [rv_len]
          show _ < 2 ^ 24
          omega
        · rw [upd_same, rv_snoc]
        · intro z
          rcases List.mem_append.mp z with z | z
          · exact nD4 z
          · exact Dp (List.mem_singleton.mp z)
        · intro z
          rcases List.mem_append.mp z with z | z
          · exact nof z
          · exact op (List.mem_singleton.mp z)
        · refine Rw.snoc ((hF.same s5).upd nD4) ?_
          rw [upd_ne (Ne.symm Dp), fl]
          exact hp
      rintro H3 ⟨fs, s4, d4, fl, nD4, nof, hF⟩
      rw [rv_len, hel] at fl
      have ho3 := s4 _ _ ho
      have D2o : D2 ≠ o := fun z => by rw [z, ho] at hD2; cases hD2
      -- told.append([counts[piece] ..])
      refine ⟨_, rfl, .inl ⟨rfl, _, .inl (.inl ho3)⟩, _, rfl, D2, rv fs, rfl, .inl (.inl d4), fun D5 hD5 => ?_⟩
      refine lc_it (walk_enum (K := K) (a := D2) (xs := rv fs)) (fun m H' => Same H3 H' ∧ H' D5 = some (.lst (iv ((lrow t i).take m)))) ⟨same_upd hD5, upd_same⟩ (fun m H' _ hx => .inl (.inl (hx.1 _ _ d4))) ?_ ?_
      · rintro m y H4 H5 hm ⟨s5, d5⟩ ⟨T, x1, x2, rfl, nT, rfl, e1, e2⟩
        rw [rv_len] at hm
        obtain ⟨c, hc⟩ := at_len hm
        obtain rfl : V.int (m : Nat) = x1 := Option.some.inj e1
        obtain rfl : V.ref c = x2 := Option.some.inj ((rv_get hc).symm.trans e2)
        have s6 : Same H4 (upd H4 T (.tup [.int (m : Nat), .ref c])) := same_upd nT
        refine ⟨T, _, rfl, .inl (.inl upd_same), rfl, _, _, rfl, _, _, rfl, rfl, rfl, yesT ?_⟩
        have hcH := s6 _ _ (s5 _ _ (hF _ _ hc))
        have gq : (we t (unit (t.length - 1) m) (i + 1))[m]? = some (wcN t m m (i + 1)) := get_some (by rw [we_len, unit_len]; omega)
        refine ⟨_, rfl, _, rfl, c, _, _, _, rfl, rfl, .inl (.inl hcH), atI_nat (iv_get gq), _, s6 _ _ d5, ?_, same_set (s5.trans s6) hD5, ?_⟩
        · rw [iv_len, List.length_take]
          unfold lrow
          rw [tab_len]
          show _ < 2 ^ 24
          omega
        · have gl : (lrow t i)[m]? = some (wcN t m m (i + 1)) := by
            unfold lrow
            rw [tab_get (by omega)]
          rw [upd_same, iv_take_more gl]
      rintro H4 ⟨s5, d5⟩
      rw [rv_len, fl, List.take_of_length_le (by unfold lrow; rw [tab_len]; omega)] at d5
      have o5 := s5 _ _ ho3
      have D5o : D5 ≠ o := fun z => by rw [z, ho3] at hD5; cases hD5
      refine ⟨o, _, _, rfl, rfl, o5, ?_, ?_⟩
      · rw [rv_len]
        show _ < 2 ^ 24
        omega
      · refine ⟨_, _, _, D2, fs, ps ++ [D5], rfl, same_set (s3.trans (s4.trans s5)) noH, ?_, fl, D2o, nof, ((hF.same s5).upd nof), ?_, by rw [List.length_append, hpl]; rfl, ?_, ?_⟩
        · rw [upd_ne D2o]; exact s5 _ _ d4
        · rw [upd_same, rv_snoc]
        · intro z
          rcases List.mem_append.mp z with z | z
          · exact ops z
          · exact D5o (List.mem_singleton.mp z).symm
        · refine Rw.snoc ((hP.same (s4.trans s5)).upd ops) ?_
          rw [upd_ne D5o, hpl]
          exact d5
    · rintro σ H2 ⟨v4, v5, v6, e, es, ps, rfl, s3, he, hel, eo, oes, hE, ho, hpl, ops, hP⟩
      exact ⟨_, rfl, q o H2 ps s3 ho hpl hP⟩

/-! ### loop_count -/
def lcN (t : List Nat) (k : Nat) : Nat := (tab (t.length - 1) fun i => wcN t i i k).sum
def spLc (K : PySem.W.Frag) : Sp := fun vs H Q _ => ∃ (a : Addr) (t : List Nat) (n : Nat), vs = [.ref a, .int (n : Int)] ∧ SqL K H a (iv t) ∧ Pts t ∧ 0 < n ∧ n ≤ 100 ∧
  ∀ H', Same H H' → Q (.int (lcN t n : Nat)) H'
theorem last_get {l : List Addr} {x : Addr} {n : Nat} (hl : l.length = n + 1) (h : l[n]? = some x) : atI (rv l) (-1) = some (V.ref x) := by
  have e : rv l = rv (l.take n) ++ [V.ref x] := by
    rw [rv_snoc]
    congr 1
    have := List.take_add_one (l := l) (i := n)
    rw [h, List.take_of_length_le (by omega)] at this
    exact this
  rw [e]
  exact atI_last _ _
theorem ok_lc {k : Nat} (L : Ln K mg) : FnOk P w K mg base CX0 (k + 4) L.fLc L.fdLc ["spots", "steps"] (spLc K) := by
  have B := L.B
  have GL : FnOk P w K mg base CX0 (k + 3) L.fLb L.fdLb ["spots", "most"] (spLb K) := ok_lb L
  refine L.DLc.F.ok scLc (fun vs H Q E h => ?_) (fun cdv A outer s H vs Q E hr h => ?_)
  · obtain ⟨a, t, n, rfl, _⟩ := h
    rfl
  · obtain ⟨a, t, n, rfl, hA, ht, h0, hn, q⟩ := h
    refine ⟨_, (pss_one (ps_ret (pe_callB (cr_sum rfl) (by rfl) B.sum (by decide +kernel) (pa_cons (pe_ix ix_list ((pe_call GL hr (by rfl) L.DLb.g L.DLb.F.kp L.DLb.b .nil pass0 (pa_cons (pv 0) (pa_cons (pv 1) pa_nil)))) (pe_un un_neg pe_int) (fun _ _ => rfl)) pa_nil)))), ?_⟩
    refine ⟨_, rfl, _, rfl, a, t, n, rfl, hA, ht, hn, fun p H1 ps s1 hp hl hR => ?_⟩
    obtain ⟨c, hc⟩ := at_len (l := ps) (i := n - 1) (by omega)
    have hcH := hR _ _ hc
    refine ⟨1, rfl, p, _, _, _, rfl, rfl, .inl (.inl hp), last_get (n := n - 1) (by omega) hc, c, (lrow t (n - 1)).map fun (x : Nat) => (x : Int), rfl, .inl (.inl ?_), ?_⟩
    · rw [hcH, iv_ints]
    · rw [sum_ints]
      have e : (lrow t (n - 1)).sum = lcN t n := by
        unfold lrow lcN
        rw [show n - 1 + 1 = n by omega]
      rw [e]
      exact q H1 s1

/-! ### steps_of_loops -/
def stN (t : List Nat) (n : Nat) : Nat := ((List.range n).map fun k => if lcN t (k + 1) = 0 then 0 else 2 ^ k).sum
theorem stN_succ (t : List Nat) (n : Nat) : stN t (n + 1) = stN t n + if lcN t (n + 1) = 0 then 0 else 2 ^ n := by
  unfold stN
  rw [List.range_succ, List.map_append, List.sum_append]
  simp
theorem scSl : FnScope ["spots", "most", "told", "weight", "counts"] ["spots", "most"] (defScope sSl) := ⟨rfl, rfl, rfl, by decide +kernel, rfl, by decide +kernel, by decide +kernel⟩
def spSl (K : PySem.W.Frag) : Sp := fun vs H Q _ => ∃ (a : Addr) (t : List Nat) (n : Nat), vs = [.ref a, .int (n : Int)] ∧ SqL K H a (iv t) ∧ Pts t ∧ n ≤ 60 ∧
  ∀ H', Same H H' → Q (.int (stN t n : Nat)) H'
theorem ok_sl {f : Addr} {fd : FuncData} {k : Nat} (L : Ln K mg) (F : Fun K "steps_of_loops" "steps_of_loops" sSl f fd) : FnOk P w K mg base CX0 (k + 4) f fd ["spots", "most"] (spSl K) := by
  have B := L.B
  have GL : FnOk P w K mg base CX0 (k + 3) L.fLb L.fdLb ["spots", "most"] (spLb K) := ok_lb L
  refine F.ok scSl (fun vs H Q E h => ?_) (fun cdv A outer s H vs Q E hr h => ?_)
  · obtain ⟨a, t, n, rfl, _⟩ := h
    rfl
  · obtain ⟨a, t, n, rfl, hA, ht, hn, q⟩ := h
    refine ⟨_, (pss_cons (ps_set (i := 2) scSl.nd rfl (.inl rfl) pe_int)
      (pss_cons (ps_set (i := 3) scSl.nd rfl (.inl rfl) pe_int)
      (pss_cons (ps_for PassesOwn.never rfl (pi_list ((pe_call GL hr (by rfl) L.DLb.g L.DLb.F.kp L.DLb.b .nil pass0 (pa_cons (pv 0) (pa_cons (pv 1) pa_nil))))) ((pg_name (i := 4) scSl.nd rfl (.inl rfl)))
        (pss_cons (ps_if (pt_cmpR op_gt (pe_callB (cr_sum rfl) (by rfl) B.sum (by decide +kernel) (pa_cons (pv 4) pa_nil)) pe_int (nomark _)) (pss_one (ps_aug (i := 2) scSl.nd rfl (.inl rfl) (pv 3) ip_add)) pss_nil) (pss_one (ps_aug (i := 3) scSl.nd rfl (.inl rfl) pe_int ip_mul)))) (pss_one (ps_ret (pv 2)))))), ?_⟩
    refine ⟨_, rfl, _, rfl, a, t, n, rfl, hA, ht, by omega, fun p H1 ps s1 hp hl hR => ?_⟩
    refine ⟨p, rfl, ⟨_, .inl (.inl hp)⟩, ?_⟩
    refine for_list (K := K) (a := p) (xs := rv ps) (fun i σ H' => ∃ v4, σ = [some (.ref a), some (.int (n : Int)), some (.int ((stN t i : Nat) : Int)), some (.int ((2 ^ i : Nat) : Int)), v4] ∧ H' = H1) ⟨none, rfl, rfl⟩ (fun i σ H' _ ⟨_, _, e⟩ => by rw [e]; exact .inl (.inl hp)) ?_ ?_
    · rintro i y σ H2 hy ⟨v4, rfl, rfl⟩
      have hi : i < ps.length := by
        have := (List.getElem?_eq_some_iff.mp hy).1
        rwa [rv_len] at this
      obtain ⟨c, hc⟩ := at_len hi
      obtain rfl : V.ref c = y := Option.some.inj ((rv_get hc).symm.trans hy)
      have hcH := hR _ _ hc
      have hsum : (lrow t i).sum = lcN t (i + 1) := rfl
      have h64 : 2 ^ i < 2 ^ 64 := Nat.pow_lt_pow_right (by decide) (by omega)
      have h64' : ((2 ^ i : Nat) : Int) < 2 ^ 64 := by
        have : ((2 ^ i : Nat) : Int) < ((2 ^ 64 : Nat) : Int) := Int.ofNat_lt.mpr h64
        exact this
      have e2 : ((2 ^ i : Nat) : Int) * 2 = ((2 ^ (i + 1) : Nat) : Int) := by rw [Nat.pow_succ, Int.natCast_mul]; rfl
      refine ⟨_, rfl, c, (lrow t i).map fun (x : Nat) => (x : Int), rfl, .inl (.inl (by rw [hcH, iv_ints])), _, _, rfl, rfl, _, rfl, ite2 (fun e => ?_) (fun e => ?_)⟩
      · rw [sum_ints, hsum] at e
        have e1 : lcN t (i + 1) ≠ 0 := by have := of_decide_eq_true e; omega
        refine ⟨_, rfl, _, rfl, _, _, rfl, rfl, _, rfl, _, _, rfl, rfl, .inl ⟨Int.lt_of_lt_of_le (by decide) (Int.natCast_nonneg _), h64'⟩, some (.ref c), ?_, rfl⟩
        rw [stN_succ, if_neg e1, Int.natCast_add, ← e2]
        rfl
      · rw [sum_ints, hsum] at e
        have e1 : lcN t (i + 1) = 0 := Classical.byContradiction fun z => e (decide_eq_true (by omega))
        refine ⟨_, rfl, _, _, rfl, rfl, .inl ⟨Int.lt_of_lt_of_le (by decide) (Int.natCast_nonneg _), h64'⟩, some (.ref c), ?_, rfl⟩
        rw [stN_succ, if_pos e1, Nat.add_zero, ← e2]
        rfl
    · rintro σ H2 ⟨v4, rfl, rfl⟩
      rw [rv_len, hl]
      exact ⟨_, rfl, q H2 s1⟩

/-! ### whole_loop_count -/
def wl (t : List Nat) : Nat → Nat → Int
  | 0, k => (lcN t k : Int)
  | f + 1, k => (List.range (k - 1)).foldl (fun c j => if k % (j + 1) = 0 then c - wl t f (j + 1) else c) (lcN t k : Int)
def wlI (t : List Nat) (f k i : Nat) : Int := (List.range i).foldl (fun c j => if k % (j + 1) = 0 then c - wl t f (j + 1) else c) (lcN t k : Int)
theorem wlI_succ (t : List Nat) (f k i : Nat) : wlI t f k (i + 1) = if k % (i + 1) = 0 then wlI t f k i - wl t f (i + 1) else wlI t f k i := by
  unfold wlI
  rw [List.range_succ]
  rw [List.foldl_append]
  rfl
def spWl (K : PySem.W.Frag) (f : Nat) : Sp := fun vs H Q _ => ∃ (a : Addr) (t : List Nat) (n : Nat), vs = [.ref a, .int (n : Int)] ∧ SqL K H a (iv t) ∧ Pts t ∧ 0 < n ∧ n ≤ f ∧ n ≤ 100 ∧
  ∀ H', Same H H' → Q (.int (wl t f n)) H'
theorem ok_wl (L : Ln K mg) : ∀ f : Nat, FnOk P w K mg base CX0 (f + 5) L.fWl L.fdWl ["spots", "steps"] (spWl K f)
  | 0 => by
    refine L.DWl.F.ok scWl (fun vs H Q E h => ?_) (fun cdv A outer s H vs Q E hr h => ?_)
    · obtain ⟨a, t, n, rfl, _⟩ := h
      rfl
    · obtain ⟨a, t, n, rfl, hA, ht, h0, h1, _⟩ := h
      omega
  | f + 1 => by
    have B := L.B
    have GL : FnOk P w K mg base CX0 (f + 5) L.fLc L.fdLc ["spots", "steps"] (spLc K) := ok_lc (k := f + 1) L
    have GS := ok_wl L f
    refine L.DWl.F.ok scWl (fun vs H Q E h => ?_) (fun cdv A outer s H vs Q E hr h => ?_)
    · obtain ⟨a, t, n, rfl, _⟩ := h
      rfl
    · obtain ⟨a, t, n, rfl, hA, ht, h0, hf, hn, q⟩ := h
      refine ⟨_, pss_cons (ps_set (i := 2) scWl.nd rfl (.inl rfl) (pe_call GL hr (by rfl) L.DLc.g L.DLc.F.kp L.DLc.b .nil pass0 (pa_cons (pv 0) (pa_cons (pv 1) pa_nil))))
        (pss_cons (ps_for PassesOwn.never rfl (pi_range2 (by rfl) B.range (pa_cons pe_int (pa_cons (pv 1) pa_nil))) (pg_name (i := 3) scWl.nd rfl (.inl rfl))
          (pss_one (ps_if (pt_cmpR op_eq (pe_op op_mod (pv 1) (pv 3)) pe_int (nomark _))
            (pss_one (ps_aug (i := 2) scWl.nd rfl (.inl rfl) (pe_call GS hr (by rfl) L.DWl.g L.DWl.F.kp L.DWl.b .nil pass0 (pa_cons (pv 0) (pa_cons (pv 3) pa_nil))) ip_sub)) pss_nil)))
        (pss_one (ps_ret (pv 2)))), ?_⟩
      refine ⟨_, rfl, _, rfl, a, t, n, rfl, hA, ht, h0, hn, fun H1 s1 => ?_⟩
      refine ⟨_, rfl, 1, (n : Int), rfl, ⟨by omega, by omega, by omega, by omega⟩, ?_⟩
      have e0 : ((n : Int) - 1).toNat = n - 1 := by omega
      rw [e0]
      refine for_range (lo := 1) (n := n - 1) (fun i σ H' => ∃ v3, σ = [some (.ref a), some (.int (n : Int)), some (.int (wlI t f n i)), v3] ∧ Same H H') ⟨none, rfl, s1⟩ ?_ ?_
      · rintro i σ H2 hi ⟨v3, rfl, s2⟩
        have e1 : (1 : Int) + (i : Nat) = ((i + 1 : Nat) : Int) := by omega
        rw [e1]
        refine ⟨_, rfl, _, rfl, _, _, rfl, rfl, by omega, rfl, _, rfl, ite2 (fun e => ?_) (fun e => ?_)⟩
        · have e2 : (n : Int) % ((i + 1 : Nat) : Int) = 0 := V.int.inj (of_decide_eq_true e)
          have e3 : n % (i + 1) = 0 := by omega
          refine ⟨_, rfl, _, rfl, _, rfl, a, t, i + 1, rfl, s2.seq hA, ht, by omega, by omega, by omega, fun H3 s3 => ?_⟩
          refine ⟨_, _, rfl, rfl, some (.int ((i + 1 : Nat) : Int)), ?_, s2.trans s3⟩
          rw [wlI_succ, if_pos e3]
          rfl
        · have e3 : ¬ n % (i + 1) = 0 := fun z => e (decide_eq_true (congrArg V.int (by omega)))
          refine ⟨some (.int ((i + 1 : Nat) : Int)), ?_, s2⟩
          rw [wlI_succ, if_neg e3]
          rfl
      · rintro σ H2 ⟨v3, rfl, s2⟩
        exact ⟨_, rfl, q H2 s2⟩

/-! ### comes_back -/
def tpl (t : List Nat) : Nat → Nat → Nat
  | 0, s => s
  | k + 1, s => t.getD (tpl t k s) 0
def cbN (t : List Nat) (s n : Nat) : Bool := decide (0 < n ∧ tpl t n s = s ∧ ∀ j, j < n → 0 < j → tpl t j s ≠ s)
theorem tpl_lt {t : List Nat} (ht : Pts t) : ∀ k s, s < t.length → tpl t k s < t.length
  | 0, s, h => h
  | k + 1, s, h => by
    have := ht.top _ (List.mem_of_getElem? (get_some (tpl_lt ht k s h)))
    exact this
def spCb (K : PySem.W.Frag) : Sp := fun vs H Q _ => ∃ (a : Addr) (t : List Nat) (s n : Nat), vs = [.ref a, .int (s : Int), .int (n : Int)] ∧ SqL K H a (iv t) ∧ Pts t ∧ s < t.length ∧ n ≤ 100 ∧ Q (.bl (cbN t s n)) H
theorem ok_cb {k : Nat} (L : Ln K mg) : FnOk P w K mg base CX0 (k + 1) L.fCb L.fdCb ["spots", "start", "steps"] (spCb K) := by
  have B := L.B
  refine L.DCb.F.ok scCb (fun vs H Q E h => ?_) (fun cdv A outer s H vs Q E hr h => ?_)
  · obtain ⟨a, t, s, n, rfl, _⟩ := h
    rfl
  · obtain ⟨a, t, s, n, rfl, hA, ht, hs, hn, q⟩ := h
    refine ⟨_, pss_cons (ps_set (i := 3) scCb.nd rfl (.inl rfl) (pv 1))
      (pss_cons (ps_for PassesOwn.never rfl (pi_range2 (by rfl) B.range (pa_cons pe_int (pa_cons (pe_op op_add (pv 2) pe_int) pa_nil))) (pg_name (i := 4) scCb.nd rfl (.inl rfl))
        (pss_cons (ps_set (i := 3) scCb.nd rfl (.inl rfl) (pe_ix ix_list (pv 0) (pv 3) (fun _ _ => rfl)))
        (pss_one (ps_if (pt_cmpR op_eq (pv 3) (pv 1) (nomark _)) (pss_one (ps_ret (pe_cmpR op_eq (pv 4) (pv 2) (nomark _)))) pss_nil)))) (pss_one (ps_ret pe_bl))), ?_⟩
    refine ⟨_, rfl, _, rfl, _, _, rfl, rfl, 1, (n : Int) + 1, rfl, ⟨by omega, by omega, by omega, by omega⟩, ?_⟩
    have e0 : ((n : Int) + 1 - 1).toNat = n := by omega
    rw [e0]
    refine for_range (lo := 1) (n := n) (fun i σ H' => ∃ v4, σ = [some (.ref a), some (.int (s : Int)), some (.int (n : Int)), some (.int ((tpl t i s : Nat) : Int)), v4] ∧ H' = H ∧ ∀ j, j ≤ i → 0 < j → tpl t j s ≠ s) ⟨none, rfl, rfl, fun j h1 h2 => by omega⟩ ?_ ?_
    · rintro i σ H2 hi ⟨v4, rfl, rfl, hj⟩
      have e1 : (1 : Int) + (i : Nat) = ((i + 1 : Nat) : Int) := by omega
      rw [e1]
      refine ⟨_, rfl, _, rfl, a, _, _, _, rfl, rfl, hA, atI_nat (iv_get (get_some (tpl_lt ht i s hs))), ?_⟩
      refine ⟨_, rfl, _, rfl, rfl, _, rfl, ite2 (fun e => ?_) (fun e => ?_)⟩
      · have e2 : ((t.getD (tpl t i s) 0 : Nat) : Int) = (s : Int) := V.int.inj (of_decide_eq_true e)
        have e3 : tpl t (i + 1) s = s := by show t.getD (tpl t i s) 0 = s; omega
        refine ⟨_, rfl, _, rfl, rfl, ?_⟩
        have : decide (V.int ((i + 1 : Nat) : Int) = V.int (n : Int)) = cbN t s n := by
          unfold cbN
          apply decide_eq_decide.mpr
          constructor
          · intro z
            have z := V.int.inj z
            have z : i + 1 = n := by omega
            subst z
            exact ⟨by omega, e3, fun j h1 h2 => hj j (by omega) h2⟩
          · rintro ⟨z1, z2, z3⟩
            by_cases z : i + 1 = n
            · rw [z]
            · exact absurd e3 (z3 (i + 1) (by omega) (by omega))
        rw [this]
        exact q
      · refine ⟨_, rfl, rfl, fun j h1 h2 => ?_⟩
        by_cases z : j = i + 1
        · subst z
          intro e3
          apply e
          have e3 : t.getD (tpl t i s) 0 = s := e3
          rw [e3]
          exact decide_eq_true rfl
        · exact hj j (by omega) h2
    · rintro σ H2 ⟨v4, rfl, rfl, hj⟩
      have : cbN t s n = false := by
        unfold cbN
        apply decide_eq_false
        rintro ⟨z1, z2, z3⟩
        exact hj n (Nat.le_refl _) z1 z2
      show Q (.bl false) H2
      rw [← this]
      exact q

/-! ### has_round -/
def hrN (t : List Nat) (n : Nat) : Bool := ((List.range t.length).map fun p => cbN t p n).any id || decide (0 < wl t 6 n)
def spHr (K : PySem.W.Frag) : Sp := fun vs H Q _ => ∃ (a : Addr) (t : List Nat) (n : Nat), vs = [.ref a, .int (n : Int)] ∧ SqL K H a (iv t) ∧ Pts t ∧ 0 < n ∧ n ≤ 6 ∧
  ∀ H', Same H H' → Q (.bl (hrN t n)) H'
theorem ok_hr {k : Nat} (L : Ln K mg) {f : Addr} {fd : FuncData} (F : Fun K "has_round" "has_round" sHr f fd) : FnOk P w K mg base CX0 12 f fd ["spots", "steps"] (spHr K) := by
  have B := L.B
  have GW : FnOk P w K mg base CX0 11 L.fWl L.fdWl ["spots", "steps"] (spWl K 6) := ok_wl L 6
  have GC : FnOk P w K mg base CX0 11 L.fCb L.fdCb ["spots", "start", "steps"] (spCb K) := ok_cb L
  refine F.ok scHr (fun vs H Q E h => ?_) (fun cdv A outer s H vs Q E hr h => ?_)
  · obtain ⟨a, t, n, rfl, _⟩ := h
    rfl
  · obtain ⟨a, t, n, rfl, hA, ht, h0, hn, q⟩ := h
    refine ⟨_, pss_cons (ps_if (pt_val (pe_callB (cr_any rfl) (by rfl) B.any (by decide +kernel) (pa_cons (pe_lc (own := [("point", 2)]) (g := gName 2) (tt := tYes) rfl scHr.nd
      (pi_range1 (by rfl) B.range (pa_cons (pe_callB call_len_seq (by rfl) B.len PySem.boot_len (pa_cons (pv 0) pa_nil)) pa_nil)) (blkOk_by (own := [("point", 2)]) (N := ["spots", "steps", "point"]) (sc := defScope sHr) (by decide +kernel))
        (fun _ _ _ _ _ => pg_name (i := 2) scHr.nd rfl (.inl rfl)) (fun _ _ _ _ _ => pts_nil) (fun _ _ _ _ _ => pe_call GC hr (by rfl) L.DCb.g L.DCb.F.kp L.DCb.b .nil pass0 (pa_cons (pv 0) (pa_cons (pv 2) (pa_cons (pv 1) pa_nil))))) pa_nil)))
        (pss_one (ps_ret pe_bl)) pss_nil)
      (pss_one (ps_ret (pe_cmpR op_gt (pe_call GW hr (by rfl) L.DWl.g L.DWl.F.kp L.DWl.b .nil pass0 (pa_cons (pv 0) (pa_cons (pv 1) pa_nil))) pe_int (nomark _)))), ?_⟩
    have h1 := ht.lo
    have h2 := ht.hi
    refine ⟨_, rfl, a, iv t, rfl, .inl hA, _, rfl, by rw [iv_len]; omega, by rw [iv_len]; omega, fun D hD => ?_⟩
    rw [iv_len, Int.toNat_natCast]
    refine lc_range (lo := 0) (n := t.length) (fun i H' => Same H H' ∧ H' D = some (.lst (((List.range i).map fun p => cbN t p n).map V.bl))) ⟨same_upd hD, upd_same⟩ ?_ ?_
    · rintro i H1 hi ⟨s1, d1⟩
      refine ⟨rfl, yesT ?_⟩
      refine ⟨_, rfl, _, rfl, _, rfl, a, t, i, n, by rw [Int.zero_add]; rfl, s1.seq hA, ht, hi, by omega, ?_⟩
      refine ⟨_, d1, ?_, same_set s1 hD, ?_⟩
      · rw [List.length_map, List.length_map, List.length_range]
        show _ < 2 ^ 24
        omega
      · rw [upd_same, List.range_succ, List.map_append, List.map_append]
        rfl
    · rintro H1 ⟨s1, d1⟩
      refine ⟨D, (List.range t.length).map fun p => cbN t p n, rfl, .inl (.inl d1), _, rfl, ite2 (fun e => ?_) (fun e => ?_)⟩
      · have : hrN t n = true := by unfold hrN; rw [e]; rfl
        show Q (.bl true) H1
        rw [← this]
        exact q H1 s1
      · refine ⟨_, rfl, _, rfl, a, t, n, rfl, s1.seq hA, ht, h0, by omega, by omega, fun H2 s2 => ⟨_, _, rfl, rfl, ?_⟩⟩
        have : hrN t n = decide (0 < wl t 6 n) := by
          unfold hrN
          rw [Bool.not_eq_true _ |>.mp e]
          rfl
        show Q (.bl (decide (0 < wl t 6 n))) H2
        rw [← this]
        exact q H2 (s1.trans s2)
end
end FG
namespace FG
open PyProof.Rows L2 PySem PySem.Spec
theorem rowsOf_we (t : List Nat) (i : Nat) : ∀ k, Su186.rowsOf (gl t) i k = we t (unit (t.length - 1) i) k
  | 0 => rfl
  | k + 1 => by
    show ((List.range (t.length - 1)).map fun j => ((List.range (t.length - 1)).map fun l => if (gl t).covers l j = true then (Su186.rowsOf (gl t) i k).getD l 0 else 0).sum) = osm t (we t (unit (t.length - 1) i) k)
    rw [rowsOf_we t i k]
    unfold osm tab pre
    rw [we_len]
    unfold unit
    rw [tab_len]
    rfl
theorem wc_ways (t : List Nat) (i j k : Nat) : wcN t i j k = Su186.ways (gl t) i j k := by
  unfold wcN Su186.ways
  rw [rowsOf_we]
theorem lc_loops (t : List Nat) (k : Nat) : lcN t k = Su186.loops (gl t) k := by
  unfold lcN Su186.loops Su186.pieces tab
  congr 1
  apply List.map_congr_left
  intro i _
  exact wc_ways t i i k

/-- sums of rows -/
theorem sum_tab (N : Nat) (f : Nat → Nat) : (tab N f).sum = HM.S N f := rfl
theorem tab_self (l : List Nat) : tab l.length (fun j => l.getD j 0) = l := by
  apply List.ext_getElem?
  intro i
  by_cases hi : i < l.length
  · rw [tab_get hi, get_some hi]
  · rw [List.getElem?_eq_none (by rw [tab_len]; omega), List.getElem?_eq_none (by omega)]
/-- a row that's the sum of rows stays so -/
theorem we_sum (t : List Nat) (m : Nat) (c : Nat → List Nat) (N : Nat) (hc : ∀ i, (c i).length = N) : ∀ k, we t (tab N fun j => HM.S m fun i => (c i).getD j 0) k = tab N fun j => HM.S m fun i => (we t (c i) k).getD j 0
  | 0 => rfl
  | k + 1 => by
    show osm t (we t _ k) = _
    rw [we_sum t m c N hc k]
    unfold osm
    rw [tab_len]
    refine tab_congr fun j hj => ?_
    have e1 : pre t (tab N fun j => HM.S m fun i => (we t (c i) k).getD j 0) N j = HM.S N fun l => HM.S m fun i => if cvr t l j = true then (we t (c i) k).getD l 0 else 0 := by
      unfold pre
      refine HM.S_congr fun l hl => ?_
      rw [HM.S_ite, List.getD_eq_getElem?_getD, tab_get hl]
      rfl
    rw [e1, HM.S_swap]
    refine HM.S_congr fun i _ => ?_
    show _ = (osm t (we t (c i) k)).getD j 0
    unfold osm
    rw [we_len, hc, List.getD_eq_getElem?_getD, tab_get hj]
    rfl
theorem len_lengthOf (t : List Nat) (k : Nat) : lenN t k = Su186.lengthOf (gl t) k := by
  unfold lenN Su186.lengthOf Su186.pieces
  have e1 : tab (t.length - 1) (fun _ => 1) = tab (t.length - 1) fun j => HM.S (t.length - 1) fun i => (unit (t.length - 1) i).getD j 0 := by
    refine tab_congr fun j hj => ?_
    have : (HM.S (t.length - 1) fun i => (unit (t.length - 1) i).getD j 0) = HM.S (t.length - 1) fun i => if i = j then 1 else 0 := HM.S_congr fun i _ => by
      unfold unit
      rw [List.getD_eq_getElem?_getD, tab_get hj, Option.getD_some]
      by_cases e : j = i
      · subst e; rfl
      · rw [if_neg e, if_neg (fun z => e z.symm)]
    rw [this, HM.S_single hj]
  rw [e1, we_sum t _ _ (t.length - 1) (fun i => by unfold unit; rw [tab_len]), sum_tab, HM.S_swap]
  refine HM.S_congr fun i _ => ?_
  rw [rowsOf_we]
  have := tab_self (we t (unit (t.length - 1) i) k)
  rw [we_len] at this
  unfold unit at this
  rw [tab_len] at this
  have h2 := congrArg List.sum this
  rw [sum_tab] at h2
  exact h2

theorem trn_turned {t : List Nat} (ht : Pts t) : (gl t).turned = gl (trn t) := by
  have h1 := ht.lo
  unfold Su183.Abs.turned gl
  rw [trn_len]
  congr 1
  apply List.ext_getElem?
  intro i
  show ((List.range (t.length - 1 + 1)).map fun i => (t.length - 1) - (gl t).point (t.length - 1 - i))[i]? = (trn t)[i]?
  by_cases hi : i < t.length
  · rw [trn_get hi (get_some (by omega)), List.getElem?_map, List.getElem?_range (by omega)]
    rfl
  · rw [List.getElem?_eq_none (by rw [List.length_map, List.length_range]; omega), List.getElem?_eq_none (by rw [trn_len]; omega)]
theorem trn_pts {t : List Nat} (ht : Pts t) : Pts (trn t) := ⟨by rw [trn_len]; exact ht.lo, by rw [trn_len]; exact ht.hi, fun x hx => by
  rw [trn_len]
  unfold trn at hx
  obtain ⟨y, _, rfl⟩ := List.mem_map.mp hx
  have := ht.lo
  omega⟩

theorem tpl_tp (t : List Nat) : ∀ k s, tpl t k s = HM.tp (gl t) k s
  | 0, s => rfl
  | k + 1, s => by
    rw [HM.tp_succ, ← tpl_tp t k s]
    rfl
theorem hr_has {t : List Nat} (ht : Pts t) {k : Nat} (h0 : 0 < k) (hk : k ≤ 6) : hrN t k = (gl t).has k := by
  have h1 := ht.lo
  rw [Bool.eq_iff_iff, HM.has_count (gl_ok ht) h0 hk]
  unfold hrN
  rw [Bool.or_eq_true]
  refine or_congr ?_ ?_
  · rw [List.any_map, List.any_eq_true]
    constructor
    · rintro ⟨p, hp, h⟩
      have h : cbN t p k = true := h
      unfold cbN at h
      obtain ⟨a, b, c⟩ := of_decide_eq_true h
      refine ⟨p, ?_, a, by rw [← tpl_tp]; exact b, fun j j1 j2 => by rw [← tpl_tp]; exact c j j2 j1⟩
      have := List.mem_range.mp hp
      show p ≤ t.length - 1
      omega
    · rintro ⟨p, hp, a, b, c⟩
      have hp : p ≤ t.length - 1 := hp
      refine ⟨p, List.mem_range.mpr (by omega), ?_⟩
      show cbN t p k = true
      unfold cbN
      exact decide_eq_true ⟨a, by rw [tpl_tp]; exact b, fun j j1 j2 => by rw [tpl_tp]; exact c j j2 j1⟩
  · rw [decide_eq_true_eq]
    have hc : k = 1 ∨ k = 2 ∨ k = 3 ∨ k = 4 ∨ k = 5 ∨ k = 6 := by omega
    have w1 : ∀ f, wl t (f + 1) 1 = (lcN t 1 : Int) := fun f => rfl
    have w2 : ∀ f, wl t (f + 2) 2 = (lcN t 2 : Int) - (lcN t 1 : Int) := fun f => rfl
    have w3 : ∀ f, wl t (f + 2) 3 = (lcN t 3 : Int) - (lcN t 1 : Int) := fun f => rfl
    have w4 : ∀ f, wl t (f + 3) 4 = (lcN t 4 : Int) - (lcN t 1 : Int) - ((lcN t 2 : Int) - (lcN t 1 : Int)) := fun f => rfl
    have w5 : ∀ f, wl t (f + 2) 5 = (lcN t 5 : Int) - (lcN t 1 : Int) := fun f => rfl
    have w6 : ∀ f, wl t (f + 3) 6 = (lcN t 6 : Int) - (lcN t 1 : Int) - ((lcN t 2 : Int) - (lcN t 1 : Int)) - ((lcN t 3 : Int) - (lcN t 1 : Int)) := fun f => rfl
    rcases hc with rfl | rfl | rfl | rfl | rfl | rfl
    · rw [w1, lc_loops]; omega
    · rw [w2, lc_loops, lc_loops]; omega
    · rw [w3, lc_loops, lc_loops]; omega
    · rw [w4, lc_loops, lc_loops, lc_loops]; omega
    · rw [w5, lc_loops, lc_loops]; omega
    · rw [w6, lc_loops, lc_loops, lc_loops, lc_loops]; omega
end FG
namespace FG
open PyProof.Rows L2 PySem PySem.Spec
/-! ### the text of the class -/
abbrev sSes : Stmt := topS 58
abbrev mInit : Stmt := inClass sSes 0
abbrev mIsPt : Stmt := inClass sSes 1
abbrev mIsPc : Stmt := inClass sSes 2
abbrev mBeg : Stmt := inClass sSes 3
abbrev mPut : Stmt := inClass sSes 4
abbrev mRow : Stmt := inClass sSes 5
abbrev mTur : Stmt := inClass sSes 6
abbrev mSta : Stmt := inClass sSes 7
abbrev mHas : Stmt := inClass sSes 8
abbrev mLen : Stmt := inClass sSes 9
abbrev mWay : Stmt := inClass sSes 10
theorem scInit : FnScope ["self"] ["self"] (defScope mInit) := ⟨rfl, rfl, rfl, by decide +kernel, rfl, by decide +kernel, by decide +kernel⟩
theorem scIsPt : FnScope ["self", "point"] ["self", "point"] (defScope mIsPt) := ⟨rfl, rfl, rfl, by decide +kernel, rfl, by decide +kernel, by decide +kernel⟩
theorem scIsPc : FnScope ["self", "piece"] ["self", "piece"] (defScope mIsPc) := ⟨rfl, rfl, rfl, by decide +kernel, rfl, by decide +kernel, by decide +kernel⟩
theorem scBeg : FnScope ["self", "pieces"] ["self", "pieces"] (defScope mBeg) := ⟨rfl, rfl, rfl, by decide +kernel, rfl, by decide +kernel, by decide +kernel⟩
theorem scPut : FnScope ["self", "point", "spot", "before"] ["self", "point", "spot"] (defScope mPut) := ⟨rfl, rfl, rfl, by decide +kernel, rfl, by decide +kernel, by decide +kernel⟩
theorem scRow : FnScope ["self", "points", "point"] ["self", "points"] (defScope mRow) := ⟨rfl, rfl, rfl, by decide +kernel, rfl, by decide +kernel, by decide +kernel⟩
theorem scTurn : FnScope ["self"] ["self"] (defScope mTur) := ⟨rfl, rfl, rfl, by decide +kernel, rfl, by decide +kernel, by decide +kernel⟩
theorem scSta : FnScope ["self"] ["self"] (defScope mSta) := ⟨rfl, rfl, rfl, by decide +kernel, rfl, by decide +kernel, by decide +kernel⟩
theorem scHas : FnScope ["self", "steps"] ["self", "steps"] (defScope mHas) := ⟨rfl, rfl, rfl, by decide +kernel, rfl, by decide +kernel, by decide +kernel⟩
theorem scLenM : FnScope ["self", "steps"] ["self", "steps"] (defScope mLen) := ⟨rfl, rfl, rfl, by decide +kernel, rfl, by decide +kernel, by decide +kernel⟩
theorem scWay : FnScope ["self", "first", "last", "steps"] ["self", "first", "last", "steps"] (defScope mWay) := ⟨rfl, rfl, rfl, by decide +kernel, rfl, by decide +kernel, by decide +kernel⟩

/-! ### the object in the heap -/
def sF (sp : Addr) : List (Str × V) := [("spots", .ref sp)]
theorem sF_spots (sp : Addr) : (sF sp).lookup ("spots" : Str) = some (.ref sp) := by
  have e : (("spots" : Str) == ("spots" : Str)) = true := beq_self_eq_true _
  simp only [sF, List.lookup, e]
theorem sF_no {m : Str} (sp : Addr) (h : (m == ("spots" : Str)) = false) : (sF sp).lookup m = none := by
  simp only [sF, List.lookup, h]
theorem sF_put (sp sp' : Addr) : putF "spots" (.ref sp') (sF sp) = sF sp' := if_pos rfl
structure SesAt (C : Addr) (H : Hp) (x sp : Addr) (t : List Nat) : Prop where
  obj : ∃ dx, H x = some (.ins C dx (sF sp))
  row : H sp = some (.lst (iv t))
theorem SesAt.same {C : Addr} {H H' : Hp} {x sp : Addr} {t : List Nat} (h : SesAt C H x sp t) (s : Same H H') : SesAt C H' x sp t := ⟨let ⟨dx, e⟩ := h.obj; ⟨dx, s _ _ e⟩, s _ _ h.row⟩
theorem SesAt.ne {C : Addr} {H : Hp} {x sp : Addr} {t : List Nat} (h : SesAt C H x sp t) : x ≠ sp := fun e => by
  obtain ⟨dx, q⟩ := h.obj
  rw [e, h.row] at q
  cases q
/-- all but the object and its row stays -/
def Fr (H H' : Hp) (x sp : Addr) : Prop := ∀ b o, H b = some o → b ≠ x → b ≠ sp → H' b = some o
def Out (C x sp : Addr) (H : Hp) (Q : VK) (a : List Nat × List Int) : Prop := ∀ H' sp' p, SesAt C H' x sp' a.1 → (sp' = sp ∨ H sp' = none) → Fr H H' x sp → H p = none → H' p = some (.lst (a.2.map V.int)) → Q (.ref p) H'
theorem Out.still {C x sp : Addr} {H H' : Hp} {Q : VK} {t : List Nat} {r : List Int} {p : Addr} (o : Out C x sp H Q (t, r)) (S : SesAt C H x sp t) (s : Same H H') (np : H p = none) (hp : H' p = some (.lst (r.map V.int))) : Q (.ref p) H' :=
  o H' sp p (S.same s) (.inl rfl) (fun b o e _ _ => s b o e) np hp
/-- a method -/
structure Mt (K : PySem.W.Frag) (C : Addr) (nm qual : Str) (st : Stmt) (ps : List Str) (f : Addr) (fd : FuncData) : Prop where
  F : Fun K nm qual st f fd
  b : Binds K fd ps []
  m : Meth K C nm f
/-- what the top has of the class and the constants -/
structure Tx (K : PySem.W.Frag) (mg : Str → Option Value) (C : Addr) : Prop where
  cl : Cls K C
  nS : NoAttr K C "spots"
  c2 : ∃ t, mg "NO_SUCH" = some (.int (-2) t)
  c11 : ∃ t, mg "NOT_BEGUN" = some (.int (-11) t)
  c22 : ∃ t, mg "NOT_AS_TOLD" = some (.int (-22) t)
  mp : ∃ t, mg "MOST_PIECES" = some (.int 6 t)
  mr : ∃ t, mg "MOST_ROUND_STEPS" = some (.int 6 t)
  ms : ∃ t, mg "MOST_STEPS" = some (.int 30 t)

theorem one_le (v : V) : [v].length ≤ sizeLine := by
  show 1 ≤ 2 ^ 24
  decide

section
variable {base : Heap} {mg : Str → Option Value} {K : PySem.W.Frag} {P : Program} {w : World} {C : Addr}
/-! ### __init__ -/
def spInit (C : Addr) : Sp := fun vs H Q _ => ∃ (x dx : Addr), vs = [.ref x] ∧ H x = some (.ins C dx []) ∧
  ∀ H' sp, SesAt C H' x sp [] → H sp = none → (∀ b o, H b = some o → b ≠ x → H' b = some o) → Q .non H'
theorem ok_init {f : Addr} {fd : FuncData} {k : Nat} (F : Fun K "__init__" "Session.__init__" mInit f fd) (T : Tx K mg C) : FnOk P w K mg base CX0 (k + 1) f fd ["self"] (spInit C) := by
  refine F.ok scInit (fun vs H Q E h => ?_) (fun cdv A outer s H vs Q E hr h => ?_)
  · obtain ⟨x, dx, rfl, _⟩ := h
    rfl
  · obtain ⟨x, dx, rfl, hx, q⟩ := h
    refine ⟨_, pss_one (ps_fld (pv 0) (pe_lst pa_nil) rfl), ?_⟩
    refine ⟨Nat.zero_le _, fun p hp => ?_⟩
    have xp : x ≠ p := ne_of_none hx hp
    refine ⟨_, rfl, x, C, dx, [], rfl, by rw [upd_ne xp]; exact hx, T.cl, T.nS, by decide, ?_⟩
    refine q _ p ⟨⟨dx, upd_same⟩, ?_⟩ hp (fun b o e hb => ?_)
    · rw [upd_ne (Ne.symm xp), upd_same]
      rfl
    · rw [upd_ne hb, upd_ne (ne_of_none e hp)]
      exact e

/-! ### is_point, is_piece -/
def spIsPt (C : Addr) : Sp := fun vs H Q _ => ∃ (x sp : Addr) (t : List Nat) (i : Nat), vs = [.ref x, .int (i : Int)] ∧ SesAt C H x sp t ∧ Q (.bl (decide (i < t.length))) H
theorem ok_ispt {f : Addr} {fd : FuncData} {k : Nat} (F : Fun K "is_point" "Session.is_point" mIsPt f fd) (T : Tx K mg C) (B : Bi mg) : FnOk P w K mg base CX0 (k + 1) f fd ["self", "point"] (spIsPt C) := by
  refine F.ok scIsPt (fun vs H Q E h => ?_) (fun cdv A outer s H vs Q E hr h => ?_)
  · obtain ⟨x, sp, t, i, rfl, _⟩ := h
    rfl
  · obtain ⟨x, sp, t, i, rfl, S, q⟩ := h
    obtain ⟨dx, hx⟩ := S.obj
    refine ⟨_, pss_one (ps_ret (pe_cmpR op_lt (pv 1) (pe_callB call_len_seq (by rfl) B.len PySem.boot_len (pa_cons (pe_fld (pv 0) rfl) pa_nil)) (nomark _))), ?_⟩
    refine ⟨_, rfl, _, rfl, x, C, dx, _, _, rfl, hx, T.cl, T.nS, sF_spots sp, sp, iv t, rfl, .inl (.inl (.inl S.row)), _, _, rfl, rfl, ?_⟩
    have : decide ((i : Int) < ((iv t).length : Int)) = decide (i < t.length) := decide_eq_decide.mpr (by rw [iv_len]; omega)
    show Q (.bl (decide ((i : Int) < ((iv t).length : Int)))) H
    rw [this]
    exact q
def spIsPc (C : Addr) : Sp := fun vs H Q _ => ∃ (x sp : Addr) (t : List Nat) (i : Nat), vs = [.ref x, .int (i : Int)] ∧ SesAt C H x sp t ∧ Q (.bl (decide (i + 1 < t.length))) H
theorem ok_ispc {f : Addr} {fd : FuncData} {k : Nat} (F : Fun K "is_piece" "Session.is_piece" mIsPc f fd) (T : Tx K mg C) (L : Ln K mg) : FnOk P w K mg base CX0 (k + 2) f fd ["self", "piece"] (spIsPc C) := by
  have GP : FnOk P w K mg base CX0 (k + 1) L.fP L.fdP ["spots"] (spPc K) := ok_pc L.DP.F L.B
  refine F.ok scIsPc (fun vs H Q E h => ?_) (fun cdv A outer s H vs Q E hr h => ?_)
  · obtain ⟨x, sp, t, i, rfl, _⟩ := h
    rfl
  · obtain ⟨x, sp, t, i, rfl, S, q⟩ := h
    obtain ⟨dx, hx⟩ := S.obj
    refine ⟨_, pss_one (ps_ret (pe_cmpR op_lt (pv 1) (pe_call GP hr (by rfl) L.DP.g L.DP.F.kp L.DP.b .nil pass0 (pa_cons (pe_fld (pv 0) rfl) pa_nil)) (nomark _))), ?_⟩
    refine ⟨_, rfl, _, rfl, x, C, dx, _, _, rfl, hx, T.cl, T.nS, sF_spots sp, sp, iv t, rfl, .inl (.inl S.row), _, _, rfl, rfl, ?_⟩
    have : decide ((i : Int) < ((iv t).length : Int) - 1) = decide (i + 1 < t.length) := decide_eq_decide.mpr (by rw [iv_len]; omega)
    show Q (.bl (decide ((i : Int) < ((iv t).length : Int) - 1))) H
    rw [this]
    exact q

/-! ### begin -/
def aBeg (t : List Nat) (n : Nat) : List Nat × List Int := if n < 1 ∨ 6 < n then (t, [-22]) else (List.range (n + 1), [0])
def spBeg (C : Addr) : Sp := fun vs H Q _ => ∃ (x sp : Addr) (t : List Nat) (n : Nat), vs = [.ref x, .int (n : Int)] ∧ SesAt C H x sp t ∧ Out C x sp H Q (aBeg t n)
theorem ok_beg {f fU : Addr} {fd fdU : FuncData} {k : Nat} (F : Fun K "begin" "Session.begin" mBeg f fd) (T : Tx K mg C) (B : Bi mg) (DU : Df K mg "unfolded" sUnf ["pieces"] fU fdU) : FnOk P w K mg base CX0 (k + 2) f fd ["self", "pieces"] (spBeg C) := by
  have GU : FnOk P w K mg base CX0 (k + 1) fU fdU ["pieces"] spUnf := ok_unf DU.F B
  obtain ⟨t22, g22⟩ := T.c22
  obtain ⟨tmp, gmp⟩ := T.mp
  refine F.ok scBeg (fun vs H Q E h => ?_) (fun cdv A outer s H vs Q E hr h => ?_)
  · obtain ⟨x, sp, t, i, rfl, _⟩ := h
    rfl
  · obtain ⟨x, sp, t, n, rfl, S, q⟩ := h
    obtain ⟨dx, hx⟩ := S.obj
    refine ⟨_, pss_cons (ps_if (PW.pt (pw_or (pt_cmpR op_lt (pv 1) pe_int (nomark _)) (pw_or1 (pt_cmpR op_gt (pv 1) (pe_glob (v := .int 6) (by rfl) gmp ⟨_, rfl⟩) (nomark _)))))
        (pss_one (ps_ret (pe_lst (pa_cons (pe_glob (v := .int (-22)) (by rfl) g22 ⟨_, rfl⟩) pa_nil)))) pss_nil)
      (pss_cons (ps_fld (pv 0) (pe_call GU hr (by rfl) DU.g DU.F.kp DU.b .nil pass0 (pa_cons (pv 1) pa_nil)) rfl)
      (pss_one (ps_ret (pe_lst (pa_cons pe_int pa_nil))))), ?_⟩
    have bad : (n < 1 ∨ 6 < n) → (1 ≤ sizeLine ∧ ∀ p, H p = none → Q (.ref p) (upd H p (.lst [.int (-22)]))) := fun hb => by
      refine ⟨by decide, fun p hp => ?_⟩
      unfold aBeg at q
      rw [if_pos hb] at q
      exact q.still S (same_upd hp) hp upd_same
    refine ⟨_, rfl, _, _, rfl, rfl, _, rfl, ite2 (fun e => iteT ?_) (fun e => ?_)⟩
    · exact bad (.inl (by have := of_decide_eq_true e; omega))
    · have e1 : ¬ n < 1 := fun z => e (decide_eq_true (by omega))
      refine ⟨_, rfl, _, _, rfl, rfl, _, rfl, ite2 (fun e2 => ?_) (fun e2 => ?_)⟩
      · exact bad (.inr (by have := of_decide_eq_true e2; omega))
      · have e3 : ¬ 6 < n := fun z => e2 (decide_eq_true (by omega))
        refine ⟨_, rfl, n, rfl, by omega, fun p hp => ?_⟩
        have xp : x ≠ p := ne_of_none hx hp
        refine ⟨_, rfl, x, C, dx, _, rfl, by rw [upd_ne xp]; exact hx, T.cl, T.nS, (by show 1 < 1000; decide), ?_⟩
        refine ⟨by decide, fun r hr' => ?_⟩
        unfold aBeg at q
        rw [if_neg (by omega)] at q
        have rx : r ≠ x := fun z => by rw [z, upd_same] at hr'; cases hr'
        have rp : r ≠ p := fun z => by rw [z, upd_ne (Ne.symm xp), upd_same] at hr'; cases hr'
        have hrH : H r = none := by rw [upd_ne rx, upd_ne rp] at hr'; exact hr'
        refine q _ p r ⟨⟨dx, ?_⟩, ?_⟩ (.inr hp) (fun b o e hb1 hb2 => ?_) hrH upd_same
        · rw [upd_ne (Ne.symm rx), upd_same, sF_put]
        · rw [upd_ne (Ne.symm rp), upd_ne (Ne.symm xp), upd_same]
        · rw [upd_ne (ne_of_none e hrH), upd_ne hb1, upd_ne (ne_of_none e hp)]
          exact e

/-! ### set -/
def aPut (t : List Nat) (i v : Nat) : List Nat × List Int := if t.length ≤ i then (t, [-2]) else if t.length ≤ v then (t, [-22]) else (t.set i v, [((t.getD i 0 : Nat) : Int)])
def spPut (C : Addr) : Sp := fun vs H Q _ => ∃ (x sp : Addr) (t : List Nat) (i v : Nat), vs = [.ref x, .int (i : Int), .int (v : Int)] ∧ SesAt C H x sp t ∧ Out C x sp H Q (aPut t i v)
theorem ok_put {f fI : Addr} {fd fdI : FuncData} {k : Nat} (F : Fun K "put_point" "Session.put_point" mPut f fd) (T : Tx K mg C) (B : Bi mg) (MI : Mt K C "is_point" "Session.is_point" mIsPt ["self", "point"] fI fdI) : FnOk P w K mg base CX0 (k + 2) f fd ["self", "point", "spot"] (spPut C) := by
  have GI : FnOk P w K mg base CX0 (k + 1) fI fdI ["self", "point"] (spIsPt C) := ok_ispt MI.F T B
  obtain ⟨t2, g2⟩ := T.c2
  obtain ⟨t22, g22⟩ := T.c22
  refine F.ok scPut (fun vs H Q E h => ?_) (fun cdv A outer s H vs Q E hr h => ?_)
  · obtain ⟨x, sp, t, i, v, rfl, _⟩ := h
    rfl
  · obtain ⟨x, sp, t, i, v, rfl, S, q⟩ := h
    obtain ⟨dx, hx⟩ := S.obj
    refine ⟨_, pss_cons (ps_if (pt_not (pt_val (pe_meth (pv 0) T.cl MI.m GI hr MI.b .nil pass0 (pa_cons (pv 1) pa_nil)))) (pss_one (ps_ret (pe_lst (pa_cons (pe_glob (v := .int (-2)) (by rfl) g2 ⟨_, rfl⟩) pa_nil)))) pss_nil)
      (pss_cons (ps_if (pt_not (pt_val (pe_meth (pv 0) T.cl MI.m GI hr MI.b .nil pass0 (pa_cons (pv 2) pa_nil)))) (pss_one (ps_ret (pe_lst (pa_cons (pe_glob (v := .int (-22)) (by rfl) g22 ⟨_, rfl⟩) pa_nil)))) pss_nil)
      (pss_cons (ps_set (i := 3) scPut.nd rfl (.inl rfl) (pe_ix ix_list (pe_fld (pv 0) rfl) (pv 1) (fun _ _ => rfl)))
      (pss_cons (ps_asg (pv 2) (pg_sub (pe_fld (pv 0) rfl) (pv 1) set_list))
      (pss_one (ps_ret (pe_lst (pa_cons (pv 3) pa_nil))))))), ?_⟩
    have nI : (sF sp).lookup ("is_point" : Str) = none := sF_no sp (by decide +kernel)
    refine ⟨_, rfl, x, dx, _, rfl, hx, nI, _, rfl, x, sp, t, i, rfl, S, _, rfl, ite2 (fun e => ?_) (fun e => ?_)⟩
    · have e1 : ¬ i < t.length := fun z => by rw [decide_eq_true z] at e; cases e
      refine ⟨by decide, fun p hp => ?_⟩
      unfold aPut at q
      rw [if_pos (by omega)] at q
      exact q.still S (same_upd hp) hp upd_same
    · have e1 : i < t.length := Classical.byContradiction fun z => e (by rw [decide_eq_false z]; rfl)
      refine ⟨_, rfl, x, dx, _, rfl, hx, nI, _, rfl, x, sp, t, v, rfl, S, _, rfl, ite2 (fun e => ?_) (fun e => ?_)⟩
      · have e2 : ¬ v < t.length := fun z => by rw [decide_eq_true z] at e; cases e
        refine ⟨by decide, fun p hp => ?_⟩
        unfold aPut at q
        rw [if_neg (by omega), if_pos (by omega)] at q
        exact q.still S (same_upd hp) hp upd_same
      · have e2 : v < t.length := Classical.byContradiction fun z => e (by rw [decide_eq_false z]; rfl)
        unfold aPut at q
        rw [if_neg (by omega), if_neg (by omega)] at q
        refine ⟨_, rfl, x, C, dx, _, _, rfl, hx, T.cl, T.nS, sF_spots sp, _, rfl, sp, _, _, _, rfl, rfl, .inl (.inl S.row), atI_nat (iv_get (get_some e1)), ?_⟩
        refine ⟨_, rfl, _, rfl, x, C, dx, _, _, rfl, hx, T.cl, T.nS, sF_spots sp, _, rfl, sp, _, _, i, rfl, rfl, S.row, by rw [iv_len]; exact ixN_nat e1, ?_⟩
        refine ⟨_, rfl, one_le _, fun p hp => ?_⟩
        have xs : x ≠ sp := S.ne
        have ps : p ≠ sp := fun z => by rw [z, upd_same] at hp; cases hp
        have hpH : H p = none := by rw [upd_ne ps] at hp; exact hp
        have px : p ≠ x := Ne.symm (ne_of_none hx hpH)
        refine q _ sp p ⟨⟨dx, ?_⟩, ?_⟩ (.inl rfl) (fun b o e hb1 hb2 => ?_) hpH upd_same
        · rw [upd_ne (Ne.symm px), upd_ne xs]; exact hx
        · rw [upd_ne (Ne.symm ps), upd_same, iv_set]
        · rw [upd_ne (ne_of_none e hpH), upd_ne hb2]; exact e

/-! ### turn -/
def aTur (t : List Nat) : List Nat × List Int := (trn t, [0])
def spTurn (C : Addr) : Sp := fun vs H Q _ => ∃ (x sp : Addr) (t : List Nat), vs = [.ref x] ∧ SesAt C H x sp t ∧ Pts t ∧ Out C x sp H Q (aTur t)
theorem ok_turn {f fT : Addr} {fd fdT : FuncData} {k : Nat} (F : Fun K "turn" "Session.turn" mTur f fd) (T : Tx K mg C) (B : Bi mg) (DT : Df K mg "turned" sTur ["spots"] fT fdT) : FnOk P w K mg base CX0 (k + 2) f fd ["self"] (spTurn C) := by
  have GT : FnOk P w K mg base CX0 (k + 1) fT fdT ["spots"] (spTur K) := ok_tur DT.F B
  refine F.ok scTurn (fun vs H Q E h => ?_) (fun cdv A outer s H vs Q E hr h => ?_)
  · obtain ⟨x, sp, t, rfl, _⟩ := h
    rfl
  · obtain ⟨x, sp, t, rfl, S, ht, q⟩ := h
    obtain ⟨dx, hx⟩ := S.obj
    refine ⟨_, pss_cons (ps_fld (pv 0) (pe_call GT hr (by rfl) DT.g DT.F.kp DT.b .nil pass0 (pa_cons (pe_fld (pv 0) rfl) pa_nil)) rfl) (pss_one (ps_ret (pe_lst (pa_cons pe_int pa_nil)))), ?_⟩
    refine ⟨_, rfl, x, C, dx, _, _, rfl, hx, T.cl, T.nS, sF_spots sp, sp, t, rfl, .inl (.inl S.row), ht.hi, ht.top, fun p H1 s1 np hp => ?_⟩
    have xp : x ≠ p := ne_of_none hx np
    refine ⟨_, rfl, x, C, dx, _, rfl, s1 _ _ hx, T.cl, T.nS, (by show 1 < 1000; decide), ?_⟩
    refine ⟨by decide, fun r hr' => ?_⟩
    have rx : r ≠ x := fun z => by rw [z, upd_same] at hr'; cases hr'
    have hr1 : H1 r = none := by rw [upd_ne rx] at hr'; exact hr'
    have rp : r ≠ p := Ne.symm (ne_of_none hp hr1)
    have hrH : H r = none := s1.free hr1
    refine q _ p r ⟨⟨dx, ?_⟩, ?_⟩ (.inr np) (fun b o e hb1 hb2 => ?_) hrH upd_same
    · rw [upd_ne (Ne.symm rx), upd_same, sF_put]
    · rw [upd_ne (Ne.symm rp), upd_ne (Ne.symm xp)]; exact hp
    · rw [upd_ne (ne_of_none e hrH), upd_ne hb1]
      exact s1 _ _ e

/-! ### state -/
def aSta (t : List Nat) : List Nat × List Int := (t, ((t.length : Int) - 1) :: t.map fun (x : Nat) => (x : Int))
def spSta (C : Addr) : Sp := fun vs H Q _ => ∃ (x sp : Addr) (t : List Nat), vs = [.ref x] ∧ SesAt C H x sp t ∧ Pts t ∧ Out C x sp H Q (aSta t)
theorem ok_sta {f : Addr} {fd : FuncData} {k : Nat} (F : Fun K "state" "Session.state" mSta f fd) (T : Tx K mg C) (L : Ln K mg) : FnOk P w K mg base CX0 (k + 2) f fd ["self"] (spSta C) := by
  have GP : FnOk P w K mg base CX0 (k + 1) L.fP L.fdP ["spots"] (spPc K) := ok_pc L.DP.F L.B
  refine F.ok scSta (fun vs H Q E h => ?_) (fun cdv A outer s H vs Q E hr h => ?_)
  · obtain ⟨x, sp, t, rfl, _⟩ := h
    rfl
  · obtain ⟨x, sp, t, rfl, S, ht, q⟩ := h
    obtain ⟨dx, hx⟩ := S.obj
    refine ⟨_, pss_one (ps_ret (pe_op op_cat (pe_lst (pa_cons (pe_call GP hr (by rfl) L.DP.g L.DP.F.kp L.DP.b .nil pass0 (pa_cons (pe_fld (pv 0) rfl) pa_nil)) pa_nil)) (pe_fld (pv 0) rfl))), ?_⟩
    refine ⟨_, rfl, x, C, dx, _, _, rfl, hx, T.cl, T.nS, sF_spots sp, sp, iv t, rfl, .inl (.inl S.row), one_le _, fun z hz => ?_⟩
    have s1 : Same H (upd H z (.lst [.int (((iv t).length : Int) - 1)])) := same_upd hz
    refine ⟨_, rfl, x, C, dx, _, _, rfl, s1 _ _ hx, T.cl, T.nS, sF_spots sp, z, sp, _, _, rfl, rfl, upd_same, s1 _ _ S.row, ?_, fun p hp => ?_⟩
    · rw [iv_len]
      have := ht.hi
      show 1 + t.length ≤ 2 ^ 24
      omega
    · refine q.still S (s1.trans (same_upd hp)) (s1.free hp) ?_
      rw [upd_same, iv_len, iv_ints]
      rfl

/-! ### has -/
def aHas (t : List Nat) (k : Nat) : List Nat × List Int := (t, if k < 1 ∨ 6 < k then [-22] else [if hrN t k = true then 1 else 0])
def spHas (C : Addr) : Sp := fun vs H Q _ => ∃ (x sp : Addr) (t : List Nat) (n : Nat), vs = [.ref x, .int (n : Int)] ∧ SesAt C H x sp t ∧ Pts t ∧ Out C x sp H Q (aHas t n)
theorem ok_has {f fH : Addr} {fd fdH : FuncData} (F : Fun K "has" "Session.has" mHas f fd) (T : Tx K mg C) (L : Ln K mg) (DH : Df K mg "has_round" sHr ["spots", "steps"] fH fdH) : FnOk P w K mg base CX0 13 f fd ["self", "steps"] (spHas C) := by
  have GH : FnOk P w K mg base CX0 12 fH fdH ["spots", "steps"] (spHr K) := ok_hr (k := 0) L DH.F
  obtain ⟨t22, g22⟩ := T.c22
  obtain ⟨tmr, gmr⟩ := T.mr
  refine F.ok scHas (fun vs H Q E h => ?_) (fun cdv A outer s H vs Q E hr h => ?_)
  · obtain ⟨x, sp, t, n, rfl, _⟩ := h
    rfl
  · obtain ⟨x, sp, t, n, rfl, S, ht, q⟩ := h
    obtain ⟨dx, hx⟩ := S.obj
    refine ⟨_, pss_cons (ps_if (PW.pt (pw_or (pt_cmpR op_lt (pv 1) pe_int (nomark _)) (pw_or1 (pt_cmpR op_gt (pv 1) (pe_glob (v := .int 6) (by rfl) gmr ⟨_, rfl⟩) (nomark _)))))
        (pss_one (ps_ret (pe_lst (pa_cons (pe_glob (v := .int (-22)) (by rfl) g22 ⟨_, rfl⟩) pa_nil)))) pss_nil)
      (pss_one (ps_ret (pe_lst (pa_cons (pe_ifExp (pt_val (pe_call GH hr (by rfl) DH.g DH.F.kp DH.b .nil pass0 (pa_cons (pe_fld (pv 0) rfl) (pa_cons (pv 1) pa_nil)))) pe_int pe_int) pa_nil)))), ?_⟩
    have bad : (n < 1 ∨ 6 < n) → (1 ≤ sizeLine ∧ ∀ p, H p = none → Q (.ref p) (upd H p (.lst [.int (-22)]))) := fun hb => by
      refine ⟨by decide, fun p hp => ?_⟩
      unfold aHas at q
      rw [if_pos hb] at q
      exact q.still S (same_upd hp) hp upd_same
    refine ⟨_, rfl, _, _, rfl, rfl, _, rfl, ite2 (fun e => iteT ?_) (fun e => ?_)⟩
    · exact bad (.inl (by have := of_decide_eq_true e; omega))
    · have e1 : ¬ n < 1 := fun z => e (decide_eq_true (by omega))
      refine ⟨_, rfl, _, _, rfl, rfl, _, rfl, ite2 (fun e2 => ?_) (fun e2 => ?_)⟩
      · exact bad (.inr (by have := of_decide_eq_true e2; omega))
      · have e3 : ¬ 6 < n := fun z => e2 (decide_eq_true (by omega))
        unfold aHas at q
        rw [if_neg (by omega)] at q
        refine ⟨_, rfl, x, C, dx, _, _, rfl, hx, T.cl, T.nS, sF_spots sp, _, rfl, sp, t, n, rfl, .inl (.inl S.row), ht, by omega, by omega, fun H1 s1 => ⟨_, rfl, ite2 (fun e => ?_) (fun e => ?_)⟩⟩
        · refine ⟨by decide, fun p hp => q.still S (s1.trans (same_upd hp)) (s1.free hp) ?_⟩
          rw [upd_same, if_pos e]
          rfl
        · refine ⟨by decide, fun p hp => q.still S (s1.trans (same_upd hp)) (s1.free hp) ?_⟩
          rw [upd_same, if_neg e]
          rfl

/-! ### length -/
def aLen (t : List Nat) (k : Nat) : List Nat × List Int := (t, if 30 < k then [-22] else [((lenN t k : Nat) : Int)])
def spLenM (C : Addr) : Sp := fun vs H Q _ => ∃ (x sp : Addr) (t : List Nat) (n : Nat), vs = [.ref x, .int (n : Int)] ∧ SesAt C H x sp t ∧ Pts t ∧ Out C x sp H Q (aLen t n)
theorem ok_lenm {f fL : Addr} {fd fdL : FuncData} {k : Nat} (F : Fun K "length" "Session.length" mLen f fd) (T : Tx K mg C) (L : Ln K mg) (DL : Df K mg "length_of" sLen ["spots", "steps"] fL fdL) : FnOk P w K mg base CX0 (k + 5) f fd ["self", "steps"] (spLenM C) := by
  have GL : FnOk P w K mg base CX0 (k + 4) fL fdL ["spots", "steps"] (spLen K) := ok_len DL.F L.B L.DW L.DP L.DO L.DC
  obtain ⟨t22, g22⟩ := T.c22
  obtain ⟨tms, gms⟩ := T.ms
  refine F.ok scLenM (fun vs H Q E h => ?_) (fun cdv A outer s H vs Q E hr h => ?_)
  · obtain ⟨x, sp, t, n, rfl, _⟩ := h
    rfl
  · obtain ⟨x, sp, t, n, rfl, S, ht, q⟩ := h
    obtain ⟨dx, hx⟩ := S.obj
    refine ⟨_, pss_cons (ps_if (pt_cmpR op_gt (pv 1) (pe_glob (v := .int 30) (by rfl) gms ⟨_, rfl⟩) (nomark _)) (pss_one (ps_ret (pe_lst (pa_cons (pe_glob (v := .int (-22)) (by rfl) g22 ⟨_, rfl⟩) pa_nil)))) pss_nil)
      (pss_one (ps_ret (pe_lst (pa_cons (pe_call GL hr (by rfl) DL.g DL.F.kp DL.b .nil pass0 (pa_cons (pe_fld (pv 0) rfl) (pa_cons (pv 1) pa_nil))) pa_nil)))), ?_⟩
    unfold aLen at q
    refine ⟨_, rfl, _, _, rfl, rfl, _, rfl, ite2 (fun e => ?_) (fun e => ?_)⟩
    · rw [if_pos (by have := of_decide_eq_true e; omega)] at q
      exact ⟨by decide, fun p hp => q.still S (same_upd hp) hp upd_same⟩
    · have e1 : ¬ 30 < n := fun z => e (decide_eq_true (by omega))
      rw [if_neg e1] at q
      refine ⟨_, rfl, x, C, dx, _, _, rfl, hx, T.cl, T.nS, sF_spots sp, _, rfl, sp, t, n, rfl, .inl (.inl S.row), ht, by omega, fun H1 s1 => ⟨one_le _, fun p hp => q.still S (s1.trans (same_upd hp)) (s1.free hp) upd_same⟩⟩

/-! ### ways -/
def aWay (t : List Nat) (i j k : Nat) : List Nat × List Int := (t, if t.length ≤ i + 1 ∨ t.length ≤ j + 1 then [-2] else if 30 < k then [-22] else [((wcN t i j k : Nat) : Int)])
def spWay (C : Addr) : Sp := fun vs H Q _ => ∃ (x sp : Addr) (t : List Nat) (i j n : Nat), vs = [.ref x, .int (i : Int), .int (j : Int), .int (n : Int)] ∧ SesAt C H x sp t ∧ Pts t ∧ Out C x sp H Q (aWay t i j n)
theorem ok_way {f fI : Addr} {fd fdI : FuncData} {k : Nat} (F : Fun K "ways" "Session.ways" mWay f fd) (T : Tx K mg C) (L : Ln K mg) (MI : Mt K C "is_piece" "Session.is_piece" mIsPc ["self", "piece"] fI fdI) : FnOk P w K mg base CX0 (k + 5) f fd ["self", "first", "last", "steps"] (spWay C) := by
  have GW : FnOk P w K mg base CX0 (k + 4) L.fWc L.fdWc ["spots", "first", "last", "steps"] (spWc K) := ok_wc L.DWc.F L.B L.DW L.DB L.DP L.DO L.DC
  have GI : FnOk P w K mg base CX0 (k + 4) fI fdI ["self", "piece"] (spIsPc C) := ok_ispc (k := k + 2) MI.F T L
  obtain ⟨t2, g2⟩ := T.c2
  obtain ⟨t22, g22⟩ := T.c22
  obtain ⟨tms, gms⟩ := T.ms
  refine F.ok scWay (fun vs H Q E h => ?_) (fun cdv A outer s H vs Q E hr h => ?_)
  · obtain ⟨x, sp, t, i, j, n, rfl, _⟩ := h
    rfl
  · obtain ⟨x, sp, t, i, j, n, rfl, S, ht, q⟩ := h
    obtain ⟨dx, hx⟩ := S.obj
    refine ⟨_, pss_cons (ps_if (PW.pt (pw_or (pt_not (pt_val (pe_meth (pv 0) T.cl MI.m GI hr MI.b .nil pass0 (pa_cons (pv 1) pa_nil)))) (pw_or1 (pt_not (pt_val (pe_meth (pv 0) T.cl MI.m GI hr MI.b .nil pass0 (pa_cons (pv 2) pa_nil)))))))
        (pss_one (ps_ret (pe_lst (pa_cons (pe_glob (v := .int (-2)) (by rfl) g2 ⟨_, rfl⟩) pa_nil)))) pss_nil)
      (pss_cons (ps_if (pt_cmpR op_gt (pv 3) (pe_glob (v := .int 30) (by rfl) gms ⟨_, rfl⟩) (nomark _)) (pss_one (ps_ret (pe_lst (pa_cons (pe_glob (v := .int (-22)) (by rfl) g22 ⟨_, rfl⟩) pa_nil)))) pss_nil)
      (pss_one (ps_ret (pe_lst (pa_cons (pe_call GW hr (by rfl) L.DWc.g L.DWc.F.kp L.DWc.b .nil pass0 (pa_cons (pe_fld (pv 0) rfl) (pa_cons (pv 1) (pa_cons (pv 2) (pa_cons (pv 3) pa_nil))))) pa_nil))))), ?_⟩
    have nI : (sF sp).lookup ("is_piece" : Str) = none := sF_no sp (by decide +kernel)
    unfold aWay at q
    have bad : (t.length ≤ i + 1 ∨ t.length ≤ j + 1) → (1 ≤ sizeLine ∧ ∀ p, H p = none → Q (.ref p) (upd H p (.lst [.int (-2)]))) := fun hb => by
      refine ⟨by decide, fun p hp => ?_⟩
      rw [if_pos hb] at q
      exact q.still S (same_upd hp) hp upd_same
    refine ⟨_, rfl, x, dx, _, rfl, hx, nI, _, rfl, x, sp, t, i, rfl, S, _, rfl, ite2 (fun e => iteT ?_) (fun e => ?_)⟩
    · refine bad (.inl ?_)
      have : ¬ i + 1 < t.length := fun z => by rw [decide_eq_true z] at e; cases e
      omega
    · have e1 : i + 1 < t.length := Classical.byContradiction fun z => e (by rw [decide_eq_false z]; rfl)
      refine ⟨_, rfl, x, dx, _, rfl, hx, nI, _, rfl, x, sp, t, j, rfl, S, _, rfl, ite2 (fun e => ?_) (fun e => ?_)⟩
      · refine bad (.inr ?_)
        have : ¬ j + 1 < t.length := fun z => by rw [decide_eq_true z] at e; cases e
        omega
      · have e2 : j + 1 < t.length := Classical.byContradiction fun z => e (by rw [decide_eq_false z]; rfl)
        rw [if_neg (by omega)] at q
        refine ⟨_, rfl, _, _, rfl, rfl, _, rfl, ite2 (fun e => ?_) (fun e => ?_)⟩
        · rw [if_pos (by have := of_decide_eq_true e; omega)] at q
          exact ⟨by decide, fun p hp => q.still S (same_upd hp) hp upd_same⟩
        · have e3 : ¬ 30 < n := fun z => e (decide_eq_true (by omega))
          rw [if_neg e3] at q
          exact ⟨_, rfl, x, C, dx, _, _, rfl, hx, T.cl, T.nS, sF_spots sp, _, rfl, _, rfl, _, rfl, sp, t, i, j, n, rfl, .inl (.inl S.row), ht, e1, e2, by omega, fun H1 s1 => ⟨one_le _, fun p hp => q.still S (s1.trans (same_upd hp)) (s1.free hp) upd_same⟩⟩

/-! ### row -/
def aRow (t l : List Nat) : List Nat × List Int := if l.length ≠ t.length ∨ l.any (fun v => decide (t.length ≤ v)) = true then (t, [-22]) else (l, [0])
def spRow (K : PySem.W.Frag) (C : Addr) : Sp := fun vs H Q _ => ∃ (x sp a : Addr) (t l : List Nat), vs = [.ref x, .ref a] ∧ SesAt C H x sp t ∧ H a = some (.lst (iv l)) ∧ a ≠ sp ∧ l.length ≤ 10 ∧ Out C x sp H Q (aRow t l)
theorem ok_row {f fI : Addr} {fd fdI : FuncData} {k : Nat} (F : Fun K "put_row" "Session.put_row" mRow f fd) (T : Tx K mg C) (B : Bi mg) (MI : Mt K C "is_point" "Session.is_point" mIsPt ["self", "point"] fI fdI) : FnOk P w K mg base CX0 (k + 2) f fd ["self", "points"] (spRow K C) := by
  have GI : FnOk P w K mg base CX0 (k + 1) fI fdI ["self", "point"] (spIsPt C) := ok_ispt MI.F T B
  obtain ⟨t22, g22⟩ := T.c22
  refine F.ok scRow (fun vs H Q E h => ?_) (fun cdv A outer s H vs Q E hr h => ?_)
  · obtain ⟨x, sp, a, t, l, rfl, _⟩ := h
    rfl
  · obtain ⟨x, sp, a, t, l, rfl, S, hA, asp, hl, q⟩ := h
    obtain ⟨dx, hx⟩ := S.obj
    refine ⟨_, pss_cons (ps_if (pt_cmpR op_ne (pe_callB call_len_seq (by rfl) B.len PySem.boot_len (pa_cons (pv 1) pa_nil)) (pe_callB call_len_seq (by rfl) B.len PySem.boot_len (pa_cons (pe_fld (pv 0) rfl) pa_nil)) (nomark _))
        (pss_one (ps_ret (pe_lst (pa_cons (pe_glob (v := .int (-22)) (by rfl) g22 ⟨_, rfl⟩) pa_nil)))) pss_nil)
      (pss_cons (ps_if (pt_not (pt_val (pe_callB (cr_all rfl) (by rfl) B.all (by decide +kernel) (pa_cons (pe_lc (own := [("point", 2)]) (g := gName 2) (tt := tYes) rfl scRow.nd (pi_list (pv 1)) (blkOk_by (own := [("point", 2)]) (N := ["self", "points", "point"]) (sc := defScope mRow) (by decide +kernel))
          (fun _ _ _ _ _ => pg_name (i := 2) scRow.nd rfl (.inl rfl)) (fun _ _ _ _ _ => pts_nil) (fun _ _ _ _ _ => pe_meth (pv 0) T.cl MI.m GI hr MI.b .nil pass0 (pa_cons (pv 2) pa_nil))) pa_nil))))
        (pss_one (ps_ret (pe_lst (pa_cons (pe_glob (v := .int (-22)) (by rfl) g22 ⟨_, rfl⟩) pa_nil)))) pss_nil)
      (pss_cons (ps_fld (pv 0) (pe_callTy call_list_of (by rfl) B.list (by decide +kernel) (pa_cons (pv 1) pa_nil)) rfl)
      (pss_one (ps_ret (pe_lst (pa_cons pe_int pa_nil)))))), ?_⟩
    have nI : (sF sp).lookup ("is_point" : Str) = none := sF_no sp (by decide +kernel)
    unfold aRow at q
    refine ⟨_, rfl, a, iv l, rfl, .inl (.inl (.inl hA)), _, rfl, x, C, dx, _, _, rfl, hx, T.cl, T.nS, sF_spots sp, sp, iv t, rfl, .inl (.inl (.inl S.row)), rfl, _, rfl, ite2 (fun e => ?_) (fun e => ?_)⟩
    · have e1 : l.length ≠ t.length := fun z => by
        rw [iv_len, iv_len, z] at e
        simp at e
      rw [if_pos (.inl e1)] at q
      exact ⟨by decide, fun p hp => q.still S (same_upd hp) hp upd_same⟩
    · have e1 : l.length = t.length := Classical.byContradiction fun z => e (by
        rw [iv_len, iv_len, decide_eq_false (fun y => z (by have := V.int.inj y; omega))]
        rfl)
      refine ⟨_, rfl, a, rfl, ⟨_, .inl (.inl hA)⟩, fun D hD => ?_⟩
      refine lc_list (K := K) (a := a) (xs := iv l) (fun i H' => Same H H' ∧ H' D = some (.lst (((l.take i).map fun v => decide (v < t.length)).map V.bl))) ⟨same_upd hD, upd_same⟩ (fun i H' _ h => .inl (.inl (h.1 _ _ hA))) ?_ ?_
      · rintro i y H1 hy ⟨s1, d1⟩
        have hi : i < l.length := by
          have := (List.getElem?_eq_some_iff.mp hy).1
          rwa [iv_len] at this
        obtain rfl : V.int ((l.getD i 0 : Nat) : Int) = y := Option.some.inj ((iv_get (get_some hi)).symm.trans hy)
        refine ⟨rfl, yesT ?_⟩
        refine ⟨_, rfl, x, dx, _, rfl, s1 _ _ hx, nI, _, rfl, x, sp, t, l.getD i 0, rfl, S.same s1, ?_⟩
        refine ⟨_, d1, ?_, same_set s1 hD, ?_⟩
        · rw [List.length_map, List.length_map, List.length_take]
          show _ < 2 ^ 24
          omega
        · rw [upd_same, List.take_add_one, get_some hi, List.map_append, List.map_append]
          rfl
      · rintro H1 ⟨s1, d1⟩
        rw [iv_len, List.take_length] at d1
        refine ⟨D, l.map fun v => decide (v < t.length), rfl, .inl (.inl d1), _, rfl, ?_⟩
        have ea : ((l.map fun v => decide (v < t.length)).all id) = !(l.any fun v => decide (t.length ≤ v)) := by
          rw [List.all_map, List.not_any_eq_all_not]
          congr 1
          funext v
          show decide (v < t.length) = !decide (t.length ≤ v)
          by_cases z : v < t.length
          · rw [decide_eq_true z, decide_eq_false (by omega)]; rfl
          · rw [decide_eq_false z, decide_eq_true (by omega)]; rfl
        refine ite2 (fun e => ?_) (fun e => ?_)
        · rw [ea, Bool.not_not] at e
          rw [if_pos (.inr e)] at q
          exact ⟨by decide, fun p hp => q.still S (s1.trans (same_upd hp)) (s1.free hp) upd_same⟩
        · rw [ea, Bool.not_not] at e
          rw [if_neg (fun z => z.elim (fun y => y e1) e)] at q
          refine ⟨_, rfl, a, iv l, rfl, .inl (.inl (.inl (s1 _ _ hA))), fun p hp => ?_⟩
          have hx1 := s1 _ _ hx
          have xp : x ≠ p := ne_of_none hx1 hp
          refine ⟨_, rfl, x, C, dx, _, rfl, by rw [upd_ne xp]; exact hx1, T.cl, T.nS, (by show 1 < 1000; decide), ?_⟩
          refine ⟨by decide, fun r hr' => ?_⟩
          have rx : r ≠ x := fun z => by rw [z, upd_same] at hr'; cases hr'
          have rp : r ≠ p := fun z => by rw [z, upd_ne (Ne.symm xp), upd_same] at hr'; cases hr'
          have hr1 : H1 r = none := by rw [upd_ne rx, upd_ne rp] at hr'; exact hr'
          refine q _ p r ⟨⟨dx, ?_⟩, ?_⟩ (.inr (s1.free hp)) (fun b o e hb1 hb2 => ?_) (s1.free hr1) upd_same
          · rw [upd_ne (Ne.symm rx), upd_same, sF_put]
          · rw [upd_ne (Ne.symm rp), upd_ne (Ne.symm xp), upd_same]
          · have e' := s1 _ _ e
            rw [upd_ne (ne_of_none e' hr1), upd_ne hb1, upd_ne (ne_of_none e' hp)]
            exact e'
end
end FG
namespace FG
open PyProof.Rows L2 PySem PySem.Spec
abbrev sFa : Stmt := topS 59
abbrev sAc : Stmt := topS 60
abbrev sAns : Stmt := topS 61
theorem scFa : FnScope ["calls", "start"] ["calls", "start"] (defScope sFa) := ⟨rfl, rfl, rfl, by decide +kernel, rfl, by decide +kernel, by decide +kernel⟩
theorem scAc : FnScope ["calls", "start", "number"] ["calls", "start"] (defScope sAc) := ⟨rfl, rfl, rfl, by decide +kernel, rfl, by decide +kernel, by decide +kernel⟩
theorem scAns : FnScope ["calls", "session", "told", "start", "first", "behind", "answer"] ["calls"] (defScope sAns) := ⟨rfl, rfl, rfl, by decide +kernel, rfl, by decide +kernel, by decide +kernel⟩

/-- the object's state in the specification: none ahead of a begin -/
def st (t : List Nat) : Su186Neutral.S := if t = [] then none else some (gl t)
def Stt (t : List Nat) : Prop := t = [] ∨ Pts t
def OkArgs (p : Nat) (args : List Nat) : Prop := p < 16 ∧ (p ≠ 2 → args.length = cnt p) ∧ (p = 2 → args.length ≤ 10)
def spOne (K : PySem.W.Frag) (C : Addr) : Sp := fun vs H Q _ => ∃ (x sp a : Addr) (t : List Nat) (p : Nat) (args : List Nat), vs = [.ref x, .int (p : Int), .ref a] ∧ SesAt C H x sp t ∧ Stt t ∧ H a = some (.lst (iv args)) ∧ a ≠ sp ∧ OkArgs p args ∧
  (∀ t', Stt t' → st t' = (one (st t) p args).1 → Out C x sp H Q (t', (one (st t) p args).2))
/-- what the top has besides -/
structure Tm (K : PySem.W.Frag) (mg : Str → Option Value) : Prop where
  row : ∃ t, mg "ROW" = some (.int 2 t)
  ac : ∃ a, mg "ARGUMENT_COUNTS" = some (.ref a) ∧ ∀ H, SqT K H a (iv [1, 2, 0, 0, 0, 1, 1, 3, 4, 1, 0, 0, 0, 0, 1, 1])

theorem cut_iv {l : List Nat} {f n : Nat} (h : f + n ≤ l.length) : cutV (iv l) (some (f : Int)) (some ((f : Int) + (n : Int))) = iv ((l.drop f).take n) := by
  unfold cutV
  rw [show (f : Int) + (n : Int) = ((f + n : Nat) : Int) by omega, HT.sIx_nat, HT.sIx_nat, iv_len, Nat.min_eq_left h, Nat.min_eq_left (by omega), show f + n - f = n by omega]
  unfold iv
  rw [List.map_take]
  rw [List.map_drop]

section
variable {base : Heap} {mg : Str → Option Value} {K : PySem.W.Frag} {P : Program} {w : World} {C : Addr}
def fst_ (p i : Nat) : Nat := if p = 2 then i + 2 else i + 1
def spFa (K : PySem.W.Frag) : Sp := fun vs H Q _ => ∃ (a : Addr) (l : List Nat) (i p : Nat), vs = [.ref a, .int (i : Int)] ∧ SqL K H a (iv l) ∧ l[i]? = some p ∧ Q (.int ((fst_ p i : Nat) : Int)) H
theorem ok_fa {f : Addr} {fd : FuncData} {k : Nat} (F : Fun K "first_argument" "first_argument" sFa f fd) (T : Tm K mg) : FnOk P w K mg base CX0 (k + 1) f fd ["calls", "start"] (spFa K) := by
  obtain ⟨tr, gr⟩ := T.row
  refine F.ok scFa (fun vs H Q E h => ?_) (fun cdv A outer s H vs Q E hr h => ?_)
  · obtain ⟨a, l, i, p, rfl, _⟩ := h
    rfl
  · obtain ⟨a, l, i, p, rfl, hA, hp, q⟩ := h
    refine ⟨_, pss_one (ps_ret (pe_ifExp (pt_cmpR op_eq (pe_ix ix_list (pv 0) (pv 1) (fun _ _ => rfl)) (pe_glob (v := .int 2) (by rfl) gr ⟨_, rfl⟩) (nomark _)) (pe_op op_add (pv 1) pe_int) (pe_op op_add (pv 1) pe_int))), ?_⟩
    refine ⟨_, rfl, _, rfl, a, _, _, _, rfl, rfl, hA, atI_nat (iv_get hp), rfl, _, rfl, ite2 (fun e => ?_) (fun e => ?_)⟩
    · have e1 : p = 2 := by have := V.int.inj (of_decide_eq_true e); omega
      refine ⟨_, rfl, (_ : Int), _, rfl, rfl, ?_⟩
      unfold fst_ at q
      rw [if_pos e1] at q
      exact q
    · have e1 : ¬ p = 2 := fun z => e (by rw [z]; rfl)
      refine ⟨_, rfl, (_ : Int), _, rfl, rfl, ?_⟩
      unfold fst_ at q
      rw [if_neg e1] at q
      exact q
def spAc (K : PySem.W.Frag) : Sp := fun vs H Q _ => ∃ (a : Addr) (l : List Nat) (i p n : Nat), vs = [.ref a, .int (i : Int)] ∧ SqL K H a (iv l) ∧ l[i]? = some p ∧ p < 16 ∧ (p ≠ 2 → n = cnt p) ∧ (p = 2 → l[i + 1]? = some n) ∧ Q (.int (n : Int)) H
theorem ok_ac {f : Addr} {fd : FuncData} {k : Nat} (F : Fun K "argument_count" "argument_count" sAc f fd) (T : Tm K mg) : FnOk P w K mg base CX0 (k + 1) f fd ["calls", "start"] (spAc K) := by
  obtain ⟨tr, gr⟩ := T.row
  obtain ⟨aC, gC, hC⟩ := T.ac
  refine F.ok scAc (fun vs H Q E h => ?_) (fun cdv A outer s H vs Q E hr h => ?_)
  · obtain ⟨a, l, i, p, n, rfl, _⟩ := h
    rfl
  · obtain ⟨a, l, i, p, n, rfl, hA, hp, h16, h1, h2, q⟩ := h
    refine ⟨_, pss_cons (ps_set (i := 2) scAc.nd rfl (.inl rfl) (pe_ix ix_list (pv 0) (pv 1) (fun _ _ => rfl)))
      (pss_one (ps_ret (pe_ifExp (pt_cmpR op_eq (pv 2) (pe_glob (v := .int 2) (by rfl) gr ⟨_, rfl⟩) (nomark _)) (pe_ix ix_list (pv 0) (pe_op op_add (pv 1) pe_int) (fun _ _ => rfl)) (pe_ix ix_tup (pe_glob (v := .ref aC) (by rfl) gC rfl) (pv 2) (fun _ _ => rfl))))), ?_⟩
    refine ⟨_, rfl, _, rfl, a, _, _, _, rfl, rfl, hA, atI_nat (iv_get hp), _, rfl, rfl, _, rfl, ite2 (fun e => ?_) (fun e => ?_)⟩
    · have e1 : p = 2 := by have := V.int.inj (of_decide_eq_true e); omega
      refine ⟨_, rfl, _, rfl, _, _, rfl, rfl, a, _, _, _, rfl, rfl, hA, ?_, q⟩
      have := atI_nat (iv_get (h2 e1))
      rwa [Int.natCast_add] at this
    · have e1 : ¬ p = 2 := fun z => e (by rw [z]; rfl)
      refine ⟨_, rfl, aC, _, _, _, rfl, rfl, hC H, ?_, q⟩
      have g : ([1, 2, 0, 0, 0, 1, 1, 3, 4, 1, 0, 0, 0, 0, 1, 1] : List Nat)[p]? = some n := by
        rw [h1 e1]
        exact get_some h16
      exact atI_nat (iv_get g)
end
end FG
namespace FG
open PyProof.Rows L2 PySem PySem.Spec
abbrev mAns : Stmt := inClass sSes 19
section
variable {base : Heap} {mg : Str → Option Value} {K : PySem.W.Frag} {P : Program} {w : World} {C : Addr}
def spAll (K : PySem.W.Frag) : Sp := fun vs H Q _ => ∃ (a : Addr) (l : List Nat), vs = [.ref a] ∧ SqL K H a (iv l) ∧ PySu186.answers_asked (nums l) = true ∧ l.length ≤ 5600 ∧
  ∀ H' p, H' p = some (.lst ((PySu186.answers (nums l)).map V.int)) → Q (.ref p) H'
/-- what holds between two calls -/
def Turn (K : PySem.W.Frag) (C : Addr) (H0 : Hp) (a x o : Addr) (l : List Nat) (m : Nat) (σ : L2.St) (H : Hp) : Prop :=
  ∃ (i : Nat) (t : List Nat) (sp : Addr) (tl : List Int) (f : Nat) (raw : List (List (List Int))) (v4 v5 v6 : Option V), σ = [some (.ref a), some (.ref x), some (.ref o), some (.int (i : Int)), v4, v5, v6] ∧ m = l.length - i ∧ i ≤ l.length ∧
    SesAt C H x sp t ∧ Stt t ∧ H o = some (.lst (tl.map V.int)) ∧ o ≠ sp ∧ H0 x = none ∧ H0 sp = none ∧ H0 o = none ∧ Same H0 H ∧
    PyFlat.calls PySu186.shape f (nums (l.drop i)) = some raw ∧ PyInside.calls PySu186.bound raw = true ∧ tl ++ rest (st t) raw = PySu186.answers (nums l)
theorem ok_all {f fI fF fN fA : Addr} {fd fdI fdF fdN fdA : FuncData} {k : Nat} (F : Fun K "answers" "answers" sAns f fd) (T : Tx K mg C) (TM : Tm K mg) (B : Bi mg) (M : Mk K C fI) (FI : Fun K "__init__" "Session.__init__" mInit fI fdI) (bI : Binds K fdI ["self"] []) (gC : mg "Session" = some (.ref C))
    (DF : Df K mg "first_argument" sFa ["calls", "start"] fF fdF) (DN : Df K mg "argument_count" sAc ["calls", "start"] fN fdN) (MA : Mt K C "answer" "Session.answer" mAns ["self", "number", "arguments"] fA fdA)
    (GA : FnOk P w K mg base CX0 (k + 2) fA fdA ["self", "number", "arguments"] (spOne K C)) : FnOk P w K mg base CX0 (k + 3) f fd ["calls"] (spAll K) := by
  have GI : FnOk P w K mg base CX0 (k + 1) fI fdI ["self"] (spInit C) := ok_init FI T
  have GF : FnOk P w K mg base CX0 (k + 2) fF fdF ["calls", "start"] (spFa K) := ok_fa DF.F TM
  have GN : FnOk P w K mg base CX0 (k + 2) fN fdN ["calls", "start"] (spAc K) := ok_ac DN.F TM
  refine F.ok scAns (fun vs H Q E h => ?_) (fun cdv A outer s H vs Q E hr h => ?_)
  · obtain ⟨a, l, rfl, _⟩ := h
    rfl
  · obtain ⟨a, l, rfl, hA, hask, hlen, q⟩ := h
    refine ⟨_, pss_cons (ps_set (i := 1) scAns.nd rfl (.inl rfl) (pe_make0 M GI hr rfl gC bI .nil pass0))
      (pss_cons (ps_set (i := 2) scAns.nd rfl (.inl rfl) (pe_lst pa_nil))
      (pss_cons (ps_set (i := 3) scAns.nd rfl (.inl rfl) pe_int)
      (pss_cons (ps_while PassesOwn.never (pt_cmpR op_lt (pv 3) (pe_callB call_len_seq (by rfl) B.len PySem.boot_len (pa_cons (pv 0) pa_nil)) (nomark _))
        (pss_cons (ps_set (i := 4) scAns.nd rfl (.inl rfl) (pe_call GF hr (by rfl) DF.g DF.F.kp DF.b .nil pass0 (pa_cons (pv 0) (pa_cons (pv 3) pa_nil))))
        (pss_cons (ps_set (i := 5) scAns.nd rfl (.inl rfl) (pe_op op_add (pv 4) (pe_call GN hr (by rfl) DN.g DN.F.kp DN.b .nil pass0 (pa_cons (pv 0) (pa_cons (pv 3) pa_nil)))))
        (pss_cons (ps_set (i := 6) scAns.nd rfl (.inl rfl) (pe_meth (pv 1) T.cl MA.m GA hr MA.b .nil pass0 (pa_cons (pe_ix ix_list (pv 0) (pv 3) (fun _ _ => rfl)) (pa_cons (pe_slice sl_list (pv 0) (po_some (pv 4)) (po_some (pv 5))) pa_nil))))
        (pss_cons (ps_expr (pe_bm PySem.F.plainAttrs_list PySem.F.slot_list_append PySem.F.type_list_append mt_append (pv 2) (pa_cons (pe_callB call_len_seq (by rfl) B.len PySem.boot_len (pa_cons (pv 6) pa_nil)) pa_nil)))
        (pss_cons (ps_expr (pe_bm PySem.F.plainAttrs_list PySem.F.slot_list_extend PySem.F.type_list_extend mt_extend (pv 2) (pa_cons (pv 6) pa_nil)))
        (pss_one (ps_set (i := 3) scAns.nd rfl (.inl rfl) (pv 5)))))))))
      (pss_one (ps_ret (pv 2)))))), ?_⟩
    obtain ⟨raw0, c0, b0, a0, n0⟩ := begin_all hask
    -- session = Session()
    intro x dx nx ndx nex
    refine ⟨x, dx, rfl, upd_same, fun H1 sp S1 nsp kp => ⟨rfl, ?_⟩⟩
    have s1 : Same H H1 := .made nx ndx kp
    have nsp' : H sp = none := by
      by_cases e : sp = x
      · rw [e]; exact nx
      · by_cases e2 : sp = dx
        · rw [e2]; exact ndx
        · rw [upd_ne e, upd_ne e2] at nsp; exact nsp
    -- told = []
    refine ⟨by exact Nat.zero_le _, fun o no => ?_⟩
    have s2 := same_upd (o := .lst []) no
    have S2 := S1.same s2
    have no' : H o = none := s1.free no
    have osp : o ≠ sp := fun e => by rw [e, S1.row] at no; cases no
    -- the calls
    refine ⟨Turn K C H a x o l, ⟨l.length, 0, [], sp, [], _, raw0, none, none, none, rfl, by omega, by omega, S2, .inl rfl, upd_same, osp, nx, nsp', no', s1.trans s2, c0, b0, a0.symm⟩, ?_⟩
    rintro m σ H3 ⟨i, t, sp, tl, f, raw, v4, v5, v6, rfl, rfl, hi, S3, ht, o3, osp, nx, nsp, no, s3, hc, hb, ha⟩
    refine ⟨_, rfl, _, rfl, a, iv l, rfl, .inl (s3.seq hA), _, _, rfl, rfl, _, rfl, ite2 (fun e => ?_) (fun e => ?_)⟩
    · have e1 : i < l.length := by have := of_decide_eq_true e; rw [iv_len] at this; omega
      obtain ⟨p, args, f', raw', p16, hp, q1, q2, q3, q4, q5, q6, q7⟩ := next_call e1 hc hb
      have q7 := q7 (st t)
      refine ⟨fun σ' H' => ∃ m', m' < l.length - i ∧ Turn K C H a x o l m' σ' H', fun σ' H' h => h, ?_⟩
      -- first, behind
      refine ⟨_, rfl, _, rfl, a, l, i, p, rfl, s3.seq hA, hp, ?_⟩
      refine ⟨_, rfl, _, rfl, _, rfl, a, l, i, p, args.length, rfl, s3.seq hA, hp, p16, q1, fun z => (q2 z).1, _, _, rfl, rfl, ?_⟩
      -- answer
      obtain ⟨dx, hx⟩ := S3.obj
      have nA : (sF sp).lookup ("answer" : Str) = none := sF_no sp (by decide +kernel)
      refine ⟨_, rfl, x, dx, _, rfl, hx, nA, _, rfl, _, rfl, a, _, _, _, rfl, rfl, s3.seq hA, atI_nat (iv_get hp), _, rfl, _, rfl, _, rfl, _, rfl, _, rfl, a, _, rfl, s3.seq hA, fun b nb => ?_⟩
      have ecut : cutV (iv l) (some ((fst_ p i : Nat) : Int)) (some (((fst_ p i : Nat) : Int) + ((args.length : Nat) : Int))) = iv args := by
        rw [cut_iv (f := fst_ p i) (n := args.length) q4]
        exact congrArg iv q3
      rw [ecut]
      have s4 := same_upd (o := .lst (iv args)) nb
      have S4 := S3.same s4
      have bsp : b ≠ sp := Ne.symm (ne_of_none S3.row nb)
      refine ⟨x, sp, b, t, p, args, rfl, S4, ht, upd_same, bsp, ⟨p16, q1, fun z => (q2 z).2⟩, ?_⟩
      have o4 := s4 _ _ o3
      have s5 := s3.trans s4
      generalize (upd H3 b (.lst (iv args))) = H4 at S4 o4 s5 ⊢
      intro t' ht' et' H5 sp' r S5 hsp' fr nr hr5
      have ox : o ≠ x := fun z => by
        obtain ⟨d, e⟩ := S4.obj
        rw [z, e] at o4
        cases o4
      have o5 : H5 o = some (.lst (tl.map V.int)) := fr _ _ o4 ox osp
      have osp' : o ≠ sp' := by
        rcases hsp' with z | z
        · rw [z]; exact osp
        · exact ne_of_none o4 z
      have nsp5 : H sp' = none := by
        rcases hsp' with z | z
        · rw [z]; exact nsp
        · exact s5.free z
      have s6 : Same H H5 := fun b0 o0 e0 => fr _ _ (s5 _ _ e0) (ne_of_none e0 nx) (ne_of_none e0 nsp)
      have or : o ≠ r := ne_of_none o4 nr
      rw [← et'] at q7
      generalize (one (st t) p args).2 = ans at q7 hr5
      have hall : tl ++ ((ans.length : Int) :: (ans ++ rest (st t') raw')) = PySu186.answers (nums l) := by rw [← q7]; exact ha
      have hsz : tl.length + 1 + ans.length ≤ 10000000 := by
        have := congrArg List.length hall
        rw [List.length_append, List.length_cons, List.length_append] at this
        omega
      -- told.append(len(answer))
      refine ⟨_, rfl, .inl ⟨rfl, _, .inl (.inl o5)⟩, _, rfl, r, ans.map V.int, rfl, .inl (.inl (.inl hr5)), o, _, _, rfl, rfl, o5, ?_, ?_⟩
      · rw [List.length_map]
        show _ < 2 ^ 24
        omega
      -- told.extend(answer)
      refine ⟨_, rfl, .inl ⟨rfl, _, .inl (.inl upd_same)⟩, _, rfl, o, r, _, _, rfl, rfl, upd_same, by rw [upd_ne (Ne.symm or)]; exact hr5, ?_, ?_⟩
      · rw [List.length_append, List.length_map, List.length_map]
        show _ ≤ 2 ^ 24
        simp only [List.length_nil, List.length_cons]
        omega
      refine ⟨_, rfl, l.length - (fst_ p i + args.length), ?_, fst_ p i + args.length, t', sp', tl ++ (ans.length : Int) :: ans, f', raw', _, _, _, by rw [Int.natCast_add]; rfl, rfl, q4, ?_, ht', ?_, osp', nx, nsp5, no, ?_, q5, q6, ?_⟩
      · have : i + 1 ≤ fst_ p i := by unfold fst_; split <;> omega
        omega
      · refine ⟨?_, ?_⟩
        · obtain ⟨d5, e5⟩ := S5.obj
          exact ⟨d5, by rw [upd_ne (Ne.symm ox), upd_ne (Ne.symm ox)]; exact e5⟩
        · rw [upd_ne (Ne.symm osp'), upd_ne (Ne.symm osp')]
          exact S5.row
      · rw [upd_same, List.map_append, List.append_assoc, List.length_map]
        rfl
      · exact same_set (same_set s6 no) no
      · rw [List.append_assoc, List.cons_append]
        exact hall
    · have e1 : i = l.length := by
        have : ¬ (i : Int) < ((iv l).length : Int) := fun z => e (decide_eq_true z)
        rw [iv_len] at this
        omega
      subst e1
      rw [List.drop_length] at hc
      have := calls_nil hc
      subst this
      rw [rest_nil, List.append_nil] at ha
      subst ha
      exact ⟨_, rfl, q H3 o o3⟩
end
end FG
namespace FG
open PyProof.Rows L2 PySem PySem.Spec
/-! ### max(xs, default=d), of whole numbers -/
def rMaxD (K : PySem.W.Frag) : List V → List V → Hp → VK → Prop := fun vs zs H Q => ∃ (a : Addr) (ns : List Int) (d : Int), vs = [V.ref a] ∧ zs = [V.int d] ∧ SqL K H a (ns.map V.int) ∧ (ns = [] → Q (.int d) H) ∧ ∀ m, m ∈ ns → (∀ y, y ∈ ns → y ≤ m) → Q (.int m) H
theorem reads_ints {h : Heap} : ∀ {vs : List Value} {ns : List Int}, IntsAre vs ns → ∃ as, ReadsAll h vs (ns.map PyData.int) as
  | _, _, .nil => ⟨[], .nil⟩
  | _, _, .cons n t r => by
    obtain ⟨as, q⟩ := reads_ints (h := h) r
    exact ⟨_, .cons (.int n t) q⟩
theorem depth_ints : ∀ ns : List Int, PyData.depthAll (ns.map PyData.int) = 0
  | [] => rfl
  | n :: ns => by
    show max 0 (PyData.depthAll (ns.map PyData.int)) = 0
    rw [depth_ints ns]
    rfl
theorem foldmax_int : ∀ (l : List Int) (n : Int), (l.foldl max n = n ∨ l.foldl max n ∈ l) ∧ n ≤ l.foldl max n ∧ ∀ y ∈ l, y ≤ l.foldl max n
  | [], n => ⟨.inl rfl, Int.le_refl _, fun y h => by cases h⟩
  | x :: l, n => by
    obtain ⟨h1, h2, h3⟩ := foldmax_int l (max n x)
    rw [List.foldl_cons]
    refine ⟨?_, by omega, fun y hy => ?_⟩
    · rcases h1 with z | z
      · rw [z]
        by_cases h : x ≤ n
        · exact .inl (by omega)
        · right
          rw [show max n x = x by omega]
          exact List.mem_cons_self
      · exact .inr (List.mem_cons_of_mem _ z)
    · obtain rfl | hy := List.mem_cons.mp hy
      · omega
      · exact h3 y hy
theorem cr_maxD {X : Cx} (hc : X.calm = true) (hu : X.A.units + 1 < cLine) : CallRK X (.builtin "max") [Str.ofString "default"] (rMaxD X.K) := by
  intro pins s σ H args kws us ws Q I ra rk h
  obtain ⟨a, ns, d, rfl, rfl, hs, q0, q1⟩ := h
  obtain rfl := Vals.ref1 ra
  obtain ⟨wd, rfl, tk0, rfl⟩ := vals1 rk
  obtain ⟨its, rv, hl, -⟩ := I.list hs
  obtain ⟨as, hr⟩ := reads_ints (h := s.heap) rv.ints
  have hr' : ReadsAll s.heap its.toArray.toList (ns.map PyData.int) as := by simpa using hr
  refine PySem.W.max_list_default (I.ok.hd hc) hl.isList hr' ⟨fun x hx y hy => ?_, fun x hx => ?_⟩ (by rw [depth_ints]; exact hu) (fun hn h' tk hk => ?_) (fun y ys i v h' tk bs he hv hR hk => ?_)
  · obtain ⟨u, _, rfl⟩ := List.mem_map.mp hx
    obtain ⟨v, _, rfl⟩ := List.mem_map.mp hy
    rfl
  · obtain ⟨u, _, rfl⟩ := List.mem_map.mp hx
    intro z
    cases z
  · exact ⟨.int _, H, I.kept hk, ⟨_, rfl⟩, q0 (List.map_eq_nil_iff.mp hn)⟩
  · cases ns with
    | nil => cases he
    | cons n ns =>
      obtain ⟨e1, e2⟩ := List.cons.inj he
      subst e1
      subst e2
      rw [PySem.W.maxD_ints] at hR
      cases hR with
      | int _ t =>
        obtain ⟨f1, f2, f3⟩ := foldmax_int ns n
        refine ⟨.int _, H, I.kept hk, ⟨_, rfl⟩, q1 _ ?_ fun y hy => ?_⟩
        · rcases f1 with z | z
          · rw [z]; exact List.mem_cons_self
          · exact List.mem_cons_of_mem _ z
        · obtain rfl | hy := List.mem_cons.mp hy
          · exact f2
          · exact f3 y hy

/-! ### enumerate(xs, start=1) -/
def It1 (K : PySem.W.Frag) (a : Addr) : It :=
  ⟨fun i H => ∃ (xs : List V) (x : V), SqL K H a xs ∧ xs[i]? = some x, fun i H v H' => ∃ T x, v = .ref T ∧ H T = none ∧ H' = upd H T (.tup [.int (1 + (i : Int)), x]) ∧ ∀ xs, SqL K H a xs → xs[i]? = some x, fun i H => ∃ xs : List V, SqL K H a xs ∧ xs.length = i⟩
theorem turn_one {P : Program} {w : World} {K : PySem.W.Frag} {elts : List Expr} {kk : Nat} {tpos : Pos} (a en li : Addr) (n1 : en ≠ li) (n2 : a ≠ li) (n3 : en ≠ a) :
    L2.Turn P w K (.Tuple elts kk tpos) (It1 K a) [en, li] en (fun n h => (∃ was, IsEnum h en li (1 + (n : Int)) was) ∧ h.IsListIter li a n) where
  mem := List.mem_cons_self
  obj := fun n h stands b hb => by
    obtain ⟨⟨was, h1⟩, ob, h2, h3, h4⟩ := stands
    obtain z | hb := List.mem_cons.mp hb
    · rw [z]
      exact ⟨_, h1, fun v q => nomatch q⟩
    · exact ⟨ob, by rw [List.mem_singleton.mp hb]; exact h2, fun v q => by rw [h4] at q; cases q⟩
  keep := fun n h h' stands k => ⟨stands.1.elim fun was h1 => ⟨was, k en List.mem_cons_self _ h1⟩, stands.2.at fun o q => k li (List.mem_cons_of_mem _ List.mem_cons_self) o q⟩
  item := by
    intro Y e1 e2 e3 calm n pn sh st Hh Ex In apart stands more
    subst e1 e2 e3
    obtain ⟨⟨was, h1⟩, h2⟩ := stands
    obtain ⟨xs, x, hxs, hx⟩ := more
    obtain ⟨vs, rel, pl, _⟩ := In.list hxs
    obtain ⟨v, hv, rx⟩ := rel.get hx
    have sz1 := Heap.lt_size h1
    have sz2 : li < sh.heap.objs.size := h2.elim fun _ q => Heap.lt_size q.1
    have less : n < vs.toArray.size := by
      rw [List.size_toArray]
      exact (List.getElem?_eq_some_iff.mp hv).1
    have off : en ∉ [li, a] := by simp [n1, n3]
    refine wpAny_pyNext_enum_itemC (Draws.list (prog := Y.prog) (w := Y.w) (A := Y.A.in1) (In.ok.hd calm) li a n2 vs.toArray) h1 ⟨h2, pl.isList⟩ less n1 off fun y hp tk hy out on tup _ stay => ?_
    have same : y = v := by
      have hy : vs[n]? = some y := by simpa using hy
      exact Option.some.inj (hy.symm.trans hv)
    subst same
    refine ⟨_, rfl, wpAny_letOwnedTupleGo_enum (s := { sh with heap := hp, toks := tk + 1 }) out fun hq back but => ?_⟩
    generalize hP : V.int (1 + (n : Int)) = num
    have fresh : ObjOk Y.prog Y.w (upd Hh sh.heap.objs.size (.tup [num, x])) hq sh.heap.objs.size (.tup [num, x]) := by
      subst hP
      exact ⟨by show 2 ≤ sizeLine; decide, [.int (1 + (n : Int)) tk, y], .cons ⟨_, rfl⟩ (.cons rx .nil), ⟨_, (but.2 _ (Nat.ne_of_gt sz1)).trans tup, rfl, _, rfl⟩⟩
    have away : ∀ b, b ∉ [en, li] → b ≠ en ∧ b ≠ li := fun b hb => by
      refine ⟨fun z => hb ?_, fun z => hb ?_⟩
      · rw [z]; exact List.mem_cons_self
      · rw [z]; exact List.mem_cons_of_mem _ List.mem_cons_self
    have In2 := In.turnedNew (h' := hq) (t' := tk + 1) (ch := [en, li]) (fun b o hb q => (but.2 b (away b hb).1).trans (stay b o (away b hb).1 (away b hb).2 q)) apart (Nat.le_refl _) fresh
    refine ⟨.ref sh.heap.objs.size, _, In2, rfl, ⟨_, x, rfl, In.hok.fresh (Nat.le_refl _), by rw [hP], fun ys hys => by rw [In.list_inj hys hxs]; exact hx⟩, ⟨⟨y, ?_⟩, on.1.at fun o q => (but.2 li (Ne.symm n1)).trans q⟩, fun b hb => ?_⟩
    · rw [show (1 : Int) + ((n + 1 : Nat) : Int) = 1 + (n : Int) + 1 by omega]
      exact back
    · have below : b < sh.heap.objs.size := by
        obtain z | hb := List.mem_cons.mp hb
        · rw [z]; exact sz1
        · rw [List.mem_singleton.mp hb]; exact sz2
      rw [upd_ne (show b ≠ _ from Nat.ne_of_lt below)]
      exact (apart b hb).1
  done := by
    intro Y e1 e2 e3 calm n pn sh st Hh Ex In apart stands ends
    subst e1 e2 e3
    obtain ⟨⟨was, h1⟩, h2⟩ := stands
    obtain ⟨xs, hxs, hn⟩ := ends
    obtain ⟨vs, rel, pl, _⟩ := In.list hxs
    obtain ⟨c0, c1, _, c3, c4, c5⟩ := apart li (List.mem_cons_of_mem _ List.mem_cons_self)
    have hs : vs.toArray.size = n := by
      rw [List.size_toArray, ← hn]
      exact rel.length.symm
    subst hs
    exact wpAny_pyNext_enum_endD (Draws.list (prog := Y.prog) (w := Y.w) (A := Y.A.in1) (In.ok.hd calm) li a n2 vs.toArray) h1 ⟨h2, pl.isList⟩ fun h' but => ⟨rfl, In.turned (t' := sh.toks) (fun b o hb q => but b o hb q) c0 c1 c3 c4 c5⟩
  self := fun A n sh Q Ex stands h => stands.1.elim fun _ h1 => wpAny_pyIter_enum h1 h
theorem walk_one {K : PySem.W.Frag} {a : Addr} {xs : List V} : Walk (It1 K a) xs.length (fun H => SqL K H a xs) (YPair (fun i => some (.int (1 + (i : Int)))) (fun i => xs[i]?)) :=
  ⟨fun i _ hi q => ⟨xs, xs[i], q, by simp [hi]⟩, fun _ q => ⟨xs, q, rfl⟩, fun i H v H' _ q ⟨T, x, h1, h2, h3, h4⟩ => ⟨T, .int (1 + (i : Int)), x, h1, h2, h3, rfl, h4 xs q⟩⟩
section
variable {A : Around} {M : Model} {s : Shared} {E : Value → Shared → Prop}
/-- a built-in class called with keywords -/
theorem callWith_tyK {pos : Pos} {T : String} {args : List (Bool × Sem Value)} {kws : List (Option Str × Sem Value)} {Q : Value → Shared → Prop} (hp : args.any (·.1) = false) (hk : kws.any (·.1.isNone) = false)
    (h : wpAny M A (evalArgs (.type T) true args kws) (fun a s₁ => wpAny M A (call (.type T) a.pos a.kw) Q E s₁) E s) : wpAny M A (callWith pos (.type T) [] args kws) Q E s := by
  unfold callWith
  have tail : ∀ {t : Sem Value} {s2 : Shared}, wpAny M A t Q E s2 → wpAny M A (do let r ← t; holding [r] point; pure r) Q E s2 := fun z => wpAny_bind (wpAny_mono z (fun r s3 y => wpAny_bind (wpAny_holding (wpAny_point (wpAny_pure y)))) fun _ _ y => y)
  refine wpAny_bind (wpAny_holding (wpAny_mono h (fun a s2 z => wpAny_bind (wpAny_standAt ?_)) fun _ _ z => z))
  simp only [hp, hk, Bool.or_false]
  exact wpAny_bind (wpAny_pure (tail z))
end
def iOne (K : PySem.W.Frag) (ta tk : TA) : TI := fun σ H R => ta σ H fun vs H1 => tk σ H1 fun zs H2 => ∃ a xs, vs = [.ref a] ∧ zs = [.int 1] ∧ SqL K H2 a xs ∧ R (It1 K a) H2
theorem pi_one1 {X : Cx} {e : Expr} {kws : List Keyword} {ta tk : TA} {p pos tpos : Pos} {elts : List Expr} {kk : Nat} (hg : Gl X "enumerate") (hm : X.mg "enumerate" = none) (ha : PA X [e] ta) (hk : PK X kws tk)
    (he : backTo pos (starEach [e] X.env) = (false, eval e X.env) :: backTo pos (starEach [] X.env) := by rfl) (hpl : (backTo pos (starEach [e] X.env)).any (·.1) = false := by rfl)
    (hall : (backToKw pos (keywordEach kws X.env)).all (·.1.isSome) = true := by rfl) (hnone : (backToKw pos (keywordEach kws X.env)).any (·.1.isNone) = false := by rfl) (hks : (backToKw pos (keywordEach kws X.env)).filterMap (·.1) = [Str.ofString "start"] := by rfl) :
    PI X (.Tuple elts kk tpos) (.Call (.Name "enumerate" p) [e] kws pos) (iOne X.K ta tk) := by
  constructor
  intro pins s σ H R I h
  refine wpAny_Call_Name_kw (ld_blt I hg hm boot_enumerate (callWith_tyK hpl hnone ?_))
  have run := thn (ha.run pos pins s σ H _ I h) fun us s1 ⟨vs, H1, I1, r1, q1⟩ => thn (hk.run pos pins s1 σ H1 _ I1 q1) fun ws s2 ⟨zs, H2, I2, r2, q2⟩ => (show wpAny (model X.prog X.w) X.A (call (.type "enumerate") us ([Str.ofString "start"].zip ws)) (fun v s3 => wpAny (model X.prog X.w) X.A (pyIter v) (PIE X pins σ (.Tuple elts kk tpos) R) X.xe s3) X.xe s2 from by
    obtain ⟨a, xs, rfl, rfl, hq, q⟩ := q2
    obtain rfl := Vals.ref1 r1
    obtain ⟨wd, rfl, tk0, rfl⟩ := vals1 r2
    obtain ⟨vs, _, pl, _⟩ := I2.list hq
    have sz : a < s2.heap.objs.size := pl.isList.elim fun _ y => Heap.lt_size y.1
    refine enum_begins_start (begins_list a vs.toArray) pl.isList (by decide) (by decide) fun hp he on _ stay => wpAny_pyIter_enum he ?_
    refine ⟨s2.heap.objs.size + 1, [s2.heap.objs.size + 1, s2.heap.objs.size], _, _, H2, rfl, I2.kept (t' := s2.toks) stay, turn_one a (s2.heap.objs.size + 1) s2.heap.objs.size (Nat.succ_ne_self _) (Nat.ne_of_lt sz) (Nat.ne_of_gt (Nat.lt_succ_of_lt sz)), ⟨⟨.none, he⟩, ⟨_, on, rfl, rfl⟩⟩, fun b hb => ?_, q⟩
    have up : s2.heap.objs.size ≤ b := by
      obtain z | hb := List.mem_cons.mp hb
      · exact z ▸ Nat.le_succ _
      · exact Nat.le_of_eq (List.mem_singleton.mp hb).symm
    exact I2.fpOk up (I2.hok.fresh up))
  rw [he] at run ⊢
  refine evalArgs_kwB hall ?_
  rw [hks]
  exact run
end FG
namespace FG
open PyProof.Rows L2 PySem PySem.Spec
theorem scRe : FnScope ["spots", "start", "found", "waiting", "piece", "other"] ["spots", "start"] (defScope sRe) := ⟨rfl, rfl, rfl, by decide +kernel, rfl, by decide +kernel, by decide +kernel⟩
theorem scOl : FnScope ["spots", "piece"] ["spots", "piece"] (defScope sOl) := ⟨rfl, rfl, rfl, by decide +kernel, rfl, by decide +kernel, by decide +kernel⟩
theorem scRo : FnScope ["spots", "piece", "onward", "room", "other"] ["spots", "piece"] (defScope sRo) := ⟨rfl, rfl, rfl, by decide +kernel, rfl, by decide +kernel, by decide +kernel⟩
theorem scC2 : FnScope ["spots", "piece", "room", "other"] ["spots", "piece"] (defScope sC2) := ⟨rfl, rfl, rfl, by decide +kernel, rfl, by decide +kernel, by decide +kernel⟩
theorem scKi : FnScope ["spots", "piece"] ["spots"] (defScope sKi) := ⟨rfl, rfl, rfl, by decide +kernel, rfl, by decide +kernel, by decide +kernel⟩

theorem flat_iv (l : List Nat) : (iv l).all flatV = true := by
  rw [List.all_eq_true]
  intro x hx
  obtain ⟨y, _, rfl⟩ := List.mem_map.mp hx
  rfl
theorem inV_iv (j : Nat) (l : List Nat) : inV (.int (j : Int)) (iv l) = decide (j ∈ l) := by
  unfold inV iv
  rw [List.any_map, Bool.eq_iff_iff]
  rw [List.any_eq_true, decide_eq_true_eq]
  constructor
  · rintro ⟨x, hx, h⟩
    have h : decide ((x : Int) = (j : Int)) = true := h
    have : x = j := by have := of_decide_eq_true h; omega
    rw [← this]; exact hx
  · intro h
    refine ⟨j, h, ?_⟩
    show decide ((j : Int) = (j : Int)) = true
    exact decide_eq_true rfl
theorem iv_snoc (l : List Nat) (x : Nat) : iv l ++ [V.int (x : Int)] = iv (l ++ [x]) := by unfold iv; rw [List.map_append]; rfl
section
variable {base : Heap} {mg : Str → Option Value} {K : PySem.W.Frag} {P : Program} {w : World}
/-! ### reached -/
def spRe (K : PySem.W.Frag) : Sp := fun vs H Q _ => ∃ (a : Addr) (t : List Nat) (s : Nat), vs = [.ref a, .int (s : Int)] ∧ SqL K H a (iv t) ∧ Pts t ∧ s + 1 < t.length ∧
  ∀ p H' l, Same H H' → H p = none → H' p = some (.lst (iv l)) → (∀ j, j ∈ l ↔ j < (gl t).n ∧ Su186.leads (gl t) s j = true) → Q (.ref p) H'
theorem ok_re {k : Nat} (L : Ln K mg) : FnOk P w K mg base CX0 (k + 2) L.fRe L.fdRe ["spots", "start"] (spRe K) := by
  have B := L.B
  have GC : FnOk P w K mg base CX0 (k + 1) L.fC L.fdC ["spots", "piece"] (spCov K) := ok_cov L.DC.F B
  refine L.DRe.F.ok scRe (fun vs H Q E h => ?_) (fun cdv A outer s H vs Q E hr h => ?_)
  · obtain ⟨a, t, s, rfl, _⟩ := h
    rfl
  · obtain ⟨a, t, s0, rfl, hA, ht, hs, q⟩ := h
    refine ⟨_, (pss_cons (ps_set (i := 2) scRe.nd rfl (.inl rfl) (pe_lst pa_nil))
      (pss_cons (ps_set (i := 3) scRe.nd rfl (.inl rfl) (pe_lst (pa_cons (pv 1) pa_nil)))
      (pss_cons (ps_while PassesOwn.never (pt_cmpR op_gt ((pe_callB call_len_seq (by rfl) B.len PySem.boot_len (pa_cons (pv 3) pa_nil))) pe_int (nomark _))
        (pss_cons (ps_set (i := 4) scRe.nd rfl (.inl rfl) (pe_bm0 PySem.F.plainAttrs_list PySem.F.slot_list_pop PySem.F.type_list_pop mt_pop (pv 3))) (pss_one (ps_for PassesOwn.never rfl (pi_list ((pe_call GC hr (by rfl) L.DC.g L.DC.F.kp L.DC.b .nil pass0 (pa_cons (pv 0) (pa_cons (pv 4) pa_nil))))) ((pg_name (i := 5) scRe.nd rfl (.inl rfl)))
            (pss_one (ps_if (pt_cmpR op_notIn_seq (pv 5) (pv 2) (by rfl)) (pss_cons (ps_expr (pe_bm PySem.F.plainAttrs_list PySem.F.slot_list_append PySem.F.type_list_append mt_append (pv 2) (pa_cons (pv 5) pa_nil))) (pss_one (ps_expr (pe_bm PySem.F.plainAttrs_list PySem.F.slot_list_append PySem.F.type_list_append mt_append (pv 3) (pa_cons (pv 5) pa_nil))))) pss_nil)))))) (pss_one (ps_ret (pv 2)))))), ?_⟩
    have h1 := ht.lo
    have h2 := ht.hi
    have hN : (gl t).n = t.length - 1 := rfl
    refine ⟨Nat.zero_le _, fun fo nfo => ⟨_, rfl, by show 1 ≤ sizeLine; decide, fun wo nwo => ?_⟩⟩
    have s1 := same_upd (o := .lst []) nfo
    have nwoH : H wo = none := s1.free nwo
    have fw : fo ≠ wo := fun z => by rw [← z, upd_same] at nwo; cases nwo
    have s2 := s1.trans (same_upd (o := .lst [V.int (s0 : Int)]) nwo)
    have cntN : ∀ l : List Nat, l.Nodup → (∀ x ∈ l, x < (gl t).n ∧ Su186.leads (gl t) s0 x = true) → l.length ≤ (gl t).n := fun l hl hx => by
      have := HM.nodup_sub l (List.range (gl t).n) hl (fun x h => List.mem_range.mpr (hx x h).1)
      rwa [List.length_range] at this
    refine ⟨fun m σ H' => ∃ v4 v5 fd wt, σ = [some (.ref a), some (.int (s0 : Int)), some (.ref fo), some (.ref wo), v4, v5] ∧ Same H H' ∧ H' fo = some (.lst (iv fd)) ∧ H' wo = some (.lst (iv wt)) ∧ m = 2 * ((gl t).n - fd.length) + wt.length ∧ m ≤ 2 * (gl t).n + 1 ∧
      fd.Nodup ∧ (∀ x ∈ fd, x < (gl t).n ∧ Su186.leads (gl t) s0 x = true) ∧ (∀ x ∈ wt, x = s0 ∨ x ∈ fd) ∧ (∀ x, (x = s0 ∨ x ∈ fd) → x ∈ wt ∨ ∀ y, (gl t).covers x y = true → y ∈ fd), ⟨_, none, none, [], [s0], rfl, s2, ?_, upd_same, rfl, Nat.le_refl _, List.nodup_nil, fun x h => (by cases h), fun x h => .inl (List.mem_singleton.mp h), fun x h => ?_⟩, ?_⟩
    · rw [upd_ne fw]; exact upd_same
    · rcases h with h | h
      · exact .inl (by rw [h]; exact List.mem_singleton.mpr rfl)
      · cases h
    rintro m σ H3 ⟨v4, v5, fd, wt, rfl, s3, hf, hw, rfl, hbd, nd, so, wk, cl⟩
    refine ⟨_, rfl, wo, iv wt, rfl, .inl (.inl (.inl hw)), _, _, rfl, rfl, _, rfl, ite2 (fun e => ?_) (fun e => ?_)⟩
    · have hne : wt ≠ [] := fun z => by
        have := of_decide_eq_true e
        rw [z] at this
        simp at this
      obtain ⟨wt', x, rfl⟩ : ∃ wt' x, wt = wt' ++ [x] := ⟨wt.dropLast, wt.getLast hne, (List.dropLast_concat_getLast hne).symm⟩
      refine ⟨fun σ' H' => ∃ m', m' < 2 * ((gl t).n - fd.length) + (wt' ++ [x]).length ∧ ∃ v4 v5 fd wt, σ' = [some (.ref a), some (.int (s0 : Int)), some (.ref fo), some (.ref wo), v4, v5] ∧ Same H H' ∧ H' fo = some (.lst (iv fd)) ∧ H' wo = some (.lst (iv wt)) ∧ m' = 2 * ((gl t).n - fd.length) + wt.length ∧ m' ≤ 2 * (gl t).n + 1 ∧
        fd.Nodup ∧ (∀ x ∈ fd, x < (gl t).n ∧ Su186.leads (gl t) s0 x = true) ∧ (∀ x ∈ wt, x = s0 ∨ x ∈ fd) ∧ (∀ x, (x = s0 ∨ x ∈ fd) → x ∈ wt ∨ ∀ y, (gl t).covers x y = true → y ∈ fd), fun σ' H' h => h, ?_⟩
      have ew : iv (wt' ++ [x]) = iv wt' ++ [V.int (x : Int)] := (iv_snoc _ _).symm
      refine ⟨_, rfl, .inl ⟨rfl, _, .inl (.inl hw)⟩, wo, _, V.int (x : Int), rfl, rfl, hw, ?_, ?_⟩
      · rw [ew]; simp
      have ed : (iv (wt' ++ [x])).dropLast = iv wt' := by rw [ew]; simp
      rw [ed]
      have s4 : Same H (upd H3 wo (.lst (iv wt'))) := same_set s3 nwoH
      have hf4 : (upd H3 wo (.lst (iv wt'))) fo = some (.lst (iv fd)) := by rw [upd_ne fw]; exact hf
      have hw4 : (upd H3 wo (.lst (iv wt'))) wo = some (.lst (iv wt')) := upd_same
      generalize (upd H3 wo (.lst (iv wt'))) = H4 at s4 hf4 hw4 ⊢
      have hx : x = s0 ∨ x ∈ fd := wk x (List.mem_append_right _ (List.mem_singleton.mpr rfl))
      have hxn : x < (gl t).n := by
        rcases hx with z | z
        · rw [z]; omega
        · exact (so x z).1
      have hxl : ∀ y, y < (gl t).n → (gl t).covers x y = true → Su186.leads (gl t) s0 y = true := fun y hy hc => by
        have c := HM.leads_cov hxn hy hc
        rcases hx with z | z
        · rw [← z]; exact c
        · exact HM.leads_trans (by omega) hxn hy (so x z).2 c
      refine ⟨_, rfl, _, rfl, a, t, x, rfl, s4.seq hA, by omega, fun x hx => by have := ht.top x hx; omega, fun p np => ?_⟩
      have s5 := same_upd (o := .lst (iv (covL t x))) np
      have p5 : (upd H4 p (.lst (iv (covL t x)))) p = some (.lst (iv (covL t x))) := upd_same
      have hf5 := s5 _ _ hf4
      have hw5 := s5 _ _ hw4
      have s6 := s4.trans s5
      have fp : fo ≠ p := ne_of_none hf4 np
      have wp : wo ≠ p := ne_of_none hw4 np
      generalize (upd H4 p (.lst (iv (covL t x)))) = H5 at s5 p5 hf5 hw5 s6 ⊢
      refine ⟨p, rfl, ⟨_, .inl (.inl p5)⟩, for_list (K := K) (a := p) (xs := iv (covL t x)) (fun i σ H' => ∃ v5 fd2 wt2, σ = [some (.ref a), some (.int (s0 : Int)), some (.ref fo), some (.ref wo), some (.int (x : Int)), v5] ∧ Same H H' ∧ H' p = some (.lst (iv (covL t x))) ∧ H' fo = some (.lst (iv fd2)) ∧ H' wo = some (.lst (iv wt2)) ∧
        2 * ((gl t).n - fd2.length) + wt2.length ≤ 2 * ((gl t).n - fd.length) + wt'.length ∧ fd2.Nodup ∧ (∀ x ∈ fd2, x < (gl t).n ∧ Su186.leads (gl t) s0 x = true) ∧ (∀ x ∈ wt2, x = s0 ∨ x ∈ fd2) ∧ (∀ z, (z = s0 ∨ z ∈ fd2) → z ∈ wt2 ∨ z = x ∨ ∀ y, (gl t).covers z y = true → y ∈ fd2) ∧ (∀ y ∈ (covL t x).take i, y ∈ fd2)) ?_ (fun i σ H' _ ⟨_, _, _, _, _, hp', _⟩ => .inl (.inl hp')) ?_ ?_⟩
      · refine ⟨v5, fd, wt', rfl, s6, p5, hf5, hw5, Nat.le_refl _, nd, so, fun z hz => wk z (List.mem_append_left _ hz), fun z hz => ?_, fun y hy => (by rw [List.take_zero] at hy; cases hy)⟩
        rcases cl z hz with h | h
        · obtain h | h := List.mem_append.mp h
          · exact .inl h
          · exact .inr (.inl (List.mem_singleton.mp h))
        · exact .inr (.inr h)
      · rintro i y σ H6 hy ⟨v5, fd2, wt2, rfl, s7, p7, hf7, hw7, hm, nd2, so2, wk2, cl2, tk⟩
        have hi : i < (covL t x).length := by
          have := (List.getElem?_eq_some_iff.mp hy).1
          rwa [iv_len] at this
        have gc := get_some hi
        obtain rfl : V.int (((covL t x).getD i 0 : Nat) : Int) = y := Option.some.inj ((iv_get gc).symm.trans hy)
        have hmem := List.mem_of_getElem? gc
        have hyc : (gl t).covers x ((covL t x).getD i 0) = true := mem_cov.mp hmem
        have hyn : (covL t x).getD i 0 < (gl t).n := by have := cov_lt ht hmem; omega
        have htake : (covL t x).take (i + 1) = (covL t x).take i ++ [(covL t x).getD i 0] := by rw [List.take_add_one, gc]; rfl
        generalize (covL t x).getD i 0 = c at *
        refine ⟨_, rfl, _, rfl, fo, iv fd2, rfl, .inl (.inl (.inl hf7)), rfl, flat_iv _, _, rfl, ?_⟩
        rw [inV_iv]
        refine ite2 (fun e => ?_) (fun e => ?_)
        · have hc : c ∉ fd2 := fun z => by rw [decide_eq_true z] at e; cases e
          have nd3 : (fd2 ++ [c]).Nodup := List.nodup_append.mpr ⟨nd2, by simp, fun u hu v hv z => hc (by rw [← List.mem_singleton.mp hv, ← z]; exact hu)⟩
          have so3 : ∀ u ∈ fd2 ++ [c], u < (gl t).n ∧ Su186.leads (gl t) s0 u = true := fun u hu => by
            rcases List.mem_append.mp hu with h | h
            · exact so2 u h
            · rw [List.mem_singleton.mp h]; exact ⟨hyn, hxl c hyn hyc⟩
          have hlen := cntN _ nd3 so3
          rw [List.length_append] at hlen
          have hlen : fd2.length + 1 ≤ (gl t).n := hlen
          have hm1 := cntN _ nd so
          refine ⟨_, rfl, .inl ⟨rfl, _, .inl (.inl hf7)⟩, _, rfl, fo, _, _, rfl, rfl, hf7, ?_, ?_⟩
          · rw [iv_len]
            show _ < 2 ^ 24
            omega
          refine ⟨_, rfl, .inl ⟨rfl, _, .inl (.inl (by rw [upd_ne (Ne.symm fw)]; exact hw7))⟩, _, rfl, wo, _, _, rfl, rfl, by rw [upd_ne (Ne.symm fw)]; exact hw7, ?_, ?_⟩
          · rw [iv_len]
            rw [List.length_append] at hbd
            show _ < 2 ^ 24
            omega
          refine ⟨_, fd2 ++ [c], wt2 ++ [c], rfl, same_set (same_set s7 nfo) nwoH, ?_, ?_, ?_, ?_, nd3, so3, ?_, ?_, ?_⟩
          · rw [upd_ne (Ne.symm wp), upd_ne (Ne.symm fp)]; exact p7
          · rw [upd_ne fw, upd_same, iv_snoc]
          · rw [upd_same, iv_snoc]
          · rw [List.length_append, List.length_append]
            show 2 * ((gl t).n - (fd2.length + 1)) + (wt2.length + 1) ≤ _
            omega
          · intro z hz
            rcases List.mem_append.mp hz with h | h
            · rcases wk2 z h with h | h
              · exact .inl h
              · exact .inr (List.mem_append_left _ h)
            · exact .inr (List.mem_append_right _ h)
          · intro z hz
            by_cases e2 : z = c
            · exact .inl (List.mem_append_right _ (List.mem_singleton.mpr e2))
            · have hz' : z = s0 ∨ z ∈ fd2 := by
                rcases hz with h | h
                · exact .inl h
                · obtain h | h := List.mem_append.mp h
                  · exact .inr h
                  · exact absurd (List.mem_singleton.mp h) e2
              rcases cl2 z hz' with h | h | h
              · exact .inl (List.mem_append_left _ h)
              · exact .inr (.inl h)
              · exact .inr (.inr fun y hy => List.mem_append_left _ (h y hy))
          · intro y hy
            rw [htake] at hy
            rcases List.mem_append.mp hy with h | h
            · exact List.mem_append_left _ (tk y h)
            · exact List.mem_append_right _ h
        · have hc : c ∈ fd2 := Classical.byContradiction fun z => e (by rw [decide_eq_false z]; rfl)
          refine ⟨_, fd2, wt2, rfl, s7, p7, hf7, hw7, hm, nd2, so2, wk2, cl2, fun y hy => ?_⟩
          rw [htake] at hy
          rcases List.mem_append.mp hy with h | h
          · exact tk y h
          · rw [List.mem_singleton.mp h]; exact hc
      · rintro σ H6 ⟨v5, fd2, wt2, rfl, s7, p7, hf7, hw7, hm, nd2, so2, wk2, cl2, tk⟩
        rw [iv_len, List.take_length] at tk
        refine ⟨2 * ((gl t).n - fd2.length) + wt2.length, ?_, _, _, fd2, wt2, rfl, s7, hf7, hw7, rfl, by rw [List.length_append] at hbd; omega, nd2, so2, wk2, fun z hz => ?_⟩
        · rw [List.length_append]
          show _ < _ + (wt'.length + 1)
          omega
        · rcases cl2 z hz with h | h | h
          · exact .inl h
          · exact .inr fun y hy => tk y (mem_cov.mpr (by rw [← h]; exact hy))
          · exact .inr h
    · have hnil : wt = [] := by
        cases wt with
        | nil => rfl
        | cons x l => exact absurd (decide_eq_true (by simp)) e
      subst hnil
      refine ⟨_, rfl, q fo H3 fd s3 nfo hf (HM.reach_all (by omega) so fun x hx y hy hc => ?_)⟩
      rcases cl x hx with h | h
      · cases h
      · exact h y hc

/-! ### is_on_loop -/
def spOl (K : PySem.W.Frag) : Sp := fun vs H Q _ => ∃ (a : Addr) (t : List Nat) (i : Nat), vs = [.ref a, .int (i : Int)] ∧ SqL K H a (iv t) ∧ Pts t ∧ i + 1 < t.length ∧
  ∀ H', Same H H' → Q (.bl (Su186.leads (gl t) i i)) H'
theorem ok_ol {k : Nat} (L : Ln K mg) : FnOk P w K mg base CX0 (k + 3) L.fOl L.fdOl ["spots", "piece"] (spOl K) := by
  have B := L.B
  have GR : FnOk P w K mg base CX0 (k + 2) L.fRe L.fdRe ["spots", "start"] (spRe K) := ok_re L
  refine L.DOl.F.ok scOl (fun vs H Q E h => ?_) (fun cdv A outer s H vs Q E hr h => ?_)
  · obtain ⟨a, t, s, rfl, _⟩ := h
    rfl
  · obtain ⟨a, t, i, rfl, hA, ht, hi, q⟩ := h
    refine ⟨_, (pss_one (ps_ret (pe_cmpR op_in_seq (pv 1) ((pe_call GR hr (by rfl) L.DRe.g L.DRe.F.kp L.DRe.b .nil pass0 (pa_cons (pv 0) (pa_cons (pv 1) pa_nil)))) (by rfl)))), ?_⟩
    refine ⟨_, rfl, _, rfl, _, rfl, a, t, i, rfl, hA, ht, hi, fun p H1 l s1 np hp hl => ?_⟩
    refine ⟨p, iv l, rfl, .inl (.inl (.inl hp)), rfl, flat_iv _, ?_⟩
    have : (if false = true then !inV (V.int (i : Int)) (iv l) else inV (V.int (i : Int)) (iv l)) = Su186.leads (gl t) i i := by
      show inV (V.int (i : Int)) (iv l) = _
      rw [inV_iv, Bool.eq_iff_iff, decide_eq_true_eq, hl]
      have : i < (gl t).n := by show i < t.length - 1; omega
      exact ⟨fun z => z.2, fun z => ⟨this, z⟩⟩
    rw [this]
    exact q H1 s1

/-! ### room_of -/
def spRo (K : PySem.W.Frag) : Sp := fun vs H Q _ => ∃ (a : Addr) (t : List Nat) (i : Nat), vs = [.ref a, .int (i : Int)] ∧ SqL K H a (iv t) ∧ Pts t ∧ i + 1 < t.length ∧
  ∀ p H', Same H H' → H p = none → H' p = some (.lst (iv (Su186.room (gl t) i))) → Q (.ref p) H'
def roomB (t : List Nat) (i j : Nat) : Bool := j == i || (Su186.leads (gl t) i j && Su186.leads (gl t) j i)
theorem filter_more {p : Nat → Bool} {n : Nat} : (List.range (n + 1)).filter p = (List.range n).filter p ++ if p n = true then [n] else [] := by
  rw [List.range_succ, List.filter_append]
  congr 1
  by_cases h : p n = true
  · rw [if_pos h, List.filter_cons_of_pos h]; rfl
  · rw [if_neg h, List.filter_cons_of_neg h]; rfl
theorem ok_ro {k : Nat} (L : Ln K mg) : FnOk P w K mg base CX0 (k + 3) L.fRo L.fdRo ["spots", "piece"] (spRo K) := by
  have B := L.B
  have GR : FnOk P w K mg base CX0 (k + 2) L.fRe L.fdRe ["spots", "start"] (spRe K) := ok_re L
  have GP : FnOk P w K mg base CX0 (k + 2) L.fP L.fdP ["spots"] (spPc K) := ok_pc L.DP.F B
  refine L.DRo.F.ok scRo (fun vs H Q E h => ?_) (fun cdv A outer s H vs Q E hr h => ?_)
  · obtain ⟨a, t, s, rfl, _⟩ := h
    rfl
  · obtain ⟨a, t, i, rfl, hA, ht, hi, q⟩ := h
    refine ⟨_, (pss_cons (ps_set (i := 2) scRo.nd rfl (.inl rfl) ((pe_call GR hr (by rfl) L.DRe.g L.DRe.F.kp L.DRe.b .nil pass0 (pa_cons (pv 0) (pa_cons (pv 1) pa_nil)))))
      (pss_cons (ps_set (i := 3) scRo.nd rfl (.inl rfl) (pe_lst pa_nil))
      (pss_cons (ps_for PassesOwn.never rfl (pi_range1 (by rfl) B.range (pa_cons (pe_call GP hr (by rfl) L.DP.g L.DP.F.kp L.DP.b .nil pass0 (pa_cons (pv 0) pa_nil)) pa_nil)) ((pg_name (i := 4) scRo.nd rfl (.inl rfl)))
        (pss_one (ps_if (PW.pt (pw_or (pt_cmpR op_eq (pv 4) (pv 1) (nomark _)) (pw_or1 (PW.pt (pw_and (pt_cmpR op_in_seq (pv 4) (pv 2) (by rfl)) (pw_and1 (pt_cmpR op_in_seq (pv 1) ((pe_call GR hr (by rfl) L.DRe.g L.DRe.F.kp L.DRe.b .nil pass0 (pa_cons (pv 0) (pa_cons (pv 4) pa_nil)))) (by rfl))))))))
          (pss_one (ps_expr (pe_bm PySem.F.plainAttrs_list PySem.F.slot_list_append PySem.F.type_list_append mt_append (pv 3) (pa_cons (pv 4) pa_nil)))) pss_nil))) (pss_one (ps_ret (pv 3)))))), ?_⟩
    have h1 := ht.lo
    have h2 := ht.hi
    have hN : (gl t).n = t.length - 1 := rfl
    refine ⟨_, rfl, _, rfl, a, t, i, rfl, hA, ht, hi, fun p H1 l s1 np hp hl => ?_⟩
    refine ⟨by exact Nat.zero_le _, fun o no => ?_⟩
    have noH : H o = none := s1.free no
    have op : o ≠ p := Ne.symm (ne_of_none hp no)
    have s2 := s1.trans (same_upd (o := .lst []) no)
    refine ⟨_, rfl, a, iv t, rfl, s2.seq hA, _, rfl, by rw [iv_len]; omega, by rw [iv_len]; omega, ?_⟩
    have e0 : (((iv t).length : Int) - 1).toNat = t.length - 1 := by rw [iv_len]; omega
    rw [e0]
    refine for_range (lo := 0) (n := t.length - 1) (fun m σ H' => ∃ v4, σ = [some (.ref a), some (.int (i : Int)), some (.ref p), some (.ref o), v4] ∧ Same H H' ∧ H' p = some (.lst (iv l)) ∧ H' o = some (.lst (iv ((List.range m).filter (roomB t i))))) ⟨none, rfl, s2, by rw [upd_ne (Ne.symm op)]; exact hp, upd_same⟩ ?_ ?_
    · rintro m σ H2 hm ⟨v4, rfl, s3, hp3, ho3⟩
      rw [Int.zero_add]
      have mn : m < (gl t).n := by omega
      have iN : i < (gl t).n := by omega
      have hsz : (iv ((List.range m).filter (roomB t i))).length < sizeLine := by
        rw [iv_len]
        have := List.length_filter_le (roomB t i) (List.range m)
        rw [List.length_range] at this
        show _ < 2 ^ 24
        omega
      -- it is of the room
      have yes : ∀ H4, Same H2 H4 → roomB t i m = true → ∃ v4, (([some (.ref a), some (.int (i : Int)), some (.ref p), some (.ref o), some (.int (m : Int))] : L2.St) = [some (.ref a), some (.int (i : Int)), some (.ref p), some (.ref o), v4]) ∧ Same H (upd H4 o (.lst (iv ((List.range m).filter (roomB t i)) ++ [V.int (m : Int)]))) ∧
          (upd H4 o (.lst (iv ((List.range m).filter (roomB t i)) ++ [V.int (m : Int)]))) p = some (.lst (iv l)) ∧ (upd H4 o (.lst (iv ((List.range m).filter (roomB t i)) ++ [V.int (m : Int)]))) o = some (.lst (iv ((List.range (m + 1)).filter (roomB t i)))) := fun H4 s4 hb => by
        refine ⟨_, rfl, same_set (s3.trans s4) noH, by rw [upd_ne (Ne.symm op)]; exact s4 _ _ hp3, ?_⟩
        rw [upd_same, filter_more, if_pos hb, iv_snoc]
      have no_ : ∀ H4, Same H2 H4 → roomB t i m = false → ∃ v4, (([some (.ref a), some (.int (i : Int)), some (.ref p), some (.ref o), some (.int (m : Int))] : L2.St) = [some (.ref a), some (.int (i : Int)), some (.ref p), some (.ref o), v4]) ∧ Same H H4 ∧ H4 p = some (.lst (iv l)) ∧ H4 o = some (.lst (iv ((List.range (m + 1)).filter (roomB t i)))) := fun H4 s4 hb => by
        refine ⟨_, rfl, s3.trans s4, s4 _ _ hp3, ?_⟩
        rw [filter_more, hb, if_neg (by decide), List.append_nil]
        exact s4 _ _ ho3
      have same0 : Same H2 H2 := fun b x e => e
      refine ⟨_, rfl, _, rfl, rfl, _, rfl, ite2 (fun e => iteT ?_) (fun e => ?_)⟩
      · have e1 : m = i := by have := V.int.inj (of_decide_eq_true e); omega
        refine ⟨_, rfl, .inl ⟨rfl, _, .inl (.inl ho3)⟩, _, rfl, o, _, _, rfl, rfl, ho3, hsz, ?_⟩
        exact yes H2 same0 (by unfold roomB; rw [e1, beq_self_eq_true]; rfl)
      · have e1 : m ≠ i := fun z => e (by rw [z]; exact decide_eq_true rfl)
        have eb : (m == i) = false := by rw [beq_eq_false_iff_ne]; exact e1
        refine ⟨_, rfl, _, rfl, p, iv l, rfl, .inl (.inl (.inl hp3)), rfl, flat_iv _, _, rfl, ?_⟩
        have ei : (if false = true then !inV (V.int (m : Int)) (iv l) else inV (V.int (m : Int)) (iv l)) = Su186.leads (gl t) i m := by
          show inV (V.int (m : Int)) (iv l) = _
          rw [inV_iv, Bool.eq_iff_iff, decide_eq_true_eq, hl]
          exact ⟨fun z => z.2, fun z => ⟨mn, z⟩⟩
        rw [ei]
        refine ite2 (fun e => ?_) (fun e => iteF ?_)
        · refine ⟨_, rfl, _, rfl, _, rfl, a, t, m, rfl, s3.seq hA, ht, by omega, fun p2 H3 l2 s4 np2 hp2 hl2 => ?_⟩
          refine ⟨p2, iv l2, rfl, .inl (.inl (.inl hp2)), rfl, flat_iv _, _, rfl, ?_⟩
          have ei2 : (if false = true then !inV (V.int (i : Int)) (iv l2) else inV (V.int (i : Int)) (iv l2)) = Su186.leads (gl t) m i := by
            show inV (V.int (i : Int)) (iv l2) = _
            rw [inV_iv, Bool.eq_iff_iff, decide_eq_true_eq, hl2]
            exact ⟨fun z => z.2, fun z => ⟨iN, z⟩⟩
          rw [ei2]
          refine ite2 (fun e2 => ?_) (fun e2 => ?_)
          · have ho4 := s4 _ _ ho3
            refine ⟨_, rfl, .inl ⟨rfl, _, .inl (.inl ho4)⟩, _, rfl, o, _, _, rfl, rfl, ho4, hsz, ?_⟩
            exact yes H3 s4 (by unfold roomB; rw [eb, e, e2]; rfl)
          · exact no_ H3 s4 (by unfold roomB; rw [eb, e, Bool.not_eq_true _ |>.mp e2]; rfl)
        · exact no_ H2 same0 (by unfold roomB; rw [eb, Bool.not_eq_true _ |>.mp e]; rfl)
    · rintro σ H2 ⟨v4, rfl, s3, hp3, ho3⟩
      exact ⟨_, rfl, q o H2 s3 noH ho3⟩
end
end FG
namespace FG
open PyProof.Rows L2 PySem PySem.Spec
theorem scRl : FnScope ["spots", "found", "piece"] ["spots"] (defScope sRl) := ⟨rfl, rfl, rfl, by decide +kernel, rfl, by decide +kernel, by decide +kernel⟩
theorem scMr : FnScope ["spots", "rooms", "room", "onward", "passed", "other"] ["spots", "rooms", "room"] (defScope sMr) := ⟨rfl, rfl, rfl, by decide +kernel, rfl, by decide +kernel, by decide +kernel⟩
theorem scPo : FnScope ["spots", "rooms", "room"] ["spots"] (defScope sPo) := ⟨rfl, rfl, rfl, by decide +kernel, rfl, by decide +kernel, by decide +kernel⟩
/-- the kinds' names -/
structure Kn (mg : Str → Option Value) : Prop where
  k0 : ∃ t, mg "DIES_OUT" = some (.int 0 t)
  k1 : ∃ t, mg "GROWS_AS_A_POWER" = some (.int 1 t)
  k2 : ∃ t, mg "IS_DOUBLED" = some (.int 2 t)

/-- a piece that covers two of its own room -/
def c2N (t : List Nat) (i : Nat) : Bool := decide (1 < ((covL t i).filter fun j => decide (j ∈ Su186.room (gl t) i)).length)
theorem covL_nodup (t : List Nat) (i : Nat) : (covL t i).Nodup := List.nodup_range'
theorem c2_two {t : List Nat} : HM.Two (gl t) ↔ ∃ i, i < (gl t).n ∧ c2N t i = true := by
  unfold HM.Two c2N
  constructor
  · rintro ⟨i, a, b, hi, ha, hb, hab, ca, cb⟩
    refine ⟨i, hi, decide_eq_true ((HM.two_in (covL_nodup t i)).mpr ⟨a, b, mem_cov.mpr ca, mem_cov.mpr cb, hab, decide_eq_true ha, decide_eq_true hb⟩)⟩
  · rintro ⟨i, hi, h⟩
    obtain ⟨a, b, ha, hb, hab, pa, pb⟩ := (HM.two_in (covL_nodup t i)).mp (of_decide_eq_true h)
    exact ⟨i, a, b, hi, of_decide_eq_true pa, of_decide_eq_true pb, hab, mem_cov.mp ha, mem_cov.mp hb⟩
section
variable {base : Heap} {mg : Str → Option Value} {K : PySem.W.Frag} {P : Program} {w : World}
/-! ### covers_two_of_its_room -/
def spC2 (K : PySem.W.Frag) : Sp := fun vs H Q _ => ∃ (a : Addr) (t : List Nat) (i : Nat), vs = [.ref a, .int (i : Int)] ∧ SqL K H a (iv t) ∧ Pts t ∧ i + 1 < t.length ∧
  ∀ H', Same H H' → Q (.bl (c2N t i)) H'
theorem ok_c2 {k : Nat} (L : Ln K mg) : FnOk P w K mg base CX0 (k + 4) L.fC2 L.fdC2 ["spots", "piece"] (spC2 K) := by
  have B := L.B
  have GR : FnOk P w K mg base CX0 (k + 3) L.fRo L.fdRo ["spots", "piece"] (spRo K) := ok_ro L
  have GC : FnOk P w K mg base CX0 (k + 3) L.fC L.fdC ["spots", "piece"] (spCov K) := ok_cov L.DC.F B
  refine L.DC2.F.ok scC2 (fun vs H Q E h => ?_) (fun cdv A outer s H vs Q E hr h => ?_)
  · obtain ⟨a, t, s, rfl, _⟩ := h
    rfl
  · obtain ⟨a, t, i, rfl, hA, ht, hi, q⟩ := h
    refine ⟨_, (pss_cons (ps_set (i := 2) scC2.nd rfl (.inr rfl) ((pe_call GR hr (by rfl) L.DRo.g L.DRo.F.kp L.DRo.b .nil pass0 (pa_cons (pv 0) (pa_cons (pv 1) pa_nil))))) (pss_one (ps_ret (pe_cmpR op_gt ((pe_callB call_len_seq (by rfl) B.len PySem.boot_len (pa_cons (pe_lc (own := [("other", 3)]) (g := gName 3) (tt := tTest (tOp (rIn K false) (tVar 3) (tVar 2))) rfl scC2.nd (pi_list ((pe_call GC hr (by rfl) L.DC.g L.DC.F.kp L.DC.b .nil pass0 (pa_cons (pv 0) (pa_cons (pv 1) pa_nil)))))
        (blkOk_by (own := [("other", 3)]) (N := ["spots", "piece", "room", "other"]) (sc := defScope sC2) (by decide +kernel)) (fun _ _ _ _ _ => (pg_name (i := 3) scC2.nd rfl (.inl rfl))) (fun _ _ _ _ _ => pts_one (pt_cmpR op_in_seq (pv 3) (pv 2) (by rfl))) (fun _ _ _ _ _ => pv 3)) pa_nil))) pe_int (nomark _))))), ?_⟩
    have h1 := ht.lo
    have h2 := ht.hi
    refine ⟨_, rfl, _, rfl, a, t, i, rfl, hA, ht, hi, fun p H1 s1 np hp => ?_⟩
    refine ⟨_, rfl, _, rfl, a, t, i, rfl, s1.seq hA, hi, fun x hx => by have := ht.top x hx; omega, fun c nc => ?_⟩
    have s2 := same_upd (o := .lst (iv (covL t i))) nc
    have c2 : (upd H1 c (.lst (iv (covL t i)))) c = some (.lst (iv (covL t i))) := upd_same
    have p2 := s2 _ _ hp
    have s3 := s1.trans s2
    generalize (upd H1 c (.lst (iv (covL t i)))) = H2 at s2 c2 p2 s3 ⊢
    refine ⟨c, rfl, ⟨_, .inl (.inl c2)⟩, fun D hD => ?_⟩
    refine lc_list (K := K) (a := c) (xs := iv (covL t i)) (fun m H' => Same H2 H' ∧ H' D = some (.lst (iv (((covL t i).take m).filter fun j => decide (j ∈ Su186.room (gl t) i))))) ⟨same_upd hD, upd_same⟩ (fun m H' _ h => .inl (.inl (h.1 _ _ c2))) ?_ ?_
    · rintro m y H3 hy ⟨s4, d4⟩
      have hm : m < (covL t i).length := by
        have := (List.getElem?_eq_some_iff.mp hy).1
        rwa [iv_len] at this
      have gc := get_some hm
      obtain rfl : V.int (((covL t i).getD m 0 : Nat) : Int) = y := Option.some.inj ((iv_get gc).symm.trans hy)
      have htake : (covL t i).take (m + 1) = (covL t i).take m ++ [(covL t i).getD m 0] := by rw [List.take_add_one, gc]; rfl
      generalize (covL t i).getD m 0 = j at *
      refine ⟨rfl, _, rfl, _, rfl, p, iv (Su186.room (gl t) i), rfl, .inl (.inl (.inl (s4 _ _ p2))), rfl, flat_iv _, _, rfl, ?_⟩
      have ei : (if false = true then !inV (V.int (j : Int)) (iv (Su186.room (gl t) i)) else inV (V.int (j : Int)) (iv (Su186.room (gl t) i))) = decide (j ∈ Su186.room (gl t) i) := inV_iv _ _
      rw [ei, htake, List.filter_append]
      refine ite2 (fun e => ?_) (fun e => ?_)
      · refine ⟨_, rfl, _, d4, ?_, same_set s4 hD, ?_⟩
        · rw [iv_len]
          have hl1 := List.length_filter_le (fun j => decide (j ∈ Su186.room (gl t) i)) ((covL t i).take m)
          have hl2 : (covL t i).length ≤ 6 := by
            have h0 := get_le (t := t) (i := i) (b := t.length - 1) (fun x hx => by have := ht.top x hx; omega)
            have h3 := get_le (t := t) (i := i + 1) (b := t.length - 1) (fun x hx => by have := ht.top x hx; omega)
            unfold covL
            rw [List.length_range']
            omega
          rw [List.length_take] at hl1
          show _ < 2 ^ 24
          omega
        · rw [upd_same, List.filter_cons_of_pos (p := fun j => decide (j ∈ Su186.room (gl t) i)) e, iv_snoc]
          rfl
      · refine ⟨s4, ?_⟩
        rw [d4, List.filter_cons_of_neg (p := fun j => decide (j ∈ Su186.room (gl t) i)) e]
        rw [List.filter_nil, List.append_nil]
    · rintro H3 ⟨s4, d4⟩
      rw [iv_len, List.take_length] at d4
      refine ⟨D, _, rfl, .inl (.inl (.inl d4)), _, _, rfl, rfl, ?_⟩
      have : decide ((1 : Int) < ((iv ((covL t i).filter fun j => decide (j ∈ Su186.room (gl t) i))).length : Int)) = c2N t i := by
        unfold c2N
        rw [iv_len]
        exact decide_eq_decide.mpr ⟨by omega, by omega⟩
      show Q (.bl (decide ((1 : Int) < ((iv ((covL t i).filter fun j => decide (j ∈ Su186.room (gl t) i))).length : Int)))) H3
      rw [this]
      exact q H3 (s3.trans s4)

/-! ### kind_of -/
def spKi (K : PySem.W.Frag) : Sp := fun vs H Q _ => ∃ (a : Addr) (t : List Nat), vs = [.ref a] ∧ SqL K H a (iv t) ∧ Pts t ∧ ∀ H', Same H H' → Q (.int ((Su186.kind (gl t) : Nat) : Int)) H'
theorem any_range {n : Nat} {p : Nat → Bool} : ((List.range n).map p).any id = true ↔ ∃ i, i < n ∧ p i = true := by
  rw [List.any_map, List.any_eq_true]
  constructor
  · rintro ⟨i, hi, h⟩
    exact ⟨i, List.mem_range.mp hi, h⟩
  · rintro ⟨i, hi, h⟩
    exact ⟨i, List.mem_range.mpr hi, h⟩
theorem ok_ki {f : Addr} {fd : FuncData} {k : Nat} (L : Ln K mg) (N : Kn mg) (F : Fun K "kind_of" "kind_of" sKi f fd) : FnOk P w K mg base CX0 (k + 5) f fd ["spots"] (spKi K) := by
  have B := L.B
  have G2 : FnOk P w K mg base CX0 (k + 4) L.fC2 L.fdC2 ["spots", "piece"] (spC2 K) := ok_c2 L
  have GO : FnOk P w K mg base CX0 (k + 4) L.fOl L.fdOl ["spots", "piece"] (spOl K) := ok_ol L
  have GP : FnOk P w K mg base CX0 (k + 4) L.fP L.fdP ["spots"] (spPc K) := ok_pc L.DP.F B
  obtain ⟨t0, g0⟩ := N.k0
  obtain ⟨t1, g1⟩ := N.k1
  obtain ⟨t2, g2⟩ := N.k2
  refine F.ok scKi (fun vs H Q E h => ?_) (fun cdv A outer s H vs Q E hr h => ?_)
  · obtain ⟨a, t, rfl, _⟩ := h
    rfl
  · obtain ⟨a, t, rfl, hA, ht, q⟩ := h
    refine ⟨_, (pss_cons (ps_if (pt_val (pe_callB (cr_any rfl) (by rfl) B.any (by decide +kernel) (pa_cons (pe_lc (own := [("piece", 1)]) (g := gName 1) (tt := tYes) rfl scKi.nd (pi_range1 (by rfl) B.range (pa_cons (pe_call GP hr (by rfl) L.DP.g L.DP.F.kp L.DP.b .nil pass0 (pa_cons (pv 0) pa_nil)) pa_nil))
          (blkOk_by (own := [("piece", 1)]) (N := ["spots", "piece"]) (sc := defScope sKi) (by decide +kernel)) (fun _ _ _ _ _ => (pg_name (i := 1) scKi.nd rfl (.inl rfl))) (fun _ _ _ _ _ => pts_nil) (fun _ _ _ _ _ => (pe_call G2 hr (by rfl) L.DC2.g L.DC2.F.kp L.DC2.b .nil pass0 (pa_cons (pv 0) (pa_cons (pv 1) pa_nil))))) pa_nil)))
        (pss_one (ps_ret (pe_glob (v := .int 2) (by rfl) g2 ⟨_, rfl⟩))) pss_nil)
      (pss_cons (ps_if (pt_val (pe_callB (cr_any rfl) (by rfl) B.any (by decide +kernel) (pa_cons (pe_lc (own := [("piece", 1)]) (g := gName 1) (tt := tYes) rfl scKi.nd (pi_range1 (by rfl) B.range (pa_cons (pe_call GP hr (by rfl) L.DP.g L.DP.F.kp L.DP.b .nil pass0 (pa_cons (pv 0) pa_nil)) pa_nil))
          (blkOk_by (own := [("piece", 1)]) (N := ["spots", "piece"]) (sc := defScope sKi) (by decide +kernel)) (fun _ _ _ _ _ => (pg_name (i := 1) scKi.nd rfl (.inl rfl))) (fun _ _ _ _ _ => pts_nil) (fun _ _ _ _ _ => (pe_call GO hr (by rfl) L.DOl.g L.DOl.F.kp L.DOl.b .nil pass0 (pa_cons (pv 0) (pa_cons (pv 1) pa_nil))))) pa_nil)))
        (pss_one (ps_ret (pe_glob (v := .int 1) (by rfl) g1 ⟨_, rfl⟩))) pss_nil) (pss_one (ps_ret (pe_glob (v := .int 0) (by rfl) g0 ⟨_, rfl⟩))))), ?_⟩
    have h1 := ht.lo
    have h2 := ht.hi
    have hN : (gl t).n = t.length - 1 := rfl
    have e0 : (((iv t).length : Int) - 1).toNat = t.length - 1 := by rw [iv_len]; omega
    refine ⟨_, rfl, a, iv t, rfl, hA, _, rfl, by rw [iv_len]; omega, by rw [iv_len]; omega, fun D hD => ?_⟩
    rw [e0]
    refine lc_range (lo := 0) (n := t.length - 1) (fun i H' => Same H H' ∧ H' D = some (.lst (((List.range i).map fun p => c2N t p).map V.bl))) ⟨same_upd hD, upd_same⟩ ?_ ?_
    · rintro i H1 hi ⟨s1, d1⟩
      refine ⟨rfl, yesT ?_⟩
      refine ⟨_, rfl, _, rfl, a, t, i, by rw [Int.zero_add]; rfl, s1.seq hA, ht, by omega, fun H2 s2 => ?_⟩
      refine ⟨_, s2 _ _ d1, ?_, same_set (s1.trans s2) hD, ?_⟩
      · rw [List.length_map, List.length_map, List.length_range]
        show _ < 2 ^ 24
        omega
      · rw [upd_same, List.range_succ, List.map_append, List.map_append]
        rfl
    rintro H1 ⟨s1, d1⟩
    refine ⟨D, (List.range (t.length - 1)).map fun p => c2N t p, rfl, .inl (.inl d1), _, rfl, ite2 (fun e => ?_) (fun e => ?_)⟩
    · have := HM.kind_2 (c2_two.mpr (any_range.mp e))
      have q1 := q H1 s1
      rw [this] at q1
      exact q1
    · have no2 : ¬ HM.Two (gl t) := fun z => e (any_range.mpr (c2_two.mp z))
      refine ⟨_, rfl, a, iv t, rfl, s1.seq hA, _, rfl, by rw [iv_len]; omega, by rw [iv_len]; omega, fun D2 hD2 => ?_⟩
      rw [e0]
      refine lc_range (lo := 0) (n := t.length - 1) (fun i H' => Same H1 H' ∧ H' D2 = some (.lst (((List.range i).map fun p => Su186.leads (gl t) p p).map V.bl))) ⟨same_upd hD2, upd_same⟩ ?_ ?_
      · rintro i H2 hi ⟨s2, d2⟩
        refine ⟨rfl, yesT ?_⟩
        refine ⟨_, rfl, _, rfl, a, t, i, by rw [Int.zero_add]; rfl, (s1.trans s2).seq hA, ht, by omega, fun H3 s3 => ?_⟩
        refine ⟨_, s3 _ _ d2, ?_, same_set (s2.trans s3) hD2, ?_⟩
        · rw [List.length_map, List.length_map, List.length_range]
          show _ < 2 ^ 24
          omega
        · rw [upd_same, List.range_succ, List.map_append, List.map_append]
          rfl
      rintro H2 ⟨s2, d2⟩
      refine ⟨D2, (List.range (t.length - 1)).map fun p => Su186.leads (gl t) p p, rfl, .inl (.inl d2), _, rfl, ite2 (fun e => ?_) (fun e => ?_)⟩
      · have q1 := q H2 (s1.trans s2)
        rw [HM.kind_1 no2 (any_range.mp e)] at q1
        exact q1
      · have q1 := q H2 (s1.trans s2)
        rw [HM.kind_0 no2 (fun z => e (any_range.mpr z))] at q1
        exact q1

/-! ### rooms_with_loops -/
def spRl (K : PySem.W.Frag) : Sp := fun vs H Q _ => ∃ (a : Addr) (t : List Nat), vs = [.ref a] ∧ SqL K H a (iv t) ∧ Pts t ∧
  ∀ p H', Same H H' → H p = none → H' p = some (.lst (iv (HM.reps (gl t)))) → Q (.ref p) H'
theorem room_head {t : List Nat} {i : Nat} (hi : i + 1 < t.length) : (Su186.room (gl t) i)[0]? = some ((Su186.room (gl t) i).headD 0) := by
  have hm : i ∈ Su186.room (gl t) i := HM.mem_room.mpr ⟨by show i < t.length - 1; omega, .inl rfl⟩
  cases e : Su186.room (gl t) i with
  | nil => rw [e] at hm; cases hm
  | cons x l => rfl
theorem ok_rl {k : Nat} (L : Ln K mg) : FnOk P w K mg base CX0 (k + 4) L.fRl L.fdRl ["spots"] (spRl K) := by
  have B := L.B
  have GO : FnOk P w K mg base CX0 (k + 3) L.fOl L.fdOl ["spots", "piece"] (spOl K) := ok_ol L
  have GR : FnOk P w K mg base CX0 (k + 3) L.fRo L.fdRo ["spots", "piece"] (spRo K) := ok_ro L
  have GP : FnOk P w K mg base CX0 (k + 3) L.fP L.fdP ["spots"] (spPc K) := ok_pc L.DP.F B
  refine L.DRl.F.ok scRl (fun vs H Q E h => ?_) (fun cdv A outer s H vs Q E hr h => ?_)
  · obtain ⟨a, t, rfl, _⟩ := h
    rfl
  · obtain ⟨a, t, rfl, hA, ht, q⟩ := h
    refine ⟨_, (pss_cons (ps_set (i := 1) scRl.nd rfl (.inl rfl) (pe_lst pa_nil))
      (pss_cons (ps_for PassesOwn.never rfl (pi_range1 (by rfl) B.range (pa_cons (pe_call GP hr (by rfl) L.DP.g L.DP.F.kp L.DP.b .nil pass0 (pa_cons (pv 0) pa_nil)) pa_nil)) ((pg_name (i := 2) scRl.nd rfl (.inl rfl)))
        (pss_one (ps_if (PW.pt (pw_and (pt_val ((pe_call GO hr (by rfl) L.DOl.g L.DOl.F.kp L.DOl.b .nil pass0 (pa_cons (pv 0) (pa_cons (pv 2) pa_nil))))) (pw_and1 (pt_cmpR op_eq ((pe_ix ix_list ((pe_call GR hr (by rfl) L.DRo.g L.DRo.F.kp L.DRo.b .nil pass0 (pa_cons (pv 0) (pa_cons (pv 2) pa_nil)))) pe_int (fun _ _ => rfl))) (pv 2) (nomark _))))) (pss_one (ps_expr (pe_bm PySem.F.plainAttrs_list PySem.F.slot_list_append PySem.F.type_list_append mt_append (pv 1) (pa_cons (pv 2) pa_nil)))) pss_nil))) (pss_one (ps_ret (pv 1))))), ?_⟩
    have h1 := ht.lo
    have h2 := ht.hi
    have hN : (gl t).n = t.length - 1 := rfl
    have e0 : (((iv t).length : Int) - 1).toNat = t.length - 1 := by rw [iv_len]; omega
    refine ⟨by exact Nat.zero_le _, fun o no => ?_⟩
    have s0 := same_upd (o := .lst []) no
    refine ⟨_, rfl, a, iv t, rfl, s0.seq hA, _, rfl, by rw [iv_len]; omega, by rw [iv_len]; omega, ?_⟩
    rw [e0]
    refine for_range (lo := 0) (n := t.length - 1) (fun m σ H' => ∃ v2, σ = [some (.ref a), some (.ref o), v2] ∧ Same H H' ∧ H' o = some (.lst (iv ((List.range m).filter (HM.isRep (gl t)))))) ⟨none, rfl, s0, upd_same⟩ ?_ ?_
    · rintro m σ H2 hm ⟨v2, rfl, s3, ho3⟩
      rw [Int.zero_add]
      have hsz : (iv ((List.range m).filter (HM.isRep (gl t)))).length < sizeLine := by
        rw [iv_len]
        have := List.length_filter_le (HM.isRep (gl t)) (List.range m)
        rw [List.length_range] at this
        show _ < 2 ^ 24
        omega
      refine ⟨_, rfl, _, rfl, a, t, m, rfl, s3.seq hA, ht, by omega, fun H3 s4 => ⟨_, rfl, ite2 (fun e => ?_) (fun e => iteF ?_)⟩⟩
      · refine ⟨_, rfl, _, rfl, a, t, m, rfl, (s3.trans s4).seq hA, ht, by omega, fun p H4 s5 np hp => ?_⟩
        refine ⟨p, _, 0, _, rfl, rfl, .inl (.inl hp), atI_nat (j := 0) (iv_get (room_head (by omega))), _, rfl, rfl, _, rfl, ite2 (fun e2 => ?_) (fun e2 => ?_)⟩
        · have e3 : (Su186.room (gl t) m).headD 0 = m := by have := V.int.inj (of_decide_eq_true e2); omega
          have ho5 := s5 _ _ (s4 _ _ ho3)
          refine ⟨_, rfl, .inl ⟨rfl, _, .inl (.inl ho5)⟩, _, rfl, o, _, _, rfl, rfl, ho5, hsz, ?_⟩
          refine ⟨_, rfl, same_set (s3.trans (s4.trans s5)) no, ?_⟩
          rw [upd_same, filter_more, if_pos (by unfold HM.isRep; rw [e, e3, decide_eq_true rfl]; rfl), iv_snoc]
        · have e3 : ¬ (Su186.room (gl t) m).headD 0 = m := fun z => e2 (by rw [z]; exact decide_eq_true rfl)
          refine ⟨_, rfl, s3.trans (s4.trans s5), ?_⟩
          rw [filter_more, if_neg (by unfold HM.isRep; rw [decide_eq_false e3, Bool.and_false]; decide), List.append_nil]
          exact s5 _ _ (s4 _ _ ho3)
      · refine ⟨_, rfl, s3.trans s4, ?_⟩
        rw [filter_more, if_neg (by unfold HM.isRep; rw [Bool.not_eq_true _ |>.mp e, Bool.false_and]; decide), List.append_nil]
        exact s4 _ _ ho3
    · rintro σ H2 ⟨v2, rfl, s3, ho3⟩
      exact ⟨_, rfl, q o H2 s3 no ho3⟩

/-! ### most_rooms_passed -/
def spMr (K : PySem.W.Frag) (f : Nat) : Sp := fun vs H Q _ => ∃ (a b : Addr) (t : List Nat) (r f' : Nat), vs = [.ref a, .ref b, .int (r : Int)] ∧ SqL K H a (iv t) ∧ SqL K H b (iv (HM.reps (gl t))) ∧ Pts t ∧ r ∈ HM.reps (gl t) ∧ (HM.onw (gl t) r).length < f' ∧ f' ≤ f ∧
  ∀ H', Same H H' → Q (.int ((HM.mrp (gl t) f' r : Nat) : Int)) H'
def onB (t : List Nat) (r o : Nat) : Bool := decide (o ≠ r) && Su186.leads (gl t) r o
theorem max_nat {l : List Nat} {m : Int} (h1 : m ∈ l.map fun (x : Nat) => (x : Int)) (h2 : ∀ y, y ∈ (l.map fun (x : Nat) => (x : Int)) → y ≤ m) : m = ((l.foldl max 0 : Nat) : Int) := by
  obtain ⟨x, hx, rfl⟩ := List.mem_map.mp h1
  rw [HM.fm_eq hx fun y hy => by have := h2 _ (List.mem_map.mpr ⟨y, hy, rfl⟩); omega]
theorem reps_len (t : List Nat) : (HM.reps (gl t)).length ≤ t.length - 1 := by
  have := List.length_filter_le (HM.isRep (gl t)) (List.range (gl t).n)
  rw [List.length_range] at this
  exact this
theorem ok_mr (L : Ln K mg) : ∀ f : Nat, FnOk P w K mg base CX0 (f + 3) L.fMr L.fdMr ["spots", "rooms", "room"] (spMr K f)
  | 0 => by
    refine L.DMr.F.ok scMr (fun vs H Q E h => ?_) (fun cdv A outer s H vs Q E hr h => ?_)
    · obtain ⟨a, b, t, r, f', rfl, _⟩ := h
      rfl
    · obtain ⟨a, b, t, r, f', rfl, _, _, _, _, h1, h2, _⟩ := h
      omega
  | f + 1 => by
    have B := L.B
    have GS := ok_mr L f
    have GR : FnOk P w K mg base CX0 (f + 3) L.fRe L.fdRe ["spots", "start"] (spRe K) := ok_re (k := f + 1) L
    refine L.DMr.F.ok scMr (fun vs H Q E h => ?_) (fun cdv A outer s H vs Q E hr h => ?_)
    · obtain ⟨a, b, t, r, f', rfl, _⟩ := h
      rfl
    · obtain ⟨a, b, t, r, f', rfl, hA, hB, ht, hr', hf1, hf2, q⟩ := h
      refine ⟨_, (pss_cons (ps_set (i := 3) scMr.nd rfl (.inr rfl) ((pe_call GR hr (by rfl) L.DRe.g L.DRe.F.kp L.DRe.b .nil pass0 (pa_cons (pv 0) (pa_cons (pv 2) pa_nil)))))
      (pss_cons (ps_setLc (i := 4) (own := [("other", 5)]) (g := gName 5) (tt := tAnd (tTest (tOp rNe (tVar 5) (tVar 2))) (tTest (tOp (rIn K false) (tVar 5) (tVar 3)))) rfl scMr.nd rfl rfl (sw_true rfl rfl rfl (by decide +kernel)) (pi_list (pv 1))
          (blkOk_by (own := [("other", 5)]) (N := ["spots", "rooms", "room", "onward", "passed", "other"]) (sc := defScope sMr) (by decide +kernel))
          (fun _ _ _ _ _ => (pg_name (i := 5) scMr.nd rfl (.inl rfl))) (fun _ _ _ _ _ => pts_one (PW.pt (pw_and (pt_cmpR op_ne (pv 5) (pv 2) (nomark _)) (pw_and1 (pt_cmpR op_in_seq (pv 5) (pv 3) (by rfl)))))) (fun _ _ _ _ _ => (pe_call GS hr (by rfl) L.DMr.g L.DMr.F.kp L.DMr.b .nil pass0 (pa_cons (pv 0) (pa_cons (pv 1) (pa_cons (pv 5) pa_nil)))))) (pss_one (ps_ret (pe_op op_add pe_int (pe_callBK (cr_maxD rfl (hu_of hr)) (by rfl) B.max (by decide +kernel) (pa_cons (pv 4) pa_nil) (pk_cons pe_int pk_nil))))))), ?_⟩
      have h1 := ht.lo
      have h2 := ht.hi
      have hN : (gl t).n = t.length - 1 := rfl
      have hrn := (HM.mem_reps.mp hr').1
      obtain ⟨f'', rfl⟩ : ∃ f'', f' = f'' + 1 := ⟨f' - 1, by omega⟩
      refine ⟨_, rfl, _, rfl, a, t, r, rfl, hA, ht, by omega, fun p H1 l s1 np hp hl => ?_⟩
      refine ⟨_, rfl, b, rfl, ⟨_, s1.seq hB⟩, fun D hD => ?_⟩
      refine lc_list (K := K) (a := b) (xs := iv (HM.reps (gl t))) (fun m H' => Same H1 H' ∧ H' D = some (.lst (iv ((((HM.reps (gl t)).take m).filter (onB t r)).map (HM.mrp (gl t) f''))))) ⟨same_upd hD, upd_same⟩ (fun m H' _ h => (s1.trans h.1).seq hB) ?_ ?_
      · rintro m y H2 hy ⟨s2, d2⟩
        have hm : m < (HM.reps (gl t)).length := by
          have := (List.getElem?_eq_some_iff.mp hy).1
          rwa [iv_len] at this
        have gc := get_some hm
        obtain rfl : V.int (((HM.reps (gl t)).getD m 0 : Nat) : Int) = y := Option.some.inj ((iv_get gc).symm.trans hy)
        have hmem := List.mem_of_getElem? gc
        have htake : (HM.reps (gl t)).take (m + 1) = (HM.reps (gl t)).take m ++ [(HM.reps (gl t)).getD m 0] := by rw [List.take_add_one, gc]; rfl
        generalize (HM.reps (gl t)).getD m 0 = o at *
        have on := (HM.mem_reps.mp hmem).1
        refine ⟨rfl, ?_⟩
        have skip : ∀ H3, Same H2 H3 → onB t r o = false → Same H1 H3 ∧ H3 D = some (.lst (iv ((((HM.reps (gl t)).take (m + 1)).filter (onB t r)).map (HM.mrp (gl t) f'')))) := fun H3 s3 hb => by
          refine ⟨s2.trans s3, ?_⟩
          rw [htake, List.filter_append, List.filter_cons_of_neg (by rw [hb]; decide), List.filter_nil, List.append_nil]
          exact s3 _ _ d2
        have same0 : Same H2 H2 := fun b x e => e
        refine ⟨_, rfl, _, rfl, rfl, _, rfl, ite2 (fun e => ?_) (fun e => ?_)⟩
        · have e1 : o ≠ r := fun z => by rw [z] at e; simp at e
          refine ⟨_, rfl, _, rfl, p, iv l, rfl, .inl (.inl (.inl (s2 _ _ hp))), rfl, flat_iv _, _, rfl, ?_⟩
          have ei : (if false = true then !inV (V.int (o : Int)) (iv l) else inV (V.int (o : Int)) (iv l)) = Su186.leads (gl t) r o := by
            show inV (V.int (o : Int)) (iv l) = _
            rw [inV_iv, Bool.eq_iff_iff, decide_eq_true_eq, hl]
            exact ⟨fun z => z.2, fun z => ⟨on, z⟩⟩
          rw [ei]
          refine ite2 (fun e2 => ?_) (fun e2 => ?_)
          · have hin : o ∈ HM.onw (gl t) r := HM.mem_onw.mpr ⟨hmem, e1, e2⟩
            have hlt := HM.onw_lt hr' hin
            refine ⟨_, rfl, _, rfl, _, rfl, a, b, t, o, f'', rfl, (s1.trans s2).seq hA, (s1.trans s2).seq hB, ht, hmem, by omega, by omega, fun H3 s3 => ?_⟩
            refine ⟨_, s3 _ _ d2, ?_, same_set (s2.trans s3) hD, ?_⟩
            · rw [iv_len, List.length_map]
              have hl1 := List.length_filter_le (onB t r) ((HM.reps (gl t)).take m)
              rw [List.length_take] at hl1
              have := reps_len t
              show _ < 2 ^ 24
              omega
            · rw [upd_same, htake, List.filter_append, List.filter_cons_of_pos (by unfold onB; rw [decide_eq_true e1, e2]; rfl), List.map_append, iv_snoc]
              rfl
          · exact skip H2 same0 (by unfold onB; rw [Bool.not_eq_true _ |>.mp e2, Bool.and_false])
        · have e1 : o = r := Classical.byContradiction fun z => e (by rw [decide_eq_false (fun y => z (by have := V.int.inj y; omega))]; rfl)
          exact skip H2 same0 (by unfold onB; rw [decide_eq_false (fun z => z e1)]; rfl)
      rintro H2 ⟨s2, d2⟩
      rw [iv_len, List.take_length] at d2
      have d2 : H2 D = some (.lst (iv ((HM.onw (gl t) r).map (HM.mrp (gl t) f'')))) := d2
      rw [iv_ints] at d2
      have q2 := q H2 (s1.trans s2)
      refine ⟨_, rfl, D, _, 0, rfl, rfl, .inl (.inl d2), fun hnil => ?_, fun m hm1 hm2 => ?_⟩
      · refine ⟨_, _, rfl, rfl, ?_⟩
        have hnil := List.map_eq_nil_iff.mp hnil
        have : HM.mrp (gl t) (f'' + 1) r = 1 := by
          show 1 + ((HM.onw (gl t) r).map (HM.mrp (gl t) f'')).foldl max 0 = 1
          rw [hnil]
          rfl
        rw [this] at q2
        exact q2
      · refine ⟨_, _, rfl, rfl, ?_⟩
        have : ((HM.mrp (gl t) (f'' + 1) r : Nat) : Int) = 1 + m := by
          show ((1 + ((HM.onw (gl t) r).map (HM.mrp (gl t) f'')).foldl max 0 : Nat) : Int) = _
          rw [Int.natCast_add, ← max_nat hm1 hm2]
          rfl
        rw [this] at q2
        exact q2

/-! ### power_of -/
def spPo (K : PySem.W.Frag) : Sp := fun vs H Q _ => ∃ (a : Addr) (t : List Nat), vs = [.ref a] ∧ SqL K H a (iv t) ∧ Pts t ∧ Su186.kind (gl t) = 1 ∧ ∀ H', Same H H' → Q (.int ((Su186.power (gl t) : Nat) : Int)) H'
theorem ok_po {f : Addr} {fd : FuncData} (L : Ln K mg) (F : Fun K "power_of" "power_of" sPo f fd) : FnOk P w K mg base CX0 10 f fd ["spots"] (spPo K) := by
  have B := L.B
  have GM : FnOk P w K mg base CX0 9 L.fMr L.fdMr ["spots", "rooms", "room"] (spMr K 6) := ok_mr L 6
  have GR : FnOk P w K mg base CX0 9 L.fRl L.fdRl ["spots"] (spRl K) := ok_rl (k := 5) L
  refine F.ok scPo (fun vs H Q E h => ?_) (fun cdv A outer s H vs Q E hr h => ?_)
  · obtain ⟨a, t, rfl, _⟩ := h
    rfl
  · obtain ⟨a, t, rfl, hA, ht, hk, q⟩ := h
    refine ⟨_, (pss_cons (ps_set (i := 1) scPo.nd rfl (.inr rfl) ((pe_call GR hr (by rfl) L.DRl.g L.DRl.F.kp L.DRl.b .nil pass0 (pa_cons (pv 0) pa_nil)))) (pss_one (ps_ret (pe_op op_sub (pe_callB (cr_max rfl) (by rfl) B.max (by decide +kernel) (pa_cons (pe_lc (own := [("room", 2)]) (g := gName 2) (tt := tYes) rfl scPo.nd (pi_list (pv 1))
        (blkOk_by (own := [("room", 2)]) (N := ["spots", "rooms", "room"]) (sc := defScope sPo) (by decide +kernel)) (fun _ _ _ _ _ => (pg_name (i := 2) scPo.nd rfl (.inl rfl))) (fun _ _ _ _ _ => pts_nil) (fun _ _ _ _ _ => (pe_call GM hr (by rfl) L.DMr.g L.DMr.F.kp L.DMr.b .nil pass0 (pa_cons (pv 0) (pa_cons (pv 1) (pa_cons (pv 2) pa_nil)))))) pa_nil)) pe_int)))), ?_⟩
    have h1 := ht.lo
    have h2 := ht.hi
    have hN : (gl t).n = t.length - 1 := rfl
    refine ⟨_, rfl, a, t, rfl, hA, ht, fun b H1 s1 nb hb => ?_⟩
    refine ⟨_, rfl, b, rfl, ⟨_, .inl (.inl hb)⟩, fun D hD => ?_⟩
    refine lc_list (K := K) (a := b) (xs := iv (HM.reps (gl t))) (fun m H' => Same H1 H' ∧ H' D = some (.lst (iv (((HM.reps (gl t)).take m).map (HM.mrp (gl t) (gl t).n))))) ⟨same_upd hD, upd_same⟩ (fun m H' _ h => .inl (.inl (h.1 _ _ hb))) ?_ ?_
    · rintro m y H2 hy ⟨s2, d2⟩
      have hm : m < (HM.reps (gl t)).length := by
        have := (List.getElem?_eq_some_iff.mp hy).1
        rwa [iv_len] at this
      have gc := get_some hm
      obtain rfl : V.int (((HM.reps (gl t)).getD m 0 : Nat) : Int) = y := Option.some.inj ((iv_get gc).symm.trans hy)
      have hmem := List.mem_of_getElem? gc
      have htake : (HM.reps (gl t)).take (m + 1) = (HM.reps (gl t)).take m ++ [(HM.reps (gl t)).getD m 0] := by rw [List.take_add_one, gc]; rfl
      generalize (HM.reps (gl t)).getD m 0 = o at *
      refine ⟨rfl, yesT ?_⟩
      refine ⟨_, rfl, _, rfl, _, rfl, a, b, t, o, (gl t).n, rfl, (s1.trans s2).seq hA, .inl (.inl (s2 _ _ hb)), ht, hmem, HM.onw_n hmem, by omega, fun H3 s3 => ?_⟩
      refine ⟨_, s3 _ _ d2, ?_, same_set (s2.trans s3) hD, ?_⟩
      · rw [iv_len, List.length_map, List.length_take]
        have := reps_len t
        show _ < 2 ^ 24
        omega
      · rw [upd_same, htake, List.map_append, iv_snoc]
        rfl
    rintro H2 ⟨s2, d2⟩
    rw [iv_len, List.take_length, iv_ints] at d2
    refine ⟨D, _, rfl, .inl (.inl d2), ?_, fun m hm1 hm2 => ⟨_, _, rfl, rfl, ?_⟩⟩
    · rw [List.length_map, List.length_map]
      exact List.length_pos_iff.mpr (HM.reps_some hk)
    · have hm := max_nat hm1 hm2
      have hpos : 1 ≤ ((HM.reps (gl t)).map (HM.mrp (gl t) (gl t).n)).foldl max 0 := by
        obtain ⟨r, hr1⟩ := List.exists_mem_of_ne_nil _ (HM.reps_some hk)
        have x1 := (HM.fm_ge (l := (HM.reps (gl t)).map (HM.mrp (gl t) (gl t).n)) 0).2 _ (List.mem_map.mpr ⟨r, hr1, rfl⟩)
        have x2 : 1 ≤ HM.mrp (gl t) (gl t).n r := by
          obtain ⟨n', hn'⟩ : ∃ n', (gl t).n = n' + 1 := ⟨(gl t).n - 1, by omega⟩
          rw [hn']
          show 1 ≤ 1 + _
          omega
        omega
      have e : m - 1 = ((Su186.power (gl t) : Nat) : Int) := by
        rw [HM.power_eq, hm]
        omega
      show Q (.int (m - 1)) H2
      rw [e]
      exact q H2 (s1.trans s2)
end
end FG
namespace FG
open PyProof.Rows L2 PySem PySem.Spec
theorem scFl : FnScope ["spots", "piece", "steps", "counts"] ["spots", "piece"] (defScope sFl) := ⟨rfl, rfl, rfl, by decide +kernel, rfl, by decide +kernel, by decide +kernel⟩
theorem scSh : FnScope ["spots", "steps", "counts", "piece", "count"] ["spots"] (defScope sSh) := ⟨rfl, rfl, rfl, by decide +kernel, rfl, by decide +kernel, by decide +kernel⟩
/-- the first loop, or nothing -/
def flN (t : List Nat) (i : Nat) : List Nat := match Su186.shortest (gl t) i with
  | some k => (Su186.allWays (gl t) i i k).headD []
  | none => []
/-- the shoe, or nothing -/
def shN (t : List Nat) : List Nat := match Su186.shoe (gl t) with
  | some z => z.1 :: z.2 :: ((Su186.allWays (gl t) z.2 z.2 z.1).take 2).flatten
  | none => []
theorem lrow_get {t : List Nat} {m i : Nat} (hi : i + 1 < t.length) : (lrow t m)[i]? = some (Su186.ways (gl t) i i (m + 1)) := by
  unfold lrow
  rw [tab_get (by omega), wc_ways]
theorem way_some {t : List Nat} {i k m : Nat} (hi : i + 1 < t.length) (h : m < Su186.ways (gl t) i i k) : ∃ W, (Su186.allWays (gl t) i i k)[m]? = some W ∧ W.length = k + 1 := by
  have hn : i < (gl t).n := by show i < t.length - 1; omega
  have hl := HM.allWays_len hn k i hn
  have hm : m < (Su186.allWays (gl t) i i k).length := by omega
  refine ⟨(Su186.allWays (gl t) i i k)[m], List.getElem?_eq_getElem hm, ?_⟩
  exact HM.allWays_wlen hn k i _ (List.getElem_mem hm)
section
variable {base : Heap} {mg : Str → Option Value} {K : PySem.W.Frag} {P : Program} {w : World}
/-! ### first_loop -/
def spFl (K : PySem.W.Frag) : Sp := fun vs H Q _ => ∃ (a : Addr) (t : List Nat) (i : Nat), vs = [.ref a, .int (i : Int)] ∧ SqL K H a (iv t) ∧ Pts t ∧ i + 1 < t.length ∧
  ∀ p H', Same H H' → H p = none → H' p = some (.lst (iv (flN t i))) → Q (.ref p) H'
theorem ok_fl {f : Addr} {fd : FuncData} {k : Nat} (L : Ln K mg) (F : Fun K "first_loop" "first_loop" sFl f fd) : FnOk P w K mg base CX0 (k + 5) f fd ["spots", "piece"] (spFl K) := by
  have B := L.B
  have GL : FnOk P w K mg base CX0 (k + 4) L.fLb L.fdLb ["spots", "most"] (spLb K) := ok_lb (k := k + 1) L
  have GW : FnOk P w K mg base CX0 (k + 4) L.fWa L.fdWa ["spots", "first", "last", "steps", "before"] (spWa K) := ok_wa L
  have GP : FnOk P w K mg base CX0 (k + 4) L.fP L.fdP ["spots"] (spPc K) := ok_pc L.DP.F B
  refine F.ok scFl (fun vs H Q E h => ?_) (fun cdv A outer s H vs Q E hr h => ?_)
  · obtain ⟨a, t, i, rfl, _⟩ := h
    rfl
  · obtain ⟨a, t, i, rfl, hA, ht, hi, q⟩ := h
    refine ⟨_, (pss_cons (ps_for PassesOwn.never rfl (pi_one1 (by rfl) B.enum (pa_cons (pe_call GL hr (by rfl) L.DLb.g L.DLb.F.kp L.DLb.b .nil pass0 (pa_cons (pv 0) (pa_cons (pe_call GP hr (by rfl) L.DP.g L.DP.F.kp L.DP.b .nil pass0 (pa_cons (pv 0) pa_nil)) pa_nil))) pa_nil) (pk_cons pe_int pk_nil)) (pg_tup rfl (pgs_cons ((pg_name (i := 2) scFl.nd rfl (.inl rfl))) (pgs_cons ((pg_name (i := 3) scFl.nd rfl (.inl rfl))) pgs_nil)))
        (pss_one (ps_if (pt_cmpR op_gt ((pe_ix ix_list (pv 3) (pv 1) (fun _ _ => rfl))) pe_int (nomark _)) (pss_one (ps_ret ((pe_call GW hr (by rfl) L.DWa.g L.DWa.F.kp L.DWa.b .nil pass0 (pa_cons (pv 0) (pa_cons (pv 1) (pa_cons (pv 1) (pa_cons (pv 2) (pa_cons pe_int pa_nil))))))))) pss_nil))) (pss_one (ps_ret (pe_lst pa_nil)))), ?_⟩
    have h1 := ht.lo
    have h2 := ht.hi
    have hN : (gl t).n = t.length - 1 := rfl
    have e0 : ((iv t).length : Int) - 1 = ((t.length - 1 : Nat) : Int) := by rw [iv_len]; omega
    refine ⟨_, rfl, _, rfl, a, iv t, rfl, hA, a, t, t.length - 1, by rw [e0]; rfl, hA, ht, by omega, fun p H1 ps s1 hp hl hR => ?_⟩
    refine ⟨p, rv ps, rfl, rfl, .inl (.inl hp), for_it (walk_one (K := K) (a := p) (xs := rv ps)) (fun m σ H' => ∃ v2 v3, σ = [some (.ref a), some (.int (i : Int)), v2, v3] ∧ Same H1 H' ∧ ∀ k', k' < m → Su186.ways (gl t) i i (k' + 1) = 0)
      ⟨none, none, rfl, fun b x e => e, fun k' h => by omega⟩ (fun m σ H' _ ⟨_, _, _, sx, _⟩ => .inl (.inl (sx _ _ hp))) ?_ ?_⟩
    · rintro m x σ H2 H3 hm ⟨v2, v3, rfl, s2, hz⟩ ⟨T, x1, x2, rfl, nT, rfl, e1, e2⟩
      rw [rv_len] at hm
      obtain ⟨c, hc⟩ := at_len hm
      obtain rfl : V.int (1 + (m : Int)) = x1 := Option.some.inj e1
      obtain rfl : V.ref c = x2 := Option.some.inj ((rv_get hc).symm.trans e2)
      have s3 : Same H2 (upd H2 T (.tup [.int (1 + (m : Int)), .ref c])) := same_upd nT
      refine ⟨T, _, rfl, .inl (.inl upd_same), rfl, _, _, rfl, _, _, rfl, rfl, ?_⟩
      have s4 := s2.trans s3
      generalize (upd H2 T (.tup [.int (1 + (m : Int)), .ref c])) = H4 at s3 s4 ⊢
      have hcH := s4 _ _ (hR _ _ hc)
      refine ⟨_, rfl, _, rfl, c, _, _, _, rfl, rfl, .inl (.inl hcH), atI_nat (iv_get (lrow_get hi)), _, _, rfl, rfl, _, rfl, ite2 (fun e => ?_) (fun e => ?_)⟩
      · have e3 : 0 < Su186.ways (gl t) i i (m + 1) := by have := of_decide_eq_true e; omega
        obtain ⟨W, hW, _⟩ := way_some hi e3
        refine ⟨_, rfl, _, rfl, _, rfl, _, rfl, a, t, i, i, m + 1, 0, W, ?_, (s1.trans s4).seq hA, ht, hi, hi, by omega, hW, fun r H5 s5 nr hr5 => ?_⟩
        · rw [show 1 + (m : Int) = ((m + 1 : Nat) : Int) by omega]
          rfl
        · refine q r H5 ((s1.trans s4).trans s5) ((s1.trans s4).free nr) ?_
          have : flN t i = W := by
            unfold flN
            rw [HM.shortest_at (k := m) (by omega) hz (by omega)]
            exact HM.head_of hW
          rw [this]
          exact hr5
      · have e3 : Su186.ways (gl t) i i (m + 1) = 0 := Classical.byContradiction fun z => e (decide_eq_true (by omega))
        refine ⟨_, _, rfl, s4, fun k' hk' => ?_⟩
        by_cases z : k' = m
        · rw [z]; exact e3
        · exact hz k' (by omega)
    · rintro σ H2 ⟨v2, v3, rfl, s2, hz⟩
      rw [rv_len, hl] at hz
      refine ⟨Nat.zero_le _, fun o no => q o _ ((s1.trans s2).trans (same_upd no)) ((s1.trans s2).free no) ?_⟩
      have : flN t i = [] := by
        unfold flN
        rw [HM.shortest_no fun k' hk' => hz k' (by omega)]
      rw [this]
      exact upd_same

/-! ### shoe_of -/
def spSh (K : PySem.W.Frag) : Sp := fun vs H Q _ => ∃ (a : Addr) (t : List Nat), vs = [.ref a] ∧ SqL K H a (iv t) ∧ Pts t ∧
  ∀ p H', Same H H' → H p = none → H' p = some (.lst (iv (shN t))) → Q (.ref p) H'
theorem ok_sh {f : Addr} {fd : FuncData} {k : Nat} (L : Ln K mg) (F : Fun K "shoe_of" "shoe_of" sSh f fd) : FnOk P w K mg base CX0 (k + 5) f fd ["spots"] (spSh K) := by
  have B := L.B
  have GL : FnOk P w K mg base CX0 (k + 4) L.fLb L.fdLb ["spots", "most"] (spLb K) := ok_lb (k := k + 1) L
  have GW : FnOk P w K mg base CX0 (k + 4) L.fWa L.fdWa ["spots", "first", "last", "steps", "before"] (spWa K) := ok_wa L
  have GP : FnOk P w K mg base CX0 (k + 4) L.fP L.fdP ["spots"] (spPc K) := ok_pc L.DP.F B
  refine F.ok scSh (fun vs H Q E h => ?_) (fun cdv A outer s H vs Q E hr h => ?_)
  · obtain ⟨a, t, rfl, _⟩ := h
    rfl
  · obtain ⟨a, t, rfl, hA, ht, q⟩ := h
    refine ⟨_, (pss_cons (ps_for PassesOwn.never rfl (pi_one1 (by rfl) B.enum (pa_cons (pe_call GL hr (by rfl) L.DLb.g L.DLb.F.kp L.DLb.b .nil pass0 (pa_cons (pv 0) (pa_cons (pe_op op_mul pe_int ((pe_call GP hr (by rfl) L.DP.g L.DP.F.kp L.DP.b .nil pass0 (pa_cons (pv 0) pa_nil)))) pa_nil))) pa_nil) (pk_cons pe_int pk_nil)) (pg_tup rfl (pgs_cons ((pg_name (i := 1) scSh.nd rfl (.inl rfl))) (pgs_cons ((pg_name (i := 2) scSh.nd rfl (.inl rfl))) pgs_nil)))
        (pss_one (ps_for PassesOwn.never rfl (pi_enum (by rfl) B.enum (pa_cons (pv 2) pa_nil)) (pg_tup rfl (pgs_cons ((pg_name (i := 3) scSh.nd rfl (.inl rfl))) (pgs_cons ((pg_name (i := 4) scSh.nd rfl (.inl rfl))) pgs_nil)))
          (pss_one (ps_if (pt_cmpR op_gt (pv 4) pe_int (nomark _))
            (pss_one (ps_ret (pe_op op_cat (pe_op op_cat (pe_lst (pa_cons (pv 1) (pa_cons (pv 3) pa_nil))) ((pe_call GW hr (by rfl) L.DWa.g L.DWa.F.kp L.DWa.b .nil pass0 (pa_cons (pv 0) (pa_cons (pv 3) (pa_cons (pv 3) (pa_cons (pv 1) (pa_cons pe_int pa_nil)))))))) ((pe_call GW hr (by rfl) L.DWa.g L.DWa.F.kp L.DWa.b .nil pass0 (pa_cons (pv 0) (pa_cons (pv 3) (pa_cons (pv 3) (pa_cons (pv 1) (pa_cons pe_int pa_nil)))))))))) pss_nil))))) (pss_one (ps_ret (pe_lst pa_nil)))), ?_⟩
    have h1 := ht.lo
    have h2 := ht.hi
    have hN : (gl t).n = t.length - 1 := rfl
    have e0 : (2 : Int) * (((iv t).length : Int) - 1) = ((2 * (t.length - 1) : Nat) : Int) := by rw [iv_len]; omega
    refine ⟨_, rfl, _, rfl, a, iv t, rfl, hA, _, _, rfl, rfl, .inl ⟨by decide, by decide⟩, ?_⟩
    refine ⟨a, t, 2 * (t.length - 1), by dsimp only; rw [e0]; rfl, hA, ht, by omega, fun p H1 ps s1 hp hl hR => ?_⟩
    refine ⟨p, rv ps, rfl, rfl, .inl (.inl hp), for_it (walk_one (K := K) (a := p) (xs := rv ps)) (fun m σ H' => ∃ v1 v2 v3 v4, σ = [some (.ref a), v1, v2, v3, v4] ∧ Same H1 H' ∧ ∀ k', k' < m → ∀ i', i' < (gl t).n → Su186.ways (gl t) i' i' (k' + 1) ≤ 1)
      ⟨none, none, none, none, rfl, fun b x e => e, fun k' h => by omega⟩ (fun m σ H' _ ⟨_, _, _, _, _, sx, _⟩ => .inl (.inl (sx _ _ hp))) ?_ ?_⟩
    · rintro m x σ H2 H3 hm ⟨v1, v2, v3, v4, rfl, s2, hz⟩ ⟨T, x1, x2, rfl, nT, rfl, e1, e2⟩
      rw [rv_len] at hm
      obtain ⟨c, hc⟩ := at_len hm
      obtain rfl : V.int (1 + (m : Int)) = x1 := Option.some.inj e1
      obtain rfl : V.ref c = x2 := Option.some.inj ((rv_get hc).symm.trans e2)
      have s3 : Same H2 (upd H2 T (.tup [.int (1 + (m : Int)), .ref c])) := same_upd nT
      refine ⟨T, _, rfl, .inl (.inl upd_same), rfl, _, _, rfl, _, _, rfl, rfl, ?_⟩
      have s4 := s2.trans s3
      generalize (upd H2 T (.tup [.int (1 + (m : Int)), .ref c])) = H4 at s3 s4 ⊢
      have hcH := s4 _ _ (hR _ _ hc)
      have hll : (iv (lrow t m)).length = t.length - 1 := by rw [iv_len]; unfold lrow; rw [tab_len]
      refine ⟨_, rfl, c, iv (lrow t m), rfl, .inl (.inl hcH), for_it (walk_enum (K := K) (a := c) (xs := iv (lrow t m))) (fun i σ H' => ∃ v3 v4, σ = [some (.ref a), some (.int (1 + (m : Int))), some (.ref c), v3, v4] ∧ Same H4 H' ∧ ∀ i', i' < i → Su186.ways (gl t) i' i' (m + 1) ≤ 1)
        ⟨v3, v4, rfl, fun b x e => e, fun k' h => by omega⟩ (fun m σ H' _ ⟨_, _, _, sx, _⟩ => .inl (.inl (sx _ _ hcH))) ?_ ?_⟩
      · rintro i x σ H5 H6 hi ⟨v3, v4, rfl, s5, hy⟩ ⟨T2, y1, y2, rfl, nT2, rfl, f1, f2⟩
        rw [hll] at hi
        obtain rfl : V.int (i : Nat) = y1 := Option.some.inj f1
        obtain rfl : V.int ((Su186.ways (gl t) i i (m + 1) : Nat) : Int) = y2 := Option.some.inj ((iv_get (lrow_get (by omega))).symm.trans f2)
        have s6 : Same H5 (upd H5 T2 (.tup [.int (i : Nat), .int ((Su186.ways (gl t) i i (m + 1) : Nat) : Int)])) := same_upd nT2
        refine ⟨T2, _, rfl, .inl (.inl upd_same), rfl, _, _, rfl, _, _, rfl, rfl, ?_⟩
        have s7 := s5.trans s6
        generalize (upd H5 T2 (.tup [.int (i : Nat), .int ((Su186.ways (gl t) i i (m + 1) : Nat) : Int)])) = H7 at s6 s7 ⊢
        refine ⟨_, rfl, _, _, rfl, rfl, _, rfl, ite2 (fun e => ?_) (fun e => ?_)⟩
        · have e3 : 1 < Su186.ways (gl t) i i (m + 1) := by have := of_decide_eq_true e; omega
          have i1 : i + 1 < t.length := by omega
          obtain ⟨W0, hW0, l0⟩ := way_some (m := 0) (k := m + 1) i1 (by omega)
          obtain ⟨W1, hW1, l1⟩ := way_some (m := 1) (k := m + 1) i1 e3
          have em : 1 + (m : Int) = ((m + 1 : Nat) : Int) := by omega
          have s8 := s1.trans (s4.trans s7)
          refine ⟨_, rfl, _, rfl, by show 2 ≤ sizeLine; decide, fun z nz => ?_⟩
          have s9 := same_upd (o := .lst [V.int (1 + (m : Int)), V.int (i : Int)]) nz
          have z9 : (upd H7 z (.lst [V.int (1 + (m : Int)), V.int (i : Int)])) z = some (.lst [V.int (1 + (m : Int)), V.int (i : Int)]) := upd_same
          have s10 := s8.trans s9
          generalize (upd H7 z (.lst [V.int (1 + (m : Int)), V.int (i : Int)])) = H9 at s9 z9 s10 ⊢
          refine ⟨_, rfl, _, rfl, _, rfl, _, rfl, a, t, i, i, m + 1, 0, W0, by rw [em]; rfl, s10.seq hA, ht, i1, i1, by omega, hW0, fun r H10 s11 nr hr10 => ?_⟩
          refine ⟨z, r, _, _, rfl, rfl, s11 _ _ z9, hr10, ?_, fun y ny => ?_⟩
          · rw [iv_len, l0]
            show 2 + (m + 1 + 1) ≤ 2 ^ 24
            omega
          have s12 := s10.trans (s11.trans (same_upd (o := .lst ([V.int (1 + (m : Int)), V.int (i : Int)] ++ iv W0)) ny))
          have y12 : (upd H10 y (.lst ([V.int (1 + (m : Int)), V.int (i : Int)] ++ iv W0))) y = some (.lst ([V.int (1 + (m : Int)), V.int (i : Int)] ++ iv W0)) := upd_same
          generalize (upd H10 y (.lst ([V.int (1 + (m : Int)), V.int (i : Int)] ++ iv W0))) = H11 at s12 y12 ⊢
          refine ⟨_, rfl, _, rfl, _, rfl, _, rfl, a, t, i, i, m + 1, 1, W1, by rw [em]; rfl, s12.seq hA, ht, i1, i1, by omega, hW1, fun r2 H12 s13 nr2 hr12 => ?_⟩
          refine ⟨y, r2, _, _, rfl, rfl, s13 _ _ y12, hr12, ?_, fun v nv => ?_⟩
          · rw [List.length_append, iv_len, iv_len, l0, l1]
            show 2 + (m + 1 + 1) + (m + 1 + 1) ≤ 2 ^ 24
            omega
          refine q v _ ((s12.trans s13).trans (same_upd nv)) ((s12.trans s13).free nv) ?_
          have : shN t = (m + 1) :: i :: (W0 ++ W1) := by
            unfold shN
            rw [HM.shoe_at (k := m) (i := i) (by omega) (by omega) hz hy e3]
            dsimp only
            rw [HM.take_two hW0 hW1]
          rw [upd_same, this, em]
          unfold iv
          rw [List.map_cons, List.map_cons, List.map_append]
          rfl
        · have e3 : Su186.ways (gl t) i i (m + 1) ≤ 1 := Nat.le_of_not_lt fun z => e (decide_eq_true (by omega))
          refine ⟨_, _, rfl, s7, fun i' hi' => ?_⟩
          by_cases z : i' = i
          · rw [z]; exact e3
          · exact hy i' (by omega)
      · rintro σ H5 ⟨v3, v4, rfl, s5, hy⟩
        rw [hll] at hy
        refine ⟨_, _, _, _, rfl, s4.trans s5, fun k' hk' i' hi' => ?_⟩
        by_cases z : k' = m
        · rw [z]; exact hy i' (by omega)
        · exact hz k' (by omega) i' hi'
    · rintro σ H2 ⟨v1, v2, v3, v4, rfl, s2, hz⟩
      rw [rv_len, hl] at hz
      refine ⟨Nat.zero_le _, fun o no => q o _ ((s1.trans s2).trans (same_upd no)) ((s1.trans s2).free no) ?_⟩
      have : shN t = [] := by
        unfold shN
        rw [HM.shoe_no fun k' hk' => hz k' (by omega)]
      rw [this]
      exact upd_same
end
end FG
namespace FG
open PyProof.Rows L2 PySem PySem.Spec
abbrev mWm : Stmt := inClass sSes 11
abbrev mLs : Stmt := inClass sSes 12
abbrev mSt : Stmt := inClass sSes 13
abbrev mKi : Stmt := inClass sSes 14
abbrev mPo : Stmt := inClass sSes 15
abbrev mSh : Stmt := inClass sSes 16
abbrev mRm : Stmt := inClass sSes 17
abbrev mLo : Stmt := inClass sSes 18
abbrev mOp : Stmt := inClass sSes 20
abbrev mOw : Stmt := inClass sSes 21
abbrev mOg : Stmt := inClass sSes 22
theorem scWm : FnScope ["self", "first", "last", "steps", "before"] ["self", "first", "last", "steps", "before"] (defScope mWm) := ⟨rfl, rfl, rfl, by decide +kernel, rfl, by decide +kernel, by decide +kernel⟩
theorem scLs : FnScope ["self", "steps"] ["self", "steps"] (defScope mLs) := ⟨rfl, rfl, rfl, by decide +kernel, rfl, by decide +kernel, by decide +kernel⟩
theorem scSt : FnScope ["self"] ["self"] (defScope mSt) := ⟨rfl, rfl, rfl, by decide +kernel, rfl, by decide +kernel, by decide +kernel⟩
theorem scKiM : FnScope ["self"] ["self"] (defScope mKi) := ⟨rfl, rfl, rfl, by decide +kernel, rfl, by decide +kernel, by decide +kernel⟩
theorem scPoM : FnScope ["self"] ["self"] (defScope mPo) := ⟨rfl, rfl, rfl, by decide +kernel, rfl, by decide +kernel, by decide +kernel⟩
theorem scShM : FnScope ["self", "told"] ["self"] (defScope mSh) := ⟨rfl, rfl, rfl, by decide +kernel, rfl, by decide +kernel, by decide +kernel⟩
theorem scRm : FnScope ["self", "piece", "pieces"] ["self", "piece"] (defScope mRm) := ⟨rfl, rfl, rfl, by decide +kernel, rfl, by decide +kernel, by decide +kernel⟩
theorem scLo : FnScope ["self", "piece", "way"] ["self", "piece"] (defScope mLo) := ⟨rfl, rfl, rfl, by decide +kernel, rfl, by decide +kernel, by decide +kernel⟩
theorem scOp : FnScope ["self", "number", "arguments"] ["self", "number", "arguments"] (defScope mOp) := ⟨rfl, rfl, rfl, by decide +kernel, rfl, by decide +kernel, by decide +kernel⟩
theorem scOw : FnScope ["self", "number", "arguments"] ["self", "number", "arguments"] (defScope mOw) := ⟨rfl, rfl, rfl, by decide +kernel, rfl, by decide +kernel, by decide +kernel⟩
theorem scOg : FnScope ["self", "number", "arguments"] ["self", "number", "arguments"] (defScope mOg) := ⟨rfl, rfl, rfl, by decide +kernel, rfl, by decide +kernel, by decide +kernel⟩
theorem scAn : FnScope ["self", "number", "arguments"] ["self", "number", "arguments"] (defScope mAns) := ⟨rfl, rfl, rfl, by decide +kernel, rfl, by decide +kernel, by decide +kernel⟩
/-- the names of stage 2, and the calls' numbers -/
structure Tc (mg : Str → Option Value) : Prop where
  c33 : ∃ t, mg "NONE_THERE" = some (.int (-33) t)
  mw : ∃ t, mg "MOST_WAY_STEPS" = some (.int 8 t)
  n0 : ∃ t, mg "BEGIN" = some (.int 0 t)
  n1 : ∃ t, mg "SET" = some (.int 1 t)
  n2 : ∃ t, mg "ROW" = some (.int 2 t)
  n3 : ∃ t, mg "TURN" = some (.int 3 t)
  n4 : ∃ t, mg "STATE" = some (.int 4 t)
  n5 : ∃ t, mg "HAS" = some (.int 5 t)
  n6 : ∃ t, mg "LENGTH" = some (.int 6 t)
  n7 : ∃ t, mg "WAYS" = some (.int 7 t)
  n8 : ∃ t, mg "WAY" = some (.int 8 t)
  n9 : ∃ t, mg "LOOPS" = some (.int 9 t)
  n10 : ∃ t, mg "STEPS" = some (.int 10 t)
  n11 : ∃ t, mg "KIND" = some (.int 11 t)
  n12 : ∃ t, mg "POWER" = some (.int 12 t)
  n13 : ∃ t, mg "SHOE" = some (.int 13 t)
  n14 : ∃ t, mg "ROOM" = some (.int 14 t)
abbrev ci (l : List Nat) : List Int := l.map fun (x : Nat) => (x : Int)
theorem iv_ci (l : List Nat) : iv l = (ci l).map V.int := iv_ints l

section
variable {base : Heap} {mg : Str → Option Value} {K : PySem.W.Frag} {P : Program} {w : World} {C : Addr}
/-! ### way -/
def aWm (t : List Nat) (i j k m : Nat) : List Nat × List Int := (t, if t.length ≤ i + 1 ∨ t.length ≤ j + 1 then [-2] else if 8 < k then [-22] else if wcN t i j k ≤ m then [-33] else ((k + 1 : Nat) : Int) :: ci ((Su186.allWays (gl t) j i k).getD m []))
def spWm (C : Addr) : Sp := fun vs H Q _ => ∃ (x sp : Addr) (t : List Nat) (i j n m : Nat), vs = [.ref x, .int (i : Int), .int (j : Int), .int (n : Int), .int (m : Int)] ∧ SesAt C H x sp t ∧ Pts t ∧ Out C x sp H Q (aWm t i j n m)
theorem ok_wm {f fI : Addr} {fd fdI : FuncData} {k : Nat} (F : Fun K "way" "Session.way" mWm f fd) (T : Tx K mg C) (TC : Tc mg) (L : Ln K mg) (MI : Mt K C "is_piece" "Session.is_piece" mIsPc ["self", "piece"] fI fdI) : FnOk P w K mg base CX0 (k + 5) f fd ["self", "first", "last", "steps", "before"] (spWm C) := by
  have GW : FnOk P w K mg base CX0 (k + 4) L.fWc L.fdWc ["spots", "first", "last", "steps"] (spWc K) := ok_wc L.DWc.F L.B L.DW L.DB L.DP L.DO L.DC
  have GA : FnOk P w K mg base CX0 (k + 4) L.fWa L.fdWa ["spots", "first", "last", "steps", "before"] (spWa K) := ok_wa L
  have GI : FnOk P w K mg base CX0 (k + 4) fI fdI ["self", "piece"] (spIsPc C) := ok_ispc (k := k + 2) MI.F T L
  obtain ⟨t2, g2⟩ := T.c2
  obtain ⟨t22, g22⟩ := T.c22
  obtain ⟨t33, g33⟩ := TC.c33
  obtain ⟨tmw, gmw⟩ := TC.mw
  refine F.ok scWm (fun vs H Q E h => ?_) (fun cdv A outer s H vs Q E hr h => ?_)
  · obtain ⟨x, sp, t, i, j, n, m, rfl, _⟩ := h
    rfl
  · obtain ⟨x, sp, t, i, j, n, m, rfl, S, ht, q⟩ := h
    obtain ⟨dx, hx⟩ := S.obj
    refine ⟨_, (pss_cons (ps_if (PW.pt (pw_or (pt_not (pt_val ((pe_meth (pv 0) T.cl MI.m GI hr MI.b .nil pass0 (pa_cons (pv 1) pa_nil))))) (pw_or1 (pt_not (pt_val ((pe_meth (pv 0) T.cl MI.m GI hr MI.b .nil pass0 (pa_cons (pv 2) pa_nil)))))))) (pss_one (ps_ret (pe_lst (pa_cons (pe_glob (v := .int (-2)) (by rfl) g2 ⟨_, rfl⟩) pa_nil)))) pss_nil)
      (pss_cons (ps_if (pt_cmpR op_gt (pv 3) ((pe_glob (v := .int 8) (by rfl) gmw ⟨_, rfl⟩)) (nomark _)) (pss_one (ps_ret (pe_lst (pa_cons (pe_glob (v := .int (-22)) (by rfl) g22 ⟨_, rfl⟩) pa_nil)))) pss_nil)
      (pss_cons (ps_if (pt_cmpR op_le ((pe_call GW hr (by rfl) L.DWc.g L.DWc.F.kp L.DWc.b .nil pass0 (pa_cons (pe_fld (pv 0) rfl) (pa_cons (pv 1) (pa_cons (pv 2) (pa_cons (pv 3) pa_nil)))))) (pv 4) (nomark _)) (pss_one (ps_ret (pe_lst (pa_cons (pe_glob (v := .int (-33)) (by rfl) g33 ⟨_, rfl⟩) pa_nil)))) pss_nil) (pss_one (ps_ret (pe_op op_cat (pe_lst (pa_cons (pe_op op_add (pv 3) pe_int) pa_nil)) ((pe_call GA hr (by rfl) L.DWa.g L.DWa.F.kp L.DWa.b .nil pass0 (pa_cons (pe_fld (pv 0) rfl) (pa_cons (pv 1) (pa_cons (pv 2) (pa_cons (pv 3) (pa_cons (pv 4) pa_nil))))))))))))), ?_⟩
    have nI : (sF sp).lookup ("is_piece" : Str) = none := sF_no sp (by decide +kernel)
    unfold aWm at q
    have bad : (t.length ≤ i + 1 ∨ t.length ≤ j + 1) → (1 ≤ sizeLine ∧ ∀ p, H p = none → Q (.ref p) (upd H p (.lst [.int (-2)]))) := fun hb => by
      refine ⟨by decide, fun p hp => ?_⟩
      rw [if_pos hb] at q
      exact q.still S (same_upd hp) hp upd_same
    refine ⟨_, rfl, x, dx, _, rfl, hx, nI, _, rfl, x, sp, t, i, rfl, S, _, rfl, ite2 (fun e => iteT ?_) (fun e => ?_)⟩
    · refine bad (.inl ?_)
      have : ¬ i + 1 < t.length := fun z => by rw [decide_eq_true z] at e; cases e
      omega
    · have e1 : i + 1 < t.length := Classical.byContradiction fun z => e (by rw [decide_eq_false z]; rfl)
      refine ⟨_, rfl, x, dx, _, rfl, hx, nI, _, rfl, x, sp, t, j, rfl, S, _, rfl, ite2 (fun e => ?_) (fun e => ?_)⟩
      · refine bad (.inr ?_)
        have : ¬ j + 1 < t.length := fun z => by rw [decide_eq_true z] at e; cases e
        omega
      · have e2 : j + 1 < t.length := Classical.byContradiction fun z => e (by rw [decide_eq_false z]; rfl)
        rw [if_neg (by omega)] at q
        refine ⟨_, rfl, _, _, rfl, rfl, _, rfl, ite2 (fun e => ?_) (fun e => ?_)⟩
        · rw [if_pos (by have := of_decide_eq_true e; omega)] at q
          exact ⟨by decide, fun p hp => q.still S (same_upd hp) hp upd_same⟩
        · have e3 : ¬ 8 < n := fun z => e (decide_eq_true (by omega))
          rw [if_neg e3] at q
          refine ⟨_, rfl, x, C, dx, _, _, rfl, hx, T.cl, T.nS, sF_spots sp, _, rfl, _, rfl, _, rfl, sp, t, i, j, n, rfl, .inl (.inl S.row), ht, e1, e2, by omega, fun H1 s1 => ?_⟩
          refine ⟨_, rfl, _, _, rfl, rfl, _, rfl, ite2 (fun e => ?_) (fun e => ?_)⟩
          · rw [if_pos (by have := of_decide_eq_true e; omega)] at q
            exact ⟨by decide, fun p hp => q.still S (s1.trans (same_upd hp)) (s1.free hp) upd_same⟩
          · have e4 : ¬ wcN t i j n ≤ m := fun z => e (decide_eq_true (by omega))
            rw [if_neg e4] at q
            refine ⟨_, rfl, _, _, rfl, rfl, one_le _, fun z nz => ?_⟩
            have s2 := s1.trans (same_upd (o := .lst [V.int ((n : Int) + 1)]) nz)
            have z2 : (upd H1 z (.lst [V.int ((n : Int) + 1)])) z = some (.lst [V.int ((n : Int) + 1)]) := upd_same
            have jn : j < (gl t).n := by show j < t.length - 1; omega
            have iN : i < (gl t).n := by show i < t.length - 1; omega
            have hlen := HM.allWays_len jn n i iN
            rw [← wc_ways] at hlen
            have hW : (Su186.allWays (gl t) j i n)[m]? = some ((Su186.allWays (gl t) j i n).getD m []) := by
              rw [List.getD_eq_getElem?_getD, List.getElem?_eq_getElem (by omega)]
              rfl
            have hwl := HM.allWays_wlen jn n i _ (List.mem_of_getElem? hW)
            refine ⟨_, rfl, x, C, dx, _, _, rfl, s2 _ _ hx, T.cl, T.nS, sF_spots sp, _, rfl, _, rfl, _, rfl, _, rfl, sp, t, i, j, n, m, _, rfl, s2.seq (.inl (.inl S.row)), ht, e1, e2, by omega, hW, fun r H2 s3 nr hr2 => ?_⟩
            refine ⟨z, r, _, _, rfl, rfl, s3 _ _ z2, hr2, ?_, fun p hp => ?_⟩
            · rw [iv_len, hwl]
              show 1 + (n + 1) ≤ 2 ^ 24
              omega
            · refine q.still S ((s2.trans s3).trans (same_upd hp)) ((s2.trans s3).free hp) ?_
              rw [upd_same, iv_ci]
              rfl

/-! ### loops, steps -/
def aLs (t : List Nat) (k : Nat) : List Nat × List Int := (t, if k < 1 ∨ 30 < k then [-22] else [((lcN t k : Nat) : Int)])
def spLs (C : Addr) : Sp := fun vs H Q _ => ∃ (x sp : Addr) (t : List Nat) (n : Nat), vs = [.ref x, .int (n : Int)] ∧ SesAt C H x sp t ∧ Pts t ∧ Out C x sp H Q (aLs t n)
theorem ok_ls {f : Addr} {fd : FuncData} {k : Nat} (F : Fun K "loops" "Session.loops" mLs f fd) (T : Tx K mg C) (L : Ln K mg) : FnOk P w K mg base CX0 (k + 5) f fd ["self", "steps"] (spLs C) := by
  have GL : FnOk P w K mg base CX0 (k + 4) L.fLc L.fdLc ["spots", "steps"] (spLc K) := ok_lc L
  obtain ⟨t22, g22⟩ := T.c22
  obtain ⟨tms, gms⟩ := T.ms
  refine F.ok scLs (fun vs H Q E h => ?_) (fun cdv A outer s H vs Q E hr h => ?_)
  · obtain ⟨x, sp, t, n, rfl, _⟩ := h
    rfl
  · obtain ⟨x, sp, t, n, rfl, S, ht, q⟩ := h
    obtain ⟨dx, hx⟩ := S.obj
    refine ⟨_, (pss_cons (ps_if (PW.pt (pw_or (pt_cmpR op_lt (pv 1) pe_int (nomark _)) (pw_or1 (pt_cmpR op_gt (pv 1) ((pe_glob (v := .int 30) (by rfl) gms ⟨_, rfl⟩)) (nomark _))))) (pss_one (ps_ret (pe_lst (pa_cons (pe_glob (v := .int (-22)) (by rfl) g22 ⟨_, rfl⟩) pa_nil)))) pss_nil) (pss_one (ps_ret (pe_lst (pa_cons (pe_call GL hr (by rfl) L.DLc.g L.DLc.F.kp L.DLc.b .nil pass0 (pa_cons (pe_fld (pv 0) rfl) (pa_cons (pv 1) pa_nil))) pa_nil))))), ?_⟩
    unfold aLs at q
    have bad : (n < 1 ∨ 30 < n) → (1 ≤ sizeLine ∧ ∀ p, H p = none → Q (.ref p) (upd H p (.lst [.int (-22)]))) := fun hb => by
      refine ⟨by decide, fun p hp => ?_⟩
      rw [if_pos hb] at q
      exact q.still S (same_upd hp) hp upd_same
    refine ⟨_, rfl, _, _, rfl, rfl, _, rfl, ite2 (fun e => iteT ?_) (fun e => ?_)⟩
    · exact bad (.inl (by have := of_decide_eq_true e; omega))
    · have e1 : ¬ n < 1 := fun z => e (decide_eq_true (by omega))
      refine ⟨_, rfl, _, _, rfl, rfl, _, rfl, ite2 (fun e2 => ?_) (fun e2 => ?_)⟩
      · exact bad (.inr (by have := of_decide_eq_true e2; omega))
      · have e3 : ¬ 30 < n := fun z => e2 (decide_eq_true (by omega))
        rw [if_neg (by omega)] at q
        exact ⟨_, rfl, x, C, dx, _, _, rfl, hx, T.cl, T.nS, sF_spots sp, _, rfl, sp, t, n, rfl, .inl (.inl S.row), ht, by omega, by omega, fun H1 s1 => ⟨one_le _, fun p hp => q.still S (s1.trans (same_upd hp)) (s1.free hp) upd_same⟩⟩
def aSt (t : List Nat) : List Nat × List Int := (t, [((stN t 30 : Nat) : Int)])
def spSt (C : Addr) : Sp := fun vs H Q _ => ∃ (x sp : Addr) (t : List Nat), vs = [.ref x] ∧ SesAt C H x sp t ∧ Pts t ∧ Out C x sp H Q (aSt t)
theorem ok_st {f fS : Addr} {fd fdS : FuncData} {k : Nat} (F : Fun K "steps" "Session.steps" mSt f fd) (T : Tx K mg C) (L : Ln K mg) (DS : Df K mg "steps_of_loops" sSl ["spots", "most"] fS fdS) : FnOk P w K mg base CX0 (k + 5) f fd ["self"] (spSt C) := by
  have GS : FnOk P w K mg base CX0 (k + 4) fS fdS ["spots", "most"] (spSl K) := ok_sl L DS.F
  obtain ⟨tms, gms⟩ := T.ms
  refine F.ok scSt (fun vs H Q E h => ?_) (fun cdv A outer s H vs Q E hr h => ?_)
  · obtain ⟨x, sp, t, rfl, _⟩ := h
    rfl
  · obtain ⟨x, sp, t, rfl, S, ht, q⟩ := h
    obtain ⟨dx, hx⟩ := S.obj
    refine ⟨_, (pss_one (ps_ret (pe_lst (pa_cons (pe_call GS hr (by rfl) DS.g DS.F.kp DS.b .nil pass0 (pa_cons (pe_fld (pv 0) rfl) (pa_cons (pe_glob (v := .int 30) (by rfl) gms ⟨_, rfl⟩) pa_nil))) pa_nil)))), ?_⟩
    exact ⟨_, rfl, x, C, dx, _, _, rfl, hx, T.cl, T.nS, sF_spots sp, sp, t, 30, rfl, .inl (.inl S.row), ht, by omega, fun H1 s1 => ⟨one_le _, fun p hp => q.still S (s1.trans (same_upd hp)) (s1.free hp) upd_same⟩⟩

/-! ### kind, power -/
def aKi (t : List Nat) : List Nat × List Int := (t, [((Su186.kind (gl t) : Nat) : Int)])
def spKiM (C : Addr) : Sp := fun vs H Q _ => ∃ (x sp : Addr) (t : List Nat), vs = [.ref x] ∧ SesAt C H x sp t ∧ Pts t ∧ Out C x sp H Q (aKi t)
theorem ok_kim {f fK : Addr} {fd fdK : FuncData} {k : Nat} (F : Fun K "kind" "Session.kind" mKi f fd) (T : Tx K mg C) (L : Ln K mg) (N : Kn mg) (DK : Df K mg "kind_of" sKi ["spots"] fK fdK) : FnOk P w K mg base CX0 (k + 6) f fd ["self"] (spKiM C) := by
  have GK : FnOk P w K mg base CX0 (k + 5) fK fdK ["spots"] (spKi K) := ok_ki L N DK.F
  refine F.ok scKiM (fun vs H Q E h => ?_) (fun cdv A outer s H vs Q E hr h => ?_)
  · obtain ⟨x, sp, t, rfl, _⟩ := h
    rfl
  · obtain ⟨x, sp, t, rfl, S, ht, q⟩ := h
    obtain ⟨dx, hx⟩ := S.obj
    refine ⟨_, (pss_one (ps_ret (pe_lst (pa_cons (pe_call GK hr (by rfl) DK.g DK.F.kp DK.b .nil pass0 (pa_cons (pe_fld (pv 0) rfl) pa_nil)) pa_nil)))), ?_⟩
    exact ⟨_, rfl, x, C, dx, _, _, rfl, hx, T.cl, T.nS, sF_spots sp, sp, t, rfl, .inl (.inl S.row), ht, fun H1 s1 => ⟨one_le _, fun p hp => q.still S (s1.trans (same_upd hp)) (s1.free hp) upd_same⟩⟩
def aPo (t : List Nat) : List Nat × List Int := (t, if Su186.kind (gl t) ≠ 1 then [-33] else [((Su186.power (gl t) : Nat) : Int)])
def spPoM (C : Addr) : Sp := fun vs H Q _ => ∃ (x sp : Addr) (t : List Nat), vs = [.ref x] ∧ SesAt C H x sp t ∧ Pts t ∧ Out C x sp H Q (aPo t)
theorem ok_pom {f fK fP : Addr} {fd fdK fdP : FuncData} (F : Fun K "power" "Session.power" mPo f fd) (T : Tx K mg C) (TC : Tc mg) (L : Ln K mg) (N : Kn mg) (DK : Df K mg "kind_of" sKi ["spots"] fK fdK) (DP : Df K mg "power_of" sPo ["spots"] fP fdP) : FnOk P w K mg base CX0 11 f fd ["self"] (spPoM C) := by
  have GK : FnOk P w K mg base CX0 10 fK fdK ["spots"] (spKi K) := ok_ki (k := 5) L N DK.F
  have GP : FnOk P w K mg base CX0 10 fP fdP ["spots"] (spPo K) := ok_po L DP.F
  obtain ⟨t33, g33⟩ := TC.c33
  obtain ⟨t1, g1⟩ := N.k1
  refine F.ok scPoM (fun vs H Q E h => ?_) (fun cdv A outer s H vs Q E hr h => ?_)
  · obtain ⟨x, sp, t, rfl, _⟩ := h
    rfl
  · obtain ⟨x, sp, t, rfl, S, ht, q⟩ := h
    obtain ⟨dx, hx⟩ := S.obj
    refine ⟨_, (pss_cons (ps_if (pt_cmpR op_ne ((pe_call GK hr (by rfl) DK.g DK.F.kp DK.b .nil pass0 (pa_cons (pe_fld (pv 0) rfl) pa_nil))) ((pe_glob (v := .int 1) (by rfl) g1 ⟨_, rfl⟩)) (nomark _)) (pss_one (ps_ret (pe_lst (pa_cons (pe_glob (v := .int (-33)) (by rfl) g33 ⟨_, rfl⟩) pa_nil)))) pss_nil) (pss_one (ps_ret (pe_lst (pa_cons (pe_call GP hr (by rfl) DP.g DP.F.kp DP.b .nil pass0 (pa_cons (pe_fld (pv 0) rfl) pa_nil)) pa_nil))))), ?_⟩
    unfold aPo at q
    refine ⟨_, rfl, x, C, dx, _, _, rfl, hx, T.cl, T.nS, sF_spots sp, sp, t, rfl, .inl (.inl S.row), ht, fun H1 s1 => ?_⟩
    refine ⟨rfl, _, rfl, ite2 (fun e => ?_) (fun e => ?_)⟩
    · have e1 : Su186.kind (gl t) ≠ 1 := fun z => by rw [z] at e; simp at e
      rw [if_pos e1] at q
      exact ⟨by decide, fun p hp => q.still S (s1.trans (same_upd hp)) (s1.free hp) upd_same⟩
    · have e1 : Su186.kind (gl t) = 1 := Classical.byContradiction fun z => e (by rw [decide_eq_false (fun y => z (by have := V.int.inj y; omega))]; rfl)
      rw [if_neg (fun z => z e1)] at q
      exact ⟨_, rfl, x, C, dx, _, _, rfl, s1 _ _ hx, T.cl, T.nS, sF_spots sp, sp, t, rfl, s1.seq (.inl (.inl S.row)), ht, e1, fun H2 s2 => ⟨one_le _, fun p hp => q.still S ((s1.trans s2).trans (same_upd hp)) ((s1.trans s2).free hp) upd_same⟩⟩

/-! ### shoe -/
def aSh (t : List Nat) : List Nat × List Int := (t, if shN t = [] then [-33] else ci (shN t))
def spShM (C : Addr) : Sp := fun vs H Q _ => ∃ (x sp : Addr) (t : List Nat), vs = [.ref x] ∧ SesAt C H x sp t ∧ Pts t ∧ Out C x sp H Q (aSh t)
theorem ok_shm {f fS : Addr} {fd fdS : FuncData} {k : Nat} (F : Fun K "shoe" "Session.shoe" mSh f fd) (T : Tx K mg C) (TC : Tc mg) (L : Ln K mg) (DS : Df K mg "shoe_of" sSh ["spots"] fS fdS) : FnOk P w K mg base CX0 (k + 6) f fd ["self"] (spShM C) := by
  have GS : FnOk P w K mg base CX0 (k + 5) fS fdS ["spots"] (spSh K) := ok_sh L DS.F
  have B := L.B
  obtain ⟨t33, g33⟩ := TC.c33
  refine F.ok scShM (fun vs H Q E h => ?_) (fun cdv A outer s H vs Q E hr h => ?_)
  · obtain ⟨x, sp, t, rfl, _⟩ := h
    rfl
  · obtain ⟨x, sp, t, rfl, S, ht, q⟩ := h
    obtain ⟨dx, hx⟩ := S.obj
    refine ⟨_, (pss_cons (ps_set (i := 1) scShM.nd rfl (.inl rfl) ((pe_call GS hr (by rfl) DS.g DS.F.kp DS.b .nil pass0 (pa_cons (pe_fld (pv 0) rfl) pa_nil)))) (pss_one (ps_ret (pe_ifExp (pt_cmpR op_gt ((pe_callB call_len_seq (by rfl) B.len PySem.boot_len (pa_cons (pv 1) pa_nil))) pe_int (nomark _)) (pv 1) (pe_lst (pa_cons (pe_glob (v := .int (-33)) (by rfl) g33 ⟨_, rfl⟩) pa_nil)))))), ?_⟩
    unfold aSh at q
    refine ⟨_, rfl, x, C, dx, _, _, rfl, hx, T.cl, T.nS, sF_spots sp, sp, t, rfl, .inl (.inl S.row), ht, fun p H1 s1 np hp => ?_⟩
    refine ⟨_, rfl, p, iv (shN t), rfl, .inl (.inl (.inl hp)), _, _, rfl, rfl, _, rfl, ite2 (fun e => ?_) (fun e => ?_)⟩
    · have e1 : shN t ≠ [] := fun z => by rw [z] at e; simp at e
      rw [if_neg e1] at q
      refine ⟨_, rfl, q.still S s1 np ?_⟩
      rw [hp, iv_ci]
    · have e1 : shN t = [] := Classical.byContradiction fun z => e (decide_eq_true (by
        rw [iv_len]
        have := List.length_pos_iff.mpr z
        omega))
      rw [if_pos e1] at q
      exact ⟨by decide, fun p hp => q.still S (s1.trans (same_upd hp)) (s1.free hp) upd_same⟩

/-! ### room, loop -/
def aRm (t : List Nat) (i : Nat) : List Nat × List Int := (t, if t.length ≤ i + 1 then [-2] else (((Su186.room (gl t) i).length : Nat) : Int) :: ci (Su186.room (gl t) i))
def spRm (C : Addr) : Sp := fun vs H Q _ => ∃ (x sp : Addr) (t : List Nat) (i : Nat), vs = [.ref x, .int (i : Int)] ∧ SesAt C H x sp t ∧ Pts t ∧ Out C x sp H Q (aRm t i)
theorem room_len (t : List Nat) (i : Nat) : (Su186.room (gl t) i).length ≤ t.length - 1 := by
  unfold Su186.room Su186.pieces
  have := List.length_filter_le (fun j => j == i || (Su186.leads (gl t) i j && Su186.leads (gl t) j i)) (List.range (gl t).n)
  rw [List.length_range] at this
  exact this
theorem ok_rm {f fI : Addr} {fd fdI : FuncData} {k : Nat} (F : Fun K "room" "Session.room" mRm f fd) (T : Tx K mg C) (L : Ln K mg) (MI : Mt K C "is_piece" "Session.is_piece" mIsPc ["self", "piece"] fI fdI) : FnOk P w K mg base CX0 (k + 4) f fd ["self", "piece"] (spRm C) := by
  have GR : FnOk P w K mg base CX0 (k + 3) L.fRo L.fdRo ["spots", "piece"] (spRo K) := ok_ro L
  have GI : FnOk P w K mg base CX0 (k + 3) fI fdI ["self", "piece"] (spIsPc C) := ok_ispc (k := k + 1) MI.F T L
  have B := L.B
  obtain ⟨t2, g2⟩ := T.c2
  refine F.ok scRm (fun vs H Q E h => ?_) (fun cdv A outer s H vs Q E hr h => ?_)
  · obtain ⟨x, sp, t, i, rfl, _⟩ := h
    rfl
  · obtain ⟨x, sp, t, i, rfl, S, ht, q⟩ := h
    obtain ⟨dx, hx⟩ := S.obj
    refine ⟨_, (pss_cons (ps_if (pt_not (pt_val ((pe_meth (pv 0) T.cl MI.m GI hr MI.b .nil pass0 (pa_cons (pv 1) pa_nil))))) (pss_one (ps_ret (pe_lst (pa_cons (pe_glob (v := .int (-2)) (by rfl) g2 ⟨_, rfl⟩) pa_nil)))) pss_nil)
      (pss_cons (ps_set (i := 2) scRm.nd rfl (.inl rfl) ((pe_call GR hr (by rfl) L.DRo.g L.DRo.F.kp L.DRo.b .nil pass0 (pa_cons (pe_fld (pv 0) rfl) (pa_cons (pv 1) pa_nil))))) (pss_one (ps_ret (pe_op op_cat (pe_lst (pa_cons (pe_callB call_len_seq (by rfl) B.len PySem.boot_len (pa_cons (pv 2) pa_nil)) pa_nil)) (pv 2)))))), ?_⟩
    have nI : (sF sp).lookup ("is_piece" : Str) = none := sF_no sp (by decide +kernel)
    have h2 := ht.hi
    unfold aRm at q
    refine ⟨_, rfl, x, dx, _, rfl, hx, nI, _, rfl, x, sp, t, i, rfl, S, _, rfl, ite2 (fun e => ?_) (fun e => ?_)⟩
    · have e1 : ¬ i + 1 < t.length := fun z => by rw [decide_eq_true z] at e; cases e
      rw [if_pos (by omega)] at q
      exact ⟨by decide, fun p hp => q.still S (same_upd hp) hp upd_same⟩
    · have e1 : i + 1 < t.length := Classical.byContradiction fun z => e (by rw [decide_eq_false z]; rfl)
      rw [if_neg (by omega)] at q
      refine ⟨_, rfl, x, C, dx, _, _, rfl, hx, T.cl, T.nS, sF_spots sp, _, rfl, sp, t, i, rfl, .inl (.inl S.row), ht, e1, fun p H1 s1 np hp => ?_⟩
      refine ⟨_, rfl, p, iv (Su186.room (gl t) i), rfl, .inl (.inl (.inl hp)), one_le _, fun z nz => ?_⟩
      have s2 := same_upd (o := .lst [V.int (((iv (Su186.room (gl t) i)).length : Nat) : Int)]) nz
      refine ⟨_, rfl, z, p, _, _, rfl, rfl, upd_same, s2 _ _ hp, ?_, fun r nr => ?_⟩
      · rw [iv_len]
        have := room_len t i
        show 1 + _ ≤ 2 ^ 24
        omega
      · refine q.still S ((s1.trans s2).trans (same_upd nr)) ((s1.trans s2).free nr) ?_
        rw [upd_same, iv_len, iv_ci]
        rfl
def aLo (t : List Nat) (i : Nat) : List Nat × List Int := (t, if t.length ≤ i + 1 then [-2] else if flN t i = [] then [-33] else ((((flN t i).length : Nat) : Int) - 1) :: ci (flN t i))
def spLo (C : Addr) : Sp := fun vs H Q _ => ∃ (x sp : Addr) (t : List Nat) (i : Nat), vs = [.ref x, .int (i : Int)] ∧ SesAt C H x sp t ∧ Pts t ∧ Out C x sp H Q (aLo t i)
theorem fl_len {t : List Nat} (ht : Pts t) {i : Nat} (hi : i + 1 < t.length) : (flN t i).length ≤ 7 ∧ ∀ k, Su186.shortest (gl t) i = some k → (flN t i).length = k + 1 := by
  have h2 := ht.hi
  unfold flN
  cases e : Su186.shortest (gl t) i with
  | none => exact ⟨Nat.zero_le _, fun k h => by cases h⟩
  | some k =>
    unfold Su186.shortest at e
    obtain ⟨k', hk', rfl⟩ := Option.map_eq_some_iff.mp e
    have hm := List.mem_range.mp (List.mem_of_find?_eq_some hk')
    have hw := List.find?_some hk'
    have hw : Su186.ways (gl t) i i (k' + 1) ≠ 0 := bne_iff_ne.mp hw
    obtain ⟨W, hW, hl⟩ := way_some (m := 0) (k := k' + 1) hi (by omega)
    have : (gl t).n = t.length - 1 := rfl
    dsimp only
    rw [HM.head_of hW, hl]
    exact ⟨by omega, fun k h => by cases h; rfl⟩
theorem ok_lo {f fI fL : Addr} {fd fdI fdL : FuncData} {k : Nat} (F : Fun K "loop" "Session.loop" mLo f fd) (T : Tx K mg C) (TC : Tc mg) (L : Ln K mg) (MI : Mt K C "is_piece" "Session.is_piece" mIsPc ["self", "piece"] fI fdI) (DL : Df K mg "first_loop" sFl ["spots", "piece"] fL fdL) : FnOk P w K mg base CX0 (k + 6) f fd ["self", "piece"] (spLo C) := by
  have GL : FnOk P w K mg base CX0 (k + 5) fL fdL ["spots", "piece"] (spFl K) := ok_fl L DL.F
  have GI : FnOk P w K mg base CX0 (k + 5) fI fdI ["self", "piece"] (spIsPc C) := ok_ispc (k := k + 3) MI.F T L
  have B := L.B
  obtain ⟨t2, g2⟩ := T.c2
  obtain ⟨t33, g33⟩ := TC.c33
  refine F.ok scLo (fun vs H Q E h => ?_) (fun cdv A outer s H vs Q E hr h => ?_)
  · obtain ⟨x, sp, t, i, rfl, _⟩ := h
    rfl
  · obtain ⟨x, sp, t, i, rfl, S, ht, q⟩ := h
    obtain ⟨dx, hx⟩ := S.obj
    refine ⟨_, (pss_cons (ps_if (pt_not (pt_val ((pe_meth (pv 0) T.cl MI.m GI hr MI.b .nil pass0 (pa_cons (pv 1) pa_nil))))) (pss_one (ps_ret (pe_lst (pa_cons (pe_glob (v := .int (-2)) (by rfl) g2 ⟨_, rfl⟩) pa_nil)))) pss_nil)
      (pss_cons (ps_set (i := 2) scLo.nd rfl (.inl rfl) ((pe_call GL hr (by rfl) DL.g DL.F.kp DL.b .nil pass0 (pa_cons (pe_fld (pv 0) rfl) (pa_cons (pv 1) pa_nil))))) (pss_one (ps_ret (pe_ifExp (pt_cmpR op_gt ((pe_callB call_len_seq (by rfl) B.len PySem.boot_len (pa_cons (pv 2) pa_nil))) pe_int (nomark _)) (pe_op op_cat (pe_lst (pa_cons (pe_op op_sub ((pe_callB call_len_seq (by rfl) B.len PySem.boot_len (pa_cons (pv 2) pa_nil))) pe_int) pa_nil)) (pv 2)) (pe_lst (pa_cons (pe_glob (v := .int (-33)) (by rfl) g33 ⟨_, rfl⟩) pa_nil))))))), ?_⟩
    have nI : (sF sp).lookup ("is_piece" : Str) = none := sF_no sp (by decide +kernel)
    unfold aLo at q
    refine ⟨_, rfl, x, dx, _, rfl, hx, nI, _, rfl, x, sp, t, i, rfl, S, _, rfl, ite2 (fun e => ?_) (fun e => ?_)⟩
    · have e1 : ¬ i + 1 < t.length := fun z => by rw [decide_eq_true z] at e; cases e
      rw [if_pos (by omega)] at q
      exact ⟨by decide, fun p hp => q.still S (same_upd hp) hp upd_same⟩
    · have e1 : i + 1 < t.length := Classical.byContradiction fun z => e (by rw [decide_eq_false z]; rfl)
      rw [if_neg (by omega)] at q
      refine ⟨_, rfl, x, C, dx, _, _, rfl, hx, T.cl, T.nS, sF_spots sp, _, rfl, sp, t, i, rfl, .inl (.inl S.row), ht, e1, fun p H1 s1 np hp => ?_⟩
      refine ⟨_, rfl, p, iv (flN t i), rfl, .inl (.inl (.inl hp)), _, _, rfl, rfl, _, rfl, ite2 (fun e => ?_) (fun e => ?_)⟩
      · have e2 : flN t i ≠ [] := fun z => by rw [z] at e; simp at e
        rw [if_neg e2] at q
        refine ⟨_, rfl, p, iv (flN t i), rfl, .inl (.inl (.inl hp)), _, _, rfl, rfl, one_le _, fun z nz => ?_⟩
        have s2 := same_upd (o := .lst [V.int ((((iv (flN t i)).length : Nat) : Int) - 1)]) nz
        refine ⟨_, rfl, z, p, _, _, rfl, rfl, upd_same, s2 _ _ hp, ?_, fun r nr => ?_⟩
        · rw [iv_len]
          have := (fl_len ht e1).1
          show 1 + _ ≤ 2 ^ 24
          omega
        · refine q.still S ((s1.trans s2).trans (same_upd nr)) ((s1.trans s2).free nr) ?_
          rw [upd_same]
          dsimp only
          rw [iv_len, iv_ci]
          rfl
      · have e2 : flN t i = [] := Classical.byContradiction fun z => e (decide_eq_true (by
          rw [iv_len]
          have := List.length_pos_iff.mpr z
          omega))
        rw [if_pos e2] at q
        exact ⟨by decide, fun p hp => q.still S (s1.trans (same_upd hp)) (s1.free hp) upd_same⟩
end
end FG
namespace FG
open PyProof.Rows L2 PySem PySem.Spec
/-- what the object answers once it's begun: where the points are put then, and the numbers -/
def ans (t : List Nat) (p : Nat) (args : List Nat) : List Nat × List Int := match p with
  | 0 => aBeg t (args.getD 0 0)
  | 1 => aPut t (args.getD 0 0) (args.getD 1 0)
  | 2 => aRow t args
  | 3 => aTur t
  | 4 => aSta t
  | 5 => aHas t (args.getD 0 0)
  | 6 => aLen t (args.getD 0 0)
  | 7 => aWay t (args.getD 0 0) (args.getD 1 0) (args.getD 2 0)
  | 8 => aWm t (args.getD 0 0) (args.getD 1 0) (args.getD 2 0) (args.getD 3 0)
  | 9 => aLs t (args.getD 0 0)
  | 10 => aSt t
  | 11 => aKi t
  | 12 => aPo t
  | 13 => aSh t
  | 14 => aRm t (args.getD 0 0)
  | _ => aLo t (args.getD 0 0)
/-- a call's answer in the specification -/
def does_ (s : Su183.Abs) (c : Su186.Call) : Su186Neutral.S × List Int := (some (Su186.does s c).1, (Su186.does s c).2.value :: (Su186.does s c).2.out)
theorem st_pts {t : List Nat} (ht : Pts t) : st t = some (gl t) := by
  unfold st
  rw [if_neg (fun z => by have := ht.lo; rw [z] at this; cases this)]
/-- what's to be shown of one call -/
def Right (t : List Nat) (a : List Nat × List Int) (r : Su186Neutral.S × List Int) : Prop := Stt a.1 ∧ r = (st a.1, a.2)
theorem right_still {t : List Nat} {l : List Int} (ht : Pts t) {r : Su186Neutral.S × List Int} (h : r = (some (gl t), l)) : Right t (t, l) r := ⟨.inr ht, by rw [h, st_pts ht]⟩
theorem cut1 {args : List Nat} (h : args.length = 1) : args = [args.getD 0 0] := by
  match args, h with
  | [a], _ => rfl
theorem cut2 {args : List Nat} (h : args.length = 2) : args = [args.getD 0 0, args.getD 1 0] := by
  match args, h with
  | [a, b], _ => rfl
theorem cut3 {args : List Nat} (h : args.length = 3) : args = [args.getD 0 0, args.getD 1 0, args.getD 2 0] := by
  match args, h with
  | [a, b, c], _ => rfl
theorem cut4 {args : List Nat} (h : args.length = 4) : args = [args.getD 0 0, args.getD 1 0, args.getD 2 0, args.getD 3 0] := by
  match args, h with
  | [a, b, c, d], _ => rfl
theorem cut0 {args : List Nat} (h : args.length = 0) : args = [] := List.eq_nil_of_length_eq_zero h

/-! ### the calls of the line -/
theorem line_does (g : Su183.Abs) (c : Su183.Call) : does_ g (.line c) = (some (if (Su183.does g c).2.value < 0 then g else (Su183.does g c).1), (Su183.does g c).2.value :: (Su183.does g c).2.out) := rfl
theorem line_at {g g' : Su183.Abs} {c : Su183.Call} {y : Su183.Ans} (h : Su183.does g c = (g', y)) : does_ g (.line c) = (some (if y.value < 0 then g else g'), y.value :: y.out) := by rw [line_does, h]
theorem range_pts {n : Nat} (h : ¬ (n < 1 ∨ 6 < n)) : Pts (List.range (n + 1)) := ⟨by rw [List.length_range]; omega, by rw [List.length_range]; omega, fun x hx => by rw [List.length_range]; have := List.mem_range.mp hx; omega⟩
theorem gl_range (n : Nat) : gl (List.range (n + 1)) = Su183.new n := by
  unfold gl Su183.new
  rw [List.length_range]
  rfl
theorem beg_no {g : Su183.Abs} {n : Nat} (h : n < 1 ∨ 6 < n) : Su183.does g (.begin_ n) = (g, Su183.no (-22)) := by
  have e : Su183.does g (.begin_ n) = if n = 0 ∨ 6 < n then (g, Su183.no (-22)) else (Su183.new n, Su183.num 0 []) := rfl
  rw [e, if_pos (by omega)]
theorem beg_yes {g : Su183.Abs} {n : Nat} (h : ¬ (n < 1 ∨ 6 < n)) : Su183.does g (.begin_ n) = (Su183.new n, Su183.num 0 []) := by
  have e : Su183.does g (.begin_ n) = if n = 0 ∨ 6 < n then (g, Su183.no (-22)) else (Su183.new n, Su183.num 0 []) := rfl
  rw [e, if_neg (by omega)]
theorem r_beg {t : List Nat} (ht : Pts t) (n : Nat) : Right t (aBeg t n) (does_ (gl t) (.line (.begin_ n))) := by
  unfold aBeg
  by_cases h : n < 1 ∨ 6 < n
  · rw [if_pos h, line_at (beg_no h)]
    exact right_still ht rfl
  · rw [if_neg h, line_at (beg_yes h)]
    refine ⟨.inr (range_pts h), ?_⟩
    rw [st_pts (range_pts h), gl_range]
    rfl
theorem r_set {t : List Nat} (ht : Pts t) (i v : Nat) : Right t (aPut t i v) (does_ (gl t) (.line (.set i v))) := by
  have e : Su183.does (gl t) (.set i v) = if t.length - 1 < i then (gl t, Su183.no (-2)) else if t.length - 1 < v then (gl t, Su183.no (-22)) else ({ gl t with to := t.set i v }, Su183.num (t.getD i 0) []) := rfl
  have h1 := ht.lo
  unfold aPut
  by_cases a : t.length ≤ i
  · rw [if_pos (by omega)] at e
    rw [if_pos a, line_at e]
    exact right_still ht rfl
  · rw [if_neg (by omega)] at e
    rw [if_neg a]
    by_cases b : t.length ≤ v
    · rw [if_pos (by omega)] at e
      rw [if_pos b, line_at e]
      exact right_still ht rfl
    · rw [if_neg (by omega)] at e
      rw [if_neg b, line_at e]
      have hp : Pts (t.set i v) := ⟨by rw [List.length_set]; exact ht.lo, by rw [List.length_set]; exact ht.hi, fun x hx => by
        rw [List.length_set]
        rcases List.mem_or_eq_of_mem_set hx with z | z
        · exact ht.top x z
        · omega⟩
      refine ⟨.inr hp, ?_⟩
      rw [st_pts hp]
      have : gl (t.set i v) = { gl t with to := t.set i v } := by
        unfold gl
        rw [List.length_set]
      rw [this]
      have hn : ¬ (Su183.num (t.getD i 0) []).value < 0 := by show ¬ ((t.getD i 0 : Nat) : Int) < 0; omega
      rw [if_neg hn]
      rfl
theorem r_row {t : List Nat} (ht : Pts t) (l : List Nat) : Right t (aRow t l) (does_ (gl t) (.line (.row l))) := by
  have e : Su183.does (gl t) (.row l) = if l.length ≠ t.length - 1 + 1 ∨ l.any (fun v => decide (t.length - 1 < v)) = true then (gl t, Su183.no (-22)) else ({ gl t with to := l }, Su183.num 0 []) := rfl
  have h1 := ht.lo
  have ea : (l.any fun v => decide (t.length - 1 < v)) = l.any fun v => decide (t.length ≤ v) := by
    congr 1
    funext v
    exact decide_eq_decide.mpr ⟨by omega, by omega⟩
  rw [ea, show t.length - 1 + 1 = t.length by omega] at e
  unfold aRow
  by_cases a : l.length ≠ t.length ∨ l.any (fun v => decide (t.length ≤ v)) = true
  · rw [if_pos a] at e
    rw [if_pos a, line_at e]
    exact right_still ht rfl
  · rw [if_neg a] at e
    rw [if_neg a, line_at e]
    have hl : l.length = t.length := Classical.byContradiction fun z => a (.inl z)
    have hp : Pts l := ⟨by rw [hl]; exact ht.lo, by rw [hl]; exact ht.hi, fun x hx => by
      rw [hl]
      apply Nat.lt_of_not_le
      intro z
      exact a (.inr (List.any_eq_true.mpr ⟨x, hx, decide_eq_true z⟩))⟩
    refine ⟨.inr hp, ?_⟩
    rw [st_pts hp]
    have : gl l = { gl t with to := l } := by
      unfold gl
      rw [hl]
    rw [this]
    rfl
theorem r_turn {t : List Nat} (ht : Pts t) : Right t (aTur t) (does_ (gl t) (.line .turn)) := by
  refine ⟨.inr (trn_pts ht), ?_⟩
  show _ = (st (trn t), [0])
  rw [st_pts (trn_pts ht), ← trn_turned ht]
  rfl
theorem r_state {t : List Nat} (ht : Pts t) : Right t (aSta t) (does_ (gl t) (.line .state)) := by
  refine right_still ht ?_
  have e : Su183.does (gl t) .state = (gl t, Su183.num (t.length - 1) (Su183.ints t)) := rfl
  have h1 := ht.lo
  have hn : (Su183.num (t.length - 1) (Su183.ints t)).value = (t.length : Int) - 1 := by
    show ((t.length - 1 : Nat) : Int) = _
    omega
  rw [line_at e, ite_self, hn]
  rfl
theorem r_has {t : List Nat} (ht : Pts t) (k : Nat) : Right t (aHas t k) (does_ (gl t) (.line (.has k))) := by
  refine right_still ht ?_
  have e : Su183.does (gl t) (.has k) = if Su183.okSteps k = false then (gl t, Su183.no (-22)) else (gl t, Su183.num (Su183.bit ((gl t).has k)) []) := rfl
  have h6 : Su183.STEPS = 6 := rfl
  have ok : Su183.okSteps k = false ↔ (k < 1 ∨ 6 < k) := by
    unfold Su183.okSteps
    rw [Bool.and_eq_false_iff, decide_eq_false_iff_not, decide_eq_false_iff_not]
    omega
  by_cases a : k < 1 ∨ 6 < k
  · rw [if_pos (ok.mpr a)] at e
    rw [if_pos a, line_at e]
    rfl
  · rw [if_neg (fun z => a (ok.mp z))] at e
    rw [if_neg a, line_at e, hr_has ht (by omega) (by omega), ite_self]
    cases (gl t).has k <;> rfl

/-! ### the calls of the ways and of growth -/
theorem does_len (g : Su183.Abs) (k : Nat) : does_ g (.length k) = if 30 < k then (some g, [-22]) else (some g, [((Su186.lengthOf g k : Nat) : Int)]) := by
  unfold does_
  have e : Su186.does g (.length k) = if Su186.STEPS < k then (g, Su186.no (-22)) else (g, Su186.num (Su186.lengthOf g k) []) := rfl
  rw [e]
  by_cases a : 30 < k
  · rw [if_pos a, if_pos (show Su186.STEPS < k from a)]; rfl
  · rw [if_neg a, if_neg (show ¬ Su186.STEPS < k from a)]; rfl
theorem r_len {t : List Nat} (ht : Pts t) (k : Nat) : Right t (aLen t k) (does_ (gl t) (.length k)) := by
  refine right_still ht ?_
  rw [does_len, ← len_lengthOf]
  split <;> rfl
theorem does_at {g g' : Su183.Abs} {c : Su186.Call} {y : Su186.Ans} (h : Su186.does g c = (g', y)) : does_ g c = (some g', y.value :: y.out) := by unfold does_; rw [h]
theorem r_ways {t : List Nat} (ht : Pts t) (i j k : Nat) : Right t (aWay t i j k) (does_ (gl t) (.ways i j k)) := by
  refine right_still ht ?_
  have e : Su186.does (gl t) (.ways i j k) = if t.length - 1 ≤ i ∨ t.length - 1 ≤ j then (gl t, Su186.no (-2)) else if 30 < k then (gl t, Su186.no (-22)) else (gl t, Su186.num (Su186.ways (gl t) i j k) []) := rfl
  rw [← wc_ways] at e
  by_cases a : t.length ≤ i + 1 ∨ t.length ≤ j + 1
  · rw [if_pos (by omega)] at e
    rw [if_pos a, does_at e]; rfl
  · rw [if_neg (by omega)] at e
    by_cases b : 30 < k
    · rw [if_pos b] at e
      rw [if_neg a, if_pos b, does_at e]; rfl
    · rw [if_neg b] at e
      rw [if_neg a, if_neg b, does_at e]; rfl
theorem r_way {t : List Nat} (ht : Pts t) (i j k m : Nat) : Right t (aWm t i j k m) (does_ (gl t) (.way i j k m)) := by
  refine right_still ht ?_
  have e : Su186.does (gl t) (.way i j k m) = if t.length - 1 ≤ i ∨ t.length - 1 ≤ j then (gl t, Su186.no (-2)) else if 8 < k then (gl t, Su186.no (-22)) else match (Su186.allWays (gl t) j i k)[m]? with
    | some w => (gl t, Su186.list w)
    | none => (gl t, Su186.no (-33)) := rfl
  by_cases a : t.length ≤ i + 1 ∨ t.length ≤ j + 1
  · rw [if_pos (by omega)] at e
    rw [if_pos a, does_at e]; rfl
  · rw [if_neg (by omega)] at e
    by_cases b : 8 < k
    · rw [if_pos b] at e
      rw [if_neg a, if_pos b, does_at e]; rfl
    · rw [if_neg b] at e
      rw [if_neg a, if_neg b]
      have jn : j < (gl t).n := by show j < t.length - 1; omega
      have iN : i < (gl t).n := by show i < t.length - 1; omega
      have hlen := HM.allWays_len jn k i iN
      rw [← wc_ways] at hlen
      by_cases c : wcN t i j k ≤ m
      · rw [List.getElem?_eq_none (by omega)] at e
        rw [if_pos c, does_at e]; rfl
      · have hW : (Su186.allWays (gl t) j i k)[m]? = some ((Su186.allWays (gl t) j i k).getD m []) := by
          rw [List.getD_eq_getElem?_getD, List.getElem?_eq_getElem (by omega)]
          rfl
        have hwl := HM.allWays_wlen jn k i _ (List.mem_of_getElem? hW)
        rw [hW] at e
        rw [if_neg c, does_at e]
        generalize (Su186.allWays (gl t) j i k).getD m [] = W at hwl
        show (some (gl t), ((W.length : Nat) : Int) :: W.map Int.ofNat) = _
        rw [hwl]
        rfl
theorem r_loops {t : List Nat} (ht : Pts t) (k : Nat) : Right t (aLs t k) (does_ (gl t) (.loops k)) := by
  refine right_still ht ?_
  have e : Su186.does (gl t) (.loops k) = if k = 0 ∨ 30 < k then (gl t, Su186.no (-22)) else (gl t, Su186.num (Su186.loops (gl t) k) []) := rfl
  rw [← lc_loops] at e
  by_cases a : k < 1 ∨ 30 < k
  · rw [if_pos (by omega)] at e
    rw [if_pos a, does_at e]; rfl
  · rw [if_neg (by omega)] at e
    rw [if_neg a, does_at e]; rfl
theorem r_steps {t : List Nat} (ht : Pts t) : Right t (aSt t) (does_ (gl t) .steps) := by
  refine right_still ht ?_
  have e : Su186.does (gl t) .steps = (gl t, Su186.num (((List.range 30).map fun k => if Su186.loops (gl t) (k + 1) = 0 then 0 else 2 ^ k).sum) []) := rfl
  have e2 : (((List.range 30).map fun k => if Su186.loops (gl t) (k + 1) = 0 then 0 else 2 ^ k).sum) = stN t 30 := by
    unfold stN
    congr 1
    apply List.map_congr_left
    intro k _
    rw [lc_loops]
  rw [e2] at e
  rw [does_at e]
  rfl
theorem r_kind {t : List Nat} (ht : Pts t) : Right t (aKi t) (does_ (gl t) .kind) := right_still ht rfl
theorem r_power {t : List Nat} (ht : Pts t) : Right t (aPo t) (does_ (gl t) .power) := by
  refine right_still ht ?_
  have e : Su186.does (gl t) .power = if Su186.kind (gl t) ≠ 1 then (gl t, Su186.no (-33)) else (gl t, Su186.num (Su186.power (gl t)) []) := rfl
  by_cases a : Su186.kind (gl t) ≠ 1
  · rw [if_pos a] at e
    rw [if_pos a, does_at e]; rfl
  · rw [if_neg a] at e
    rw [if_neg a, does_at e]; rfl
theorem r_shoe {t : List Nat} (ht : Pts t) : Right t (aSh t) (does_ (gl t) .shoe) := by
  refine right_still ht ?_
  have e : Su186.does (gl t) .shoe = match Su186.shoe (gl t) with
    | some z => (gl t, Su186.num z.1 (z.2 :: ((Su186.allWays (gl t) z.2 z.2 z.1).take 2).flatten))
    | none => (gl t, Su186.no (-33)) := rfl
  unfold shN
  cases es : Su186.shoe (gl t) with
  | none =>
    rw [es] at e
    rw [does_at e]
    rfl
  | some z =>
    rw [es] at e
    rw [does_at e]
    dsimp only
    rw [if_neg (fun z => by cases z)]
    rfl
theorem r_room {t : List Nat} (ht : Pts t) (i : Nat) : Right t (aRm t i) (does_ (gl t) (.room i)) := by
  refine right_still ht ?_
  have e : Su186.does (gl t) (.room i) = if t.length - 1 ≤ i then (gl t, Su186.no (-2)) else (gl t, Su186.list (Su186.room (gl t) i)) := rfl
  by_cases a : t.length ≤ i + 1
  · rw [if_pos (by omega)] at e
    rw [if_pos a, does_at e]; rfl
  · rw [if_neg (by omega)] at e
    rw [if_neg a, does_at e]; rfl
theorem r_loop {t : List Nat} (ht : Pts t) (i : Nat) : Right t (aLo t i) (does_ (gl t) (.loop i)) := by
  refine right_still ht ?_
  have e : Su186.does (gl t) (.loop i) = if t.length - 1 ≤ i then (gl t, Su186.no (-2)) else match Su186.shortest (gl t) i with
    | some k => (gl t, Su186.num k ((Su186.allWays (gl t) i i k).headD []))
    | none => (gl t, Su186.no (-33)) := rfl
  by_cases a : t.length ≤ i + 1
  · rw [if_pos (by omega)] at e
    rw [if_pos a, does_at e]; rfl
  · rw [if_neg (by omega)] at e
    rw [if_neg a]
    have hl := (fl_len ht (i := i) (by omega)).2
    cases es : Su186.shortest (gl t) i with
    | none =>
      rw [es] at e
      have : flN t i = [] := by unfold flN; rw [es]
      rw [if_pos this, does_at e]
      rfl
    | some k =>
      rw [es] at e
      have hf : flN t i = (Su186.allWays (gl t) i i k).headD [] := by unfold flN; rw [es]
      have hl := hl k es
      have : (((k + 1 : Nat) : Int) - 1) = ((k : Nat) : Int) := by omega
      rw [if_neg (fun z => by rw [z] at hl; cases hl), does_at e, hl, this, ← hf]
      rfl

/-! ### one call, as it's read -/
theorem nat_back (l : List Nat) : (nums l).map Int.toNat = l := by
  unfold nums
  rw [List.map_map]
  have : ∀ x ∈ l, (Int.toNat ∘ fun (x : Nat) => (x : Int)) x = x := fun x _ => rfl
  rw [List.map_congr_left this, List.map_id']
theorem one_ans {t : List Nat} {p : Nat} {args : List Nat} (ht : Pts t) (ha : OkArgs p args) : Right t (ans t p args) (one (st t) p args) := by
  obtain ⟨h16, hc, h2⟩ := ha
  rw [st_pts ht]
  match p, h16, hc, h2 with
  | 0, _, hc, _ => rw [cut1 (hc (by decide))]; exact r_beg ht _
  | 1, _, hc, _ => rw [cut2 (hc (by decide))]; exact r_set ht _ _
  | 2, _, _, _ =>
    have e : one (some (gl t)) 2 args = does_ (gl t) (.line (.row ((nums args).map Int.toNat))) := rfl
    rw [e, nat_back]
    exact r_row ht _
  | 3, _, hc, _ => rw [cut0 (hc (by decide))]; exact r_turn ht
  | 4, _, hc, _ => rw [cut0 (hc (by decide))]; exact r_state ht
  | 5, _, hc, _ => rw [cut1 (hc (by decide))]; exact r_has ht _
  | 6, _, hc, _ => rw [cut1 (hc (by decide))]; exact r_len ht _
  | 7, _, hc, _ => rw [cut3 (hc (by decide))]; exact r_ways ht _ _ _
  | 8, _, hc, _ => rw [cut4 (hc (by decide))]; exact r_way ht _ _ _ _
  | 9, _, hc, _ => rw [cut1 (hc (by decide))]; exact r_loops ht _
  | 10, _, hc, _ => rw [cut0 (hc (by decide))]; exact r_steps ht
  | 11, _, hc, _ => rw [cut0 (hc (by decide))]; exact r_kind ht
  | 12, _, hc, _ => rw [cut0 (hc (by decide))]; exact r_power ht
  | 13, _, hc, _ => rw [cut0 (hc (by decide))]; exact r_shoe ht
  | 14, _, hc, _ => rw [cut1 (hc (by decide))]; exact r_room ht _
  | 15, _, hc, _ => rw [cut1 (hc (by decide))]; exact r_loop ht _
  | p + 16, h16, _, _ => omega
/-- ahead of a begin -/
theorem one_not {p : Nat} {args : List Nat} (ha : OkArgs p args) (h0 : p ≠ 0) : one (st []) p args = (st [], [-11]) := by
  obtain ⟨h16, hc, h2⟩ := ha
  match p, h0, h16, hc, h2 with
  | 1, _, _, hc, _ => rw [cut2 (hc (by decide))]; rfl
  | 2, _, _, _, _ => rfl
  | 3, _, _, hc, _ => rw [cut0 (hc (by decide))]; rfl
  | 4, _, _, hc, _ => rw [cut0 (hc (by decide))]; rfl
  | 5, _, _, hc, _ => rw [cut1 (hc (by decide))]; rfl
  | 6, _, _, hc, _ => rw [cut1 (hc (by decide))]; rfl
  | 7, _, _, hc, _ => rw [cut3 (hc (by decide))]; rfl
  | 8, _, _, hc, _ => rw [cut4 (hc (by decide))]; rfl
  | 9, _, _, hc, _ => rw [cut1 (hc (by decide))]; rfl
  | 10, _, _, hc, _ => rw [cut0 (hc (by decide))]; rfl
  | 11, _, _, hc, _ => rw [cut0 (hc (by decide))]; rfl
  | 12, _, _, hc, _ => rw [cut0 (hc (by decide))]; rfl
  | 13, _, _, hc, _ => rw [cut0 (hc (by decide))]; rfl
  | 14, _, _, hc, _ => rw [cut1 (hc (by decide))]; rfl
  | 15, _, _, hc, _ => rw [cut1 (hc (by decide))]; rfl
  | p + 16, _, h16, _, _ => omega
/-- a begin, whatever was -/
theorem one_beg {t : List Nat} (ht : Stt t) {args : List Nat} (ha : OkArgs 0 args) : Right t (aBeg t (args.getD 0 0)) (one (st t) 0 args) := by
  rcases ht with rfl | ht
  · obtain ⟨_, hc, _⟩ := ha
    rw [cut1 (hc (by decide))]
    generalize args.getD 0 0 = n
    have e : one (st []) 0 [n] = (if (Su183.does (Su183.new 1) (.begin_ n)).2.value < 0 then none else some (if (Su183.does (Su183.new 1) (.begin_ n)).2.value < 0 then Su183.new 1 else (Su183.does (Su183.new 1) (.begin_ n)).1), (Su183.does (Su183.new 1) (.begin_ n)).2.value :: (Su183.does (Su183.new 1) (.begin_ n)).2.out) := rfl
    rw [e]
    show Right [] (aBeg [] n) _
    unfold aBeg
    by_cases h : n < 1 ∨ 6 < n
    · rw [if_pos h, beg_no h]
      exact ⟨.inl rfl, rfl⟩
    · rw [if_neg h, beg_yes h]
      refine ⟨.inr (range_pts h), ?_⟩
      rw [st_pts (range_pts h), gl_range]
      rfl
  · exact one_ans ht ha
end FG
namespace FG
open PyProof.Rows L2 PySem PySem.Spec
/-- the other defs -/
structure Ld (K : PySem.W.Frag) (mg : Str → Option Value) where
  fU : Addr
  fdU : FuncData
  DU : Df K mg "unfolded" sUnf ["pieces"] fU fdU
  fT : Addr
  fdT : FuncData
  DT : Df K mg "turned" sTur ["spots"] fT fdT
  fH : Addr
  fdH : FuncData
  DH : Df K mg "has_round" sHr ["spots", "steps"] fH fdH
  fL : Addr
  fdL : FuncData
  DL : Df K mg "length_of" sLen ["spots", "steps"] fL fdL
  fS : Addr
  fdS : FuncData
  DS : Df K mg "steps_of_loops" sSl ["spots", "most"] fS fdS
  fK : Addr
  fdK : FuncData
  DK : Df K mg "kind_of" sKi ["spots"] fK fdK
  fP : Addr
  fdP : FuncData
  DP : Df K mg "power_of" sPo ["spots"] fP fdP
  fF : Addr
  fdF : FuncData
  DF : Df K mg "first_loop" sFl ["spots", "piece"] fF fdF
  fE : Addr
  fdE : FuncData
  DE : Df K mg "shoe_of" sSh ["spots"] fE fdE
/-- the methods -/
structure Ms (K : PySem.W.Frag) (C : Addr) where
  fIp : Addr
  dIp : FuncData
  Ip : Mt K C "is_point" "Session.is_point" mIsPt ["self", "point"] fIp dIp
  fIq : Addr
  dIq : FuncData
  Iq : Mt K C "is_piece" "Session.is_piece" mIsPc ["self", "piece"] fIq dIq
  fBe : Addr
  dBe : FuncData
  Be : Mt K C "begin" "Session.begin" mBeg ["self", "pieces"] fBe dBe
  fPu : Addr
  dPu : FuncData
  Pu : Mt K C "put_point" "Session.put_point" mPut ["self", "point", "spot"] fPu dPu
  fRw : Addr
  dRw : FuncData
  Rw : Mt K C "put_row" "Session.put_row" mRow ["self", "points"] fRw dRw
  fTu : Addr
  dTu : FuncData
  Tu : Mt K C "turn" "Session.turn" mTur ["self"] fTu dTu
  fSa : Addr
  dSa : FuncData
  Sa : Mt K C "state" "Session.state" mSta ["self"] fSa dSa
  fHa : Addr
  dHa : FuncData
  Ha : Mt K C "has" "Session.has" mHas ["self", "steps"] fHa dHa
  fLe : Addr
  dLe : FuncData
  Le : Mt K C "length" "Session.length" mLen ["self", "steps"] fLe dLe
  fWs : Addr
  dWs : FuncData
  Ws : Mt K C "ways" "Session.ways" mWay ["self", "first", "last", "steps"] fWs dWs
  fWy : Addr
  dWy : FuncData
  Wy : Mt K C "way" "Session.way" mWm ["self", "first", "last", "steps", "before"] fWy dWy
  fLp : Addr
  dLp : FuncData
  Lp : Mt K C "loops" "Session.loops" mLs ["self", "steps"] fLp dLp
  fSp : Addr
  dSp : FuncData
  Sp : Mt K C "steps" "Session.steps" mSt ["self"] fSp dSp
  fKi : Addr
  dKi : FuncData
  Ki : Mt K C "kind" "Session.kind" mKi ["self"] fKi dKi
  fPo : Addr
  dPo : FuncData
  Po : Mt K C "power" "Session.power" mPo ["self"] fPo dPo
  fSh : Addr
  dSh : FuncData
  Sh : Mt K C "shoe" "Session.shoe" mSh ["self"] fSh dSh
  fRm : Addr
  dRm : FuncData
  Rm : Mt K C "room" "Session.room" mRm ["self", "piece"] fRm dRm
  fLo : Addr
  dLo : FuncData
  Lo : Mt K C "loop" "Session.loop" mLo ["self", "piece"] fLo dLo
  fOp : Addr
  dOp : FuncData
  Op : Mt K C "answer_on_points" "Session.answer_on_points" mOp ["self", "number", "arguments"] fOp dOp
  fOw : Addr
  dOw : FuncData
  Ow : Mt K C "answer_on_ways" "Session.answer_on_ways" mOw ["self", "number", "arguments"] fOw dOw
  fOg : Addr
  dOg : FuncData
  Og : Mt K C "answer_on_growth" "Session.answer_on_growth" mOg ["self", "number", "arguments"] fOg dOg
theorem same_num {p : Nat} {n : Int} (e : decide (V.int (p : Int) = V.int n) = true) : (p : Int) = n := V.int.inj (of_decide_eq_true e)
theorem other_num {p : Nat} {n : Int} (e : ¬ decide (V.int (p : Int) = V.int n) = true) : (p : Int) ≠ n := fun z => e (by rw [z]; exact decide_eq_true rfl)
theorem cnt_len {p n : Nat} {args : List Nat} (h : OkArgs p args) (e : p = n) (h2 : n ≠ 2) : args.length = cnt n := by rw [← e]; exact h.2.1 (by omega)

section
variable {base : Heap} {mg : Str → Option Value} {K : PySem.W.Frag} {P : Program} {w : World} {C : Addr}
def spDis (C : Addr) (lo hi : Nat) : Sp := fun vs H Q _ => ∃ (x sp a : Addr) (t : List Nat) (p : Nat) (args : List Nat), vs = [.ref x, .int (p : Int), .ref a] ∧ SesAt C H x sp t ∧ Pts t ∧ H a = some (.lst (iv args)) ∧ a ≠ sp ∧ OkArgs p args ∧ lo ≤ p ∧ p ≤ hi ∧ Out C x sp H Q (ans t p args)
theorem ok_op (T : Tx K mg C) (TC : Tc mg) (L : Ln K mg) (D : Ld K mg) (M : Ms K C) : FnOk P w K mg base CX0 14 M.fOp M.dOp ["self", "number", "arguments"] (spDis C 1 5) := by
  have B := L.B
  have G1 : FnOk P w K mg base CX0 13 M.fPu M.dPu ["self", "point", "spot"] (spPut C) := ok_put (k := 11) M.Pu.F T B M.Ip
  have G2 : FnOk P w K mg base CX0 13 M.fRw M.dRw ["self", "points"] (spRow K C) := ok_row (k := 11) M.Rw.F T B M.Ip
  have G3 : FnOk P w K mg base CX0 13 M.fTu M.dTu ["self"] (spTurn C) := ok_turn (k := 11) M.Tu.F T B D.DT
  have G4 : FnOk P w K mg base CX0 13 M.fSa M.dSa ["self"] (spSta C) := ok_sta (k := 11) M.Sa.F T L
  have G5 : FnOk P w K mg base CX0 13 M.fHa M.dHa ["self", "steps"] (spHas C) := ok_has M.Ha.F T L D.DH
  obtain ⟨_, g1⟩ := TC.n1
  obtain ⟨_, g2⟩ := TC.n2
  obtain ⟨_, g3⟩ := TC.n3
  obtain ⟨_, g4⟩ := TC.n4
  refine M.Op.F.ok scOp (fun vs H Q E h => ?_) (fun cdv A outer s H vs Q E hr h => ?_)
  · obtain ⟨x, sp, a, t, p, args, rfl, _⟩ := h
    rfl
  · obtain ⟨x, sp, a, t, p, args, rfl, S, ht, hA, asp, ha, lo, hi, q⟩ := h
    obtain ⟨dx, hx⟩ := S.obj
    refine ⟨_, (pss_cons (ps_if (pt_cmpR op_eq (pv 1) (pe_glob (v := .int 1) (by rfl) g1 ⟨_, rfl⟩) (nomark _)) (pss_one (ps_ret ((pe_meth (pv 0) T.cl M.Pu.m G1 hr M.Pu.b .nil pass0 (pa_cons (pe_ix ix_list (pv 2) pe_int (fun _ _ => rfl)) (pa_cons (pe_ix ix_list (pv 2) pe_int (fun _ _ => rfl)) pa_nil)))))) pss_nil)
      (pss_cons (ps_if (pt_cmpR op_eq (pv 1) (pe_glob (v := .int 2) (by rfl) g2 ⟨_, rfl⟩) (nomark _)) (pss_one (ps_ret ((pe_meth (pv 0) T.cl M.Rw.m G2 hr M.Rw.b .nil pass0 (pa_cons (pv 2) pa_nil))))) pss_nil)
      (pss_cons (ps_if (pt_cmpR op_eq (pv 1) (pe_glob (v := .int 3) (by rfl) g3 ⟨_, rfl⟩) (nomark _)) (pss_one (ps_ret ((pe_meth0 (pv 0) T.cl M.Tu.m G3 hr M.Tu.b .nil pass0)))) pss_nil)
      (pss_cons (ps_if (pt_cmpR op_eq (pv 1) (pe_glob (v := .int 4) (by rfl) g4 ⟨_, rfl⟩) (nomark _)) (pss_one (ps_ret ((pe_meth0 (pv 0) T.cl M.Sa.m G4 hr M.Sa.b .nil pass0)))) pss_nil) (pss_one (ps_ret ((pe_meth (pv 0) T.cl M.Ha.m G5 hr M.Ha.b .nil pass0 (pa_cons (pe_ix ix_list (pv 2) pe_int (fun _ _ => rfl)) pa_nil))))))))), ?_⟩
    refine ⟨_, rfl, rfl, _, rfl, ite2 (fun e => ?_) (fun e1 => ⟨_, rfl, rfl, _, rfl, ite2 (fun e => ?_) (fun e2 => ⟨_, rfl, rfl, _, rfl, ite2 (fun e => ?_) (fun e3 => ⟨_, rfl, rfl, _, rfl, ite2 (fun e => ?_) (fun e4 => ?_)⟩)⟩)⟩)⟩
    · have e := same_num e
      obtain rfl : p = 1 := by omega
      have hl := cnt_len ha rfl (by decide)
      refine ⟨_, rfl, x, dx, _, rfl, hx, sF_no sp (by decide +kernel), _, rfl, a, _, _, _, rfl, rfl, .inl (.inl hA), atI_nat (j := 0) (iv_get (get_some (by rw [hl]; decide))), _, rfl, a, _, _, _, rfl, rfl, .inl (.inl hA), atI_nat (j := 1) (iv_get (get_some (by rw [hl]; decide))), ?_⟩
      exact ⟨x, sp, t, args.getD 0 0, args.getD 1 0, rfl, S, q⟩
    · have e := same_num e
      obtain rfl : p = 2 := by omega
      exact ⟨_, rfl, x, dx, _, rfl, hx, sF_no sp (by decide +kernel), _, rfl, x, sp, a, t, args, rfl, S, hA, asp, ha.2.2 rfl, q⟩
    · have e := same_num e
      obtain rfl : p = 3 := by omega
      exact ⟨_, rfl, x, dx, _, rfl, hx, sF_no sp (by decide +kernel), x, sp, t, rfl, S, ht, q⟩
    · have e := same_num e
      obtain rfl : p = 4 := by omega
      exact ⟨_, rfl, x, dx, _, rfl, hx, sF_no sp (by decide +kernel), x, sp, t, rfl, S, ht, q⟩
    · have e1 := other_num e1
      have e2 := other_num e2
      have e3 := other_num e3
      have e4 := other_num e4
      obtain rfl : p = 5 := by omega
      have hl := cnt_len ha rfl (by decide)
      exact ⟨_, rfl, x, dx, _, rfl, hx, sF_no sp (by decide +kernel), _, rfl, a, _, _, _, rfl, rfl, .inl (.inl hA), atI_nat (j := 0) (iv_get (get_some (by rw [hl]; decide))), x, sp, t, args.getD 0 0, rfl, S, ht, q⟩
theorem ok_ow (T : Tx K mg C) (TC : Tc mg) (L : Ln K mg) (D : Ld K mg) (M : Ms K C) : FnOk P w K mg base CX0 14 M.fOw M.dOw ["self", "number", "arguments"] (spDis C 6 10) := by
  have B := L.B
  have G6 : FnOk P w K mg base CX0 13 M.fLe M.dLe ["self", "steps"] (spLenM C) := ok_lenm (k := 8) M.Le.F T L D.DL
  have G7 : FnOk P w K mg base CX0 13 M.fWs M.dWs ["self", "first", "last", "steps"] (spWay C) := ok_way (k := 8) M.Ws.F T L M.Iq
  have G8 : FnOk P w K mg base CX0 13 M.fWy M.dWy ["self", "first", "last", "steps", "before"] (spWm C) := ok_wm (k := 8) M.Wy.F T TC L M.Iq
  have G9 : FnOk P w K mg base CX0 13 M.fLp M.dLp ["self", "steps"] (spLs C) := ok_ls (k := 8) M.Lp.F T L
  have G10 : FnOk P w K mg base CX0 13 M.fSp M.dSp ["self"] (spSt C) := ok_st (k := 8) M.Sp.F T L D.DS
  obtain ⟨_, g6⟩ := TC.n6
  obtain ⟨_, g7⟩ := TC.n7
  obtain ⟨_, g8⟩ := TC.n8
  obtain ⟨_, g9⟩ := TC.n9
  refine M.Ow.F.ok scOw (fun vs H Q E h => ?_) (fun cdv A outer s H vs Q E hr h => ?_)
  · obtain ⟨x, sp, a, t, p, args, rfl, _⟩ := h
    rfl
  · obtain ⟨x, sp, a, t, p, args, rfl, S, ht, hA, asp, ha, lo, hi, q⟩ := h
    obtain ⟨dx, hx⟩ := S.obj
    refine ⟨_, (pss_cons (ps_if (pt_cmpR op_eq (pv 1) (pe_glob (v := .int 6) (by rfl) g6 ⟨_, rfl⟩) (nomark _)) (pss_one (ps_ret ((pe_meth (pv 0) T.cl M.Le.m G6 hr M.Le.b .nil pass0 (pa_cons (pe_ix ix_list (pv 2) pe_int (fun _ _ => rfl)) pa_nil))))) pss_nil)
      (pss_cons (ps_if (pt_cmpR op_eq (pv 1) (pe_glob (v := .int 7) (by rfl) g7 ⟨_, rfl⟩) (nomark _)) (pss_one (ps_ret ((pe_meth (pv 0) T.cl M.Ws.m G7 hr M.Ws.b .nil pass0 (pa_cons (pe_ix ix_list (pv 2) pe_int (fun _ _ => rfl)) (pa_cons (pe_ix ix_list (pv 2) pe_int (fun _ _ => rfl)) (pa_cons (pe_ix ix_list (pv 2) pe_int (fun _ _ => rfl)) pa_nil))))))) pss_nil)
      (pss_cons (ps_if (pt_cmpR op_eq (pv 1) (pe_glob (v := .int 8) (by rfl) g8 ⟨_, rfl⟩) (nomark _)) (pss_one (ps_ret ((pe_meth (pv 0) T.cl M.Wy.m G8 hr M.Wy.b .nil pass0 (pa_cons (pe_ix ix_list (pv 2) pe_int (fun _ _ => rfl)) (pa_cons (pe_ix ix_list (pv 2) pe_int (fun _ _ => rfl)) (pa_cons (pe_ix ix_list (pv 2) pe_int (fun _ _ => rfl)) (pa_cons (pe_ix ix_list (pv 2) pe_int (fun _ _ => rfl)) pa_nil)))))))) pss_nil)
      (pss_cons (ps_if (pt_cmpR op_eq (pv 1) (pe_glob (v := .int 9) (by rfl) g9 ⟨_, rfl⟩) (nomark _)) (pss_one (ps_ret ((pe_meth (pv 0) T.cl M.Lp.m G9 hr M.Lp.b .nil pass0 (pa_cons (pe_ix ix_list (pv 2) pe_int (fun _ _ => rfl)) pa_nil))))) pss_nil) (pss_one (ps_ret ((pe_meth0 (pv 0) T.cl M.Sp.m G10 hr M.Sp.b .nil pass0)))))))), ?_⟩
    refine ⟨_, rfl, rfl, _, rfl, ite2 (fun e => ?_) (fun e1 => ⟨_, rfl, rfl, _, rfl, ite2 (fun e => ?_) (fun e2 => ⟨_, rfl, rfl, _, rfl, ite2 (fun e => ?_) (fun e3 => ⟨_, rfl, rfl, _, rfl, ite2 (fun e => ?_) (fun e4 => ?_)⟩)⟩)⟩)⟩
    · have e := same_num e
      obtain rfl : p = 6 := by omega
      have hl := cnt_len ha rfl (by decide)
      exact ⟨_, rfl, x, dx, _, rfl, hx, sF_no sp (by decide +kernel), _, rfl, a, _, _, _, rfl, rfl, .inl (.inl hA), atI_nat (j := 0) (iv_get (get_some (by rw [hl]; decide))), x, sp, t, args.getD 0 0, rfl, S, ht, q⟩
    · have e := same_num e
      obtain rfl : p = 7 := by omega
      have hl := cnt_len ha rfl (by decide)
      refine ⟨_, rfl, x, dx, _, rfl, hx, sF_no sp (by decide +kernel), _, rfl, a, _, _, _, rfl, rfl, .inl (.inl hA), atI_nat (j := 0) (iv_get (get_some (by rw [hl]; decide))), _, rfl, a, _, _, _, rfl, rfl, .inl (.inl hA), atI_nat (j := 1) (iv_get (get_some (by rw [hl]; decide))),
        _, rfl, a, _, _, _, rfl, rfl, .inl (.inl hA), atI_nat (j := 2) (iv_get (get_some (by rw [hl]; decide))), ?_⟩
      exact ⟨x, sp, t, args.getD 0 0, args.getD 1 0, args.getD 2 0, rfl, S, ht, q⟩
    · have e := same_num e
      obtain rfl : p = 8 := by omega
      have hl := cnt_len ha rfl (by decide)
      refine ⟨_, rfl, x, dx, _, rfl, hx, sF_no sp (by decide +kernel), _, rfl, a, _, _, _, rfl, rfl, .inl (.inl hA), atI_nat (j := 0) (iv_get (get_some (by rw [hl]; decide))), _, rfl, a, _, _, _, rfl, rfl, .inl (.inl hA), atI_nat (j := 1) (iv_get (get_some (by rw [hl]; decide))),
        _, rfl, a, _, _, _, rfl, rfl, .inl (.inl hA), atI_nat (j := 2) (iv_get (get_some (by rw [hl]; decide))), _, rfl, a, _, _, _, rfl, rfl, .inl (.inl hA), atI_nat (j := 3) (iv_get (get_some (by rw [hl]; decide))), ?_⟩
      exact ⟨x, sp, t, args.getD 0 0, args.getD 1 0, args.getD 2 0, args.getD 3 0, rfl, S, ht, q⟩
    · have e := same_num e
      obtain rfl : p = 9 := by omega
      have hl := cnt_len ha rfl (by decide)
      exact ⟨_, rfl, x, dx, _, rfl, hx, sF_no sp (by decide +kernel), _, rfl, a, _, _, _, rfl, rfl, .inl (.inl hA), atI_nat (j := 0) (iv_get (get_some (by rw [hl]; decide))), x, sp, t, args.getD 0 0, rfl, S, ht, q⟩
    · have e1 := other_num e1
      have e2 := other_num e2
      have e3 := other_num e3
      have e4 := other_num e4
      obtain rfl : p = 10 := by omega
      exact ⟨_, rfl, x, dx, _, rfl, hx, sF_no sp (by decide +kernel), x, sp, t, rfl, S, ht, q⟩
theorem ok_og (T : Tx K mg C) (TC : Tc mg) (L : Ln K mg) (N : Kn mg) (D : Ld K mg) (M : Ms K C) : FnOk P w K mg base CX0 14 M.fOg M.dOg ["self", "number", "arguments"] (spDis C 11 15) := by
  have B := L.B
  have G11 : FnOk P w K mg base CX0 13 M.fKi M.dKi ["self"] (spKiM C) := ok_kim (k := 7) M.Ki.F T L N D.DK
  have G12 : FnOk P w K mg base CX0 11 M.fPo M.dPo ["self"] (spPoM C) := ok_pom M.Po.F T TC L N D.DK D.DP
  have G13 : FnOk P w K mg base CX0 13 M.fSh M.dSh ["self"] (spShM C) := ok_shm (k := 7) M.Sh.F T TC L D.DE
  have G14 : FnOk P w K mg base CX0 13 M.fRm M.dRm ["self", "piece"] (spRm C) := ok_rm (k := 9) M.Rm.F T L M.Iq
  have G15 : FnOk P w K mg base CX0 13 M.fLo M.dLo ["self", "piece"] (spLo C) := ok_lo (k := 7) M.Lo.F T TC L M.Iq D.DF
  obtain ⟨_, g11⟩ := TC.n11
  obtain ⟨_, g12⟩ := TC.n12
  obtain ⟨_, g13⟩ := TC.n13
  obtain ⟨_, g14⟩ := TC.n14
  refine M.Og.F.ok scOg (fun vs H Q E h => ?_) (fun cdv A outer s H vs Q E hr h => ?_)
  · obtain ⟨x, sp, a, t, p, args, rfl, _⟩ := h
    rfl
  · obtain ⟨x, sp, a, t, p, args, rfl, S, ht, hA, asp, ha, lo, hi, q⟩ := h
    obtain ⟨dx, hx⟩ := S.obj
    refine ⟨_, (pss_cons (ps_if (pt_cmpR op_eq (pv 1) (pe_glob (v := .int 11) (by rfl) g11 ⟨_, rfl⟩) (nomark _)) (pss_one (ps_ret ((pe_meth0 (pv 0) T.cl M.Ki.m G11 hr M.Ki.b .nil pass0)))) pss_nil)
      (pss_cons (ps_if (pt_cmpR op_eq (pv 1) (pe_glob (v := .int 12) (by rfl) g12 ⟨_, rfl⟩) (nomark _)) (pss_one (ps_ret ((pe_meth0 (pv 0) T.cl M.Po.m G12 (hr.mono (by decide)) M.Po.b .nil pass0)))) pss_nil)
      (pss_cons (ps_if (pt_cmpR op_eq (pv 1) (pe_glob (v := .int 13) (by rfl) g13 ⟨_, rfl⟩) (nomark _)) (pss_one (ps_ret ((pe_meth0 (pv 0) T.cl M.Sh.m G13 hr M.Sh.b .nil pass0)))) pss_nil)
      (pss_cons (ps_if (pt_cmpR op_eq (pv 1) (pe_glob (v := .int 14) (by rfl) g14 ⟨_, rfl⟩) (nomark _)) (pss_one (ps_ret ((pe_meth (pv 0) T.cl M.Rm.m G14 hr M.Rm.b .nil pass0 (pa_cons (pe_ix ix_list (pv 2) pe_int (fun _ _ => rfl)) pa_nil))))) pss_nil) (pss_one (ps_ret ((pe_meth (pv 0) T.cl M.Lo.m G15 hr M.Lo.b .nil pass0 (pa_cons (pe_ix ix_list (pv 2) pe_int (fun _ _ => rfl)) pa_nil))))))))), ?_⟩
    refine ⟨_, rfl, rfl, _, rfl, ite2 (fun e => ?_) (fun e1 => ⟨_, rfl, rfl, _, rfl, ite2 (fun e => ?_) (fun e2 => ⟨_, rfl, rfl, _, rfl, ite2 (fun e => ?_) (fun e3 => ⟨_, rfl, rfl, _, rfl, ite2 (fun e => ?_) (fun e4 => ?_)⟩)⟩)⟩)⟩
    · have e := same_num e
      obtain rfl : p = 11 := by omega
      exact ⟨_, rfl, x, dx, _, rfl, hx, sF_no sp (by decide +kernel), x, sp, t, rfl, S, ht, q⟩
    · have e := same_num e
      obtain rfl : p = 12 := by omega
      exact ⟨_, rfl, x, dx, _, rfl, hx, sF_no sp (by decide +kernel), x, sp, t, rfl, S, ht, q⟩
    · have e := same_num e
      obtain rfl : p = 13 := by omega
      exact ⟨_, rfl, x, dx, _, rfl, hx, sF_no sp (by decide +kernel), x, sp, t, rfl, S, ht, q⟩
    · have e := same_num e
      obtain rfl : p = 14 := by omega
      have hl := cnt_len ha rfl (by decide)
      exact ⟨_, rfl, x, dx, _, rfl, hx, sF_no sp (by decide +kernel), _, rfl, a, _, _, _, rfl, rfl, .inl (.inl hA), atI_nat (j := 0) (iv_get (get_some (by rw [hl]; decide))), x, sp, t, args.getD 0 0, rfl, S, ht, q⟩
    · have e1 := other_num e1
      have e2 := other_num e2
      have e3 := other_num e3
      have e4 := other_num e4
      obtain rfl : p = 15 := by omega
      have hl := cnt_len ha rfl (by decide)
      exact ⟨_, rfl, x, dx, _, rfl, hx, sF_no sp (by decide +kernel), _, rfl, a, _, _, _, rfl, rfl, .inl (.inl hA), atI_nat (j := 0) (iv_get (get_some (by rw [hl]; decide))), x, sp, t, args.getD 0 0, rfl, S, ht, q⟩

/-! ### answer -/
theorem ok_an {f : Addr} {fd : FuncData} (F : Fun K "answer" "Session.answer" mAns f fd) (T : Tx K mg C) (TC : Tc mg) (L : Ln K mg) (N : Kn mg) (D : Ld K mg) (M : Ms K C) : FnOk P w K mg base CX0 15 f fd ["self", "number", "arguments"] (spOne K C) := by
  have B := L.B
  have G0 : FnOk P w K mg base CX0 14 M.fBe M.dBe ["self", "pieces"] (spBeg C) := ok_beg (k := 12) M.Be.F T B D.DU
  have GP : FnOk P w K mg base CX0 14 M.fOp M.dOp ["self", "number", "arguments"] (spDis C 1 5) := ok_op T TC L D M
  have GW : FnOk P w K mg base CX0 14 M.fOw M.dOw ["self", "number", "arguments"] (spDis C 6 10) := ok_ow T TC L D M
  have GG : FnOk P w K mg base CX0 14 M.fOg M.dOg ["self", "number", "arguments"] (spDis C 11 15) := ok_og T TC L N D M
  obtain ⟨_, g0⟩ := TC.n0
  obtain ⟨_, g5⟩ := TC.n5
  obtain ⟨_, g10⟩ := TC.n10
  obtain ⟨_, g11⟩ := T.c11
  refine F.ok scAn (fun vs H Q E h => ?_) (fun cdv A outer s H vs Q E hr h => ?_)
  · obtain ⟨x, sp, a, t, p, args, rfl, _⟩ := h
    rfl
  · obtain ⟨x, sp, a, t, p, args, rfl, S, ht, hA, asp, ha, q⟩ := h
    obtain ⟨dx, hx⟩ := S.obj
    refine ⟨_, (pss_cons (ps_if (pt_cmpR op_eq (pv 1) (pe_glob (v := .int 0) (by rfl) g0 ⟨_, rfl⟩) (nomark _)) (pss_one (ps_ret ((pe_meth (pv 0) T.cl M.Be.m G0 hr M.Be.b .nil pass0 (pa_cons (pe_ix ix_list (pv 2) pe_int (fun _ _ => rfl)) pa_nil))))) pss_nil)
      (pss_cons (ps_if (pt_cmpR op_eq ((pe_callB call_len_seq (by rfl) B.len PySem.boot_len (pa_cons (pe_fld (pv 0) rfl) pa_nil))) pe_int (nomark _)) (pss_one (ps_ret (pe_lst (pa_cons (pe_glob (v := .int (-11)) (by rfl) g11 ⟨_, rfl⟩) pa_nil)))) pss_nil)
      (pss_cons (ps_if (pt_cmpR op_le (pv 1) ((pe_glob (v := .int 5) (by rfl) g5 ⟨_, rfl⟩)) (nomark _)) (pss_one (ps_ret ((pe_meth (pv 0) T.cl M.Op.m GP hr M.Op.b .nil pass0 (pa_cons (pv 1) (pa_cons (pv 2) pa_nil)))))) pss_nil)
      (pss_cons (ps_if (pt_cmpR op_le (pv 1) ((pe_glob (v := .int 10) (by rfl) g10 ⟨_, rfl⟩)) (nomark _)) (pss_one (ps_ret ((pe_meth (pv 0) T.cl M.Ow.m GW hr M.Ow.b .nil pass0 (pa_cons (pv 1) (pa_cons (pv 2) pa_nil)))))) pss_nil) (pss_one (ps_ret ((pe_meth (pv 0) T.cl M.Og.m GG hr M.Og.b .nil pass0 (pa_cons (pv 1) (pa_cons (pv 2) pa_nil)))))))))), ?_⟩
    refine ⟨_, rfl, rfl, _, rfl, ite2 (fun e => ?_) (fun e0 => ?_)⟩
    · have e := same_num e
      obtain rfl : p = 0 := by omega
      have hl := cnt_len ha rfl (by decide)
      obtain ⟨hS, he⟩ := one_beg ht ha
      have q := q _ hS (by rw [he])
      rw [he] at q
      exact ⟨_, rfl, x, dx, _, rfl, hx, sF_no sp (by decide +kernel), _, rfl, a, _, _, _, rfl, rfl, .inl (.inl hA), atI_nat (j := 0) (iv_get (get_some (by rw [hl]; decide))), x, sp, t, args.getD 0 0, rfl, S, q⟩
    · have e0 := other_num e0
      have p0 : p ≠ 0 := by omega
      refine ⟨_, rfl, x, C, dx, _, _, rfl, hx, T.cl, T.nS, sF_spots sp, sp, iv t, rfl, .inl (.inl (.inl S.row)), rfl, _, rfl, ite2 (fun e => ?_) (fun e => ?_)⟩
      · have e := same_num e
        rw [iv_len] at e
        have hn : t = [] := List.eq_nil_of_length_eq_zero (by omega)
        subst hn
        have he := one_not ha p0
        have q := q [] (.inl rfl) (by rw [he])
        rw [he] at q
        exact ⟨by decide, fun p hp => q.still S (same_upd hp) hp upd_same⟩
      · have e := other_num e
        rw [iv_len] at e
        have hp : Pts t := by
          rcases ht with z | z
          · rw [z] at e; exact absurd rfl e
          · exact z
        obtain ⟨hS, he⟩ := one_ans hp ha
        have q := q _ hS (by rw [he])
        rw [he] at q
        have h16 := ha.1
        refine ⟨_, rfl, _, _, rfl, rfl, _, rfl, ite2 (fun e5 => ?_) (fun e5 => ?_)⟩
        · have e5 := of_decide_eq_true e5
          exact ⟨_, rfl, x, dx, _, rfl, hx, sF_no sp (by decide +kernel), _, rfl, _, rfl, x, sp, a, t, p, args, rfl, S, hp, hA, asp, ha, by omega, by omega, q⟩
        · have e5 : ¬ (p : Int) ≤ 5 := fun z => e5 (decide_eq_true z)
          refine ⟨_, rfl, _, _, rfl, rfl, _, rfl, ite2 (fun e10 => ?_) (fun e10 => ?_)⟩
          · have e10 := of_decide_eq_true e10
            exact ⟨_, rfl, x, dx, _, rfl, hx, sF_no sp (by decide +kernel), _, rfl, _, rfl, x, sp, a, t, p, args, rfl, S, hp, hA, asp, ha, by omega, by omega, q⟩
          · have e10 : ¬ (p : Int) ≤ 10 := fun z => e10 (decide_eq_true z)
            exact ⟨_, rfl, x, dx, _, rfl, hx, sF_no sp (by decide +kernel), _, rfl, _, rfl, x, sp, a, t, p, args, rfl, S, hp, hA, asp, ha, by omega, by omega, q⟩
end
end FG
namespace FG
open PyProof.Rows L2 PySem PySem.Spec
theorem all_mk {P : Program} {w : World} {K : PySem.W.Frag} {h : Heap} {mg : Str → Option Value} {fa C f1 f2 f3 f4 f5 f6 f7 f8 f9 f10 f11 f12 f13 f14 f15 f16 f17 f18 f19 f20 f21 f22 f23 f24 f25 f26 f27 f28 f29 f30 f31 f32 f33 f34 f35 f36 f37 f38 f39 f40 f41 f42 f43 f44 f45 f46 f47 f48 f49 f50 f51 f52 f53 f54 : Addr} (X : K.In h) (G : h.Ns mainGlobals mg) (hfa : mg "answers" = some (.ref fa))
    {od1 an1 : Option Addr} {sl1 : Array (Option Value)} {oc1 kV1 dc1 pm1 cd1 ct1 : Value}
    {od2 an2 : Option Addr} {sl2 : Array (Option Value)} {oc2 kV2 dc2 pm2 cd2 ct2 : Value}
    {od3 an3 : Option Addr} {sl3 : Array (Option Value)} {oc3 kV3 dc3 pm3 cd3 ct3 : Value}
    {od4 an4 : Option Addr} {sl4 : Array (Option Value)} {oc4 kV4 dc4 pm4 cd4 ct4 : Value}
    {od5 an5 : Option Addr} {sl5 : Array (Option Value)} {oc5 kV5 dc5 pm5 cd5 ct5 : Value}
    {od6 an6 : Option Addr} {sl6 : Array (Option Value)} {oc6 kV6 dc6 pm6 cd6 ct6 : Value}
    {od7 an7 : Option Addr} {sl7 : Array (Option Value)} {oc7 kV7 dc7 pm7 cd7 ct7 : Value}
    {od8 an8 : Option Addr} {sl8 : Array (Option Value)} {oc8 kV8 dc8 pm8 cd8 ct8 : Value}
    {od9 an9 : Option Addr} {sl9 : Array (Option Value)} {oc9 kV9 dc9 pm9 cd9 ct9 : Value}
    {od10 an10 : Option Addr} {sl10 : Array (Option Value)} {oc10 kV10 dc10 pm10 cd10 ct10 : Value}
    {od11 an11 : Option Addr} {sl11 : Array (Option Value)} {oc11 kV11 dc11 pm11 cd11 ct11 : Value}
    {od12 an12 : Option Addr} {sl12 : Array (Option Value)} {oc12 kV12 dc12 pm12 cd12 ct12 : Value}
    {od13 an13 : Option Addr} {sl13 : Array (Option Value)} {oc13 kV13 dc13 pm13 cd13 ct13 : Value}
    {od14 an14 : Option Addr} {sl14 : Array (Option Value)} {oc14 kV14 dc14 pm14 cd14 ct14 : Value}
    {od15 an15 : Option Addr} {sl15 : Array (Option Value)} {oc15 kV15 dc15 pm15 cd15 ct15 : Value}
    {od16 an16 : Option Addr} {sl16 : Array (Option Value)} {oc16 kV16 dc16 pm16 cd16 ct16 : Value}
    {od17 an17 : Option Addr} {sl17 : Array (Option Value)} {oc17 kV17 dc17 pm17 cd17 ct17 : Value}
    {od18 an18 : Option Addr} {sl18 : Array (Option Value)} {oc18 kV18 dc18 pm18 cd18 ct18 : Value}
    {od19 an19 : Option Addr} {sl19 : Array (Option Value)} {oc19 kV19 dc19 pm19 cd19 ct19 : Value}
    {od20 an20 : Option Addr} {sl20 : Array (Option Value)} {oc20 kV20 dc20 pm20 cd20 ct20 : Value}
    {od21 an21 : Option Addr} {sl21 : Array (Option Value)} {oc21 kV21 dc21 pm21 cd21 ct21 : Value}
    {od22 an22 : Option Addr} {sl22 : Array (Option Value)} {oc22 kV22 dc22 pm22 cd22 ct22 : Value}
    {od23 an23 : Option Addr} {sl23 : Array (Option Value)} {oc23 kV23 dc23 pm23 cd23 ct23 : Value}
    {od24 an24 : Option Addr} {sl24 : Array (Option Value)} {oc24 kV24 dc24 pm24 cd24 ct24 : Value}
    {od25 an25 : Option Addr} {sl25 : Array (Option Value)} {oc25 kV25 dc25 pm25 cd25 ct25 : Value}
    {od26 an26 : Option Addr} {sl26 : Array (Option Value)} {oc26 kV26 dc26 pm26 cd26 ct26 : Value}
    {od27 an27 : Option Addr} {sl27 : Array (Option Value)} {oc27 kV27 dc27 pm27 cd27 ct27 : Value}
    {od28 an28 : Option Addr} {sl28 : Array (Option Value)} {oc28 kV28 dc28 pm28 cd28 ct28 : Value}
    {od29 an29 : Option Addr} {sl29 : Array (Option Value)} {oc29 kV29 dc29 pm29 cd29 ct29 : Value}
    {od30 an30 : Option Addr} {sl30 : Array (Option Value)} {oc30 kV30 dc30 pm30 cd30 ct30 : Value}
    {od31 an31 : Option Addr} {sl31 : Array (Option Value)} {oc31 kV31 dc31 pm31 cd31 ct31 : Value}
    {od32 an32 : Option Addr} {sl32 : Array (Option Value)} {oc32 kV32 dc32 pm32 cd32 ct32 : Value}
    {od33 an33 : Option Addr} {sl33 : Array (Option Value)} {oc33 kV33 dc33 pm33 cd33 ct33 : Value}
    {od34 an34 : Option Addr} {sl34 : Array (Option Value)} {oc34 kV34 dc34 pm34 cd34 ct34 : Value}
    {od35 an35 : Option Addr} {sl35 : Array (Option Value)} {oc35 kV35 dc35 pm35 cd35 ct35 : Value}
    {od36 an36 : Option Addr} {sl36 : Array (Option Value)} {oc36 kV36 dc36 pm36 cd36 ct36 : Value}
    {od37 an37 : Option Addr} {sl37 : Array (Option Value)} {oc37 kV37 dc37 pm37 cd37 ct37 : Value}
    {od38 an38 : Option Addr} {sl38 : Array (Option Value)} {oc38 kV38 dc38 pm38 cd38 ct38 : Value}
    {od39 an39 : Option Addr} {sl39 : Array (Option Value)} {oc39 kV39 dc39 pm39 cd39 ct39 : Value}
    {od40 an40 : Option Addr} {sl40 : Array (Option Value)} {oc40 kV40 dc40 pm40 cd40 ct40 : Value}
    {od41 an41 : Option Addr} {sl41 : Array (Option Value)} {oc41 kV41 dc41 pm41 cd41 ct41 : Value}
    {od42 an42 : Option Addr} {sl42 : Array (Option Value)} {oc42 kV42 dc42 pm42 cd42 ct42 : Value}
    {od43 an43 : Option Addr} {sl43 : Array (Option Value)} {oc43 kV43 dc43 pm43 cd43 ct43 : Value}
    {od44 an44 : Option Addr} {sl44 : Array (Option Value)} {oc44 kV44 dc44 pm44 cd44 ct44 : Value}
    {od45 an45 : Option Addr} {sl45 : Array (Option Value)} {oc45 kV45 dc45 pm45 cd45 ct45 : Value}
    {od46 an46 : Option Addr} {sl46 : Array (Option Value)} {oc46 kV46 dc46 pm46 cd46 ct46 : Value}
    {od47 an47 : Option Addr} {sl47 : Array (Option Value)} {oc47 kV47 dc47 pm47 cd47 ct47 : Value}
    {od48 an48 : Option Addr} {sl48 : Array (Option Value)} {oc48 kV48 dc48 pm48 cd48 ct48 : Value}
    {od49 an49 : Option Addr} {sl49 : Array (Option Value)} {oc49 kV49 dc49 pm49 cd49 ct49 : Value}
    {od50 an50 : Option Addr} {sl50 : Array (Option Value)} {oc50 kV50 dc50 pm50 cd50 ct50 : Value}
    {od51 an51 : Option Addr} {sl51 : Array (Option Value)} {oc51 kV51 dc51 pm51 cd51 ct51 : Value}
    {od52 an52 : Option Addr} {sl52 : Array (Option Value)} {oc52 kV52 dc52 pm52 cd52 ct52 : Value}
    {od53 an53 : Option Addr} {sl53 : Array (Option Value)} {oc53 kV53 dc53 pm53 cd53 ct53 : Value}
    {od54 an54 : Option Addr} {sl54 : Array (Option Value)} {oc54 kV54 dc54 pm54 cd54 ct54 : Value}
    {t_c2 t_c11 t_c22 t_c33 t_mp t_mr t_ms t_mw t_k0 t_k1 t_k2 t_n0 t_n1 t_n2 t_n3 t_n4 t_n5 t_n6 t_n7 t_n8 t_n9 t_n10 t_n11 t_n12 t_n13 t_n14 : Tok}
    {aAC : Addr} {odA : Option Addr} {nA : Nat} {slA : Array (Option Value)} {u0 u1 u2 u3 u4 u5 u6 u7 u8 u9 u10 u11 u12 u13 u14 u15 : Tok}
    (a1 : PySem.W.nsIn K mainGlobals "unfolded" = some (some (.ref f1))) (l1 : K.lookup f1 = some ⟨oc1, od1, .func (PySem.W.fnOf "unfolded" "unfolded" (defArgs sUnf) (defBody sUnf) (defScope sUnf) .none kV1 dc1 pm1 an1 cd1 ct1), sl1⟩) (c1 : PySem.W.codeIn K cd1 "unfolded" = true) (k1 : PySem.W.keepIn K (.ref f1) = true)
    (a2 : PySem.W.nsIn K mainGlobals "turned" = some (some (.ref f2))) (l2 : K.lookup f2 = some ⟨oc2, od2, .func (PySem.W.fnOf "turned" "turned" (defArgs sTur) (defBody sTur) (defScope sTur) .none kV2 dc2 pm2 an2 cd2 ct2), sl2⟩) (c2 : PySem.W.codeIn K cd2 "turned" = true) (k2 : PySem.W.keepIn K (.ref f2) = true)
    (a3 : PySem.W.nsIn K mainGlobals "piece_count" = some (some (.ref f3))) (l3 : K.lookup f3 = some ⟨oc3, od3, .func (PySem.W.fnOf "piece_count" "piece_count" (defArgs sPc) (defBody sPc) (defScope sPc) .none kV3 dc3 pm3 an3 cd3 ct3), sl3⟩) (c3 : PySem.W.codeIn K cd3 "piece_count" = true) (k3 : PySem.W.keepIn K (.ref f3) = true)
    (a4 : PySem.W.nsIn K mainGlobals "covered" = some (some (.ref f4))) (l4 : K.lookup f4 = some ⟨oc4, od4, .func (PySem.W.fnOf "covered" "covered" (defArgs sCov) (defBody sCov) (defScope sCov) .none kV4 dc4 pm4 an4 cd4 ct4), sl4⟩) (c4 : PySem.W.codeIn K cd4 "covered" = true) (k4 : PySem.W.keepIn K (.ref f4) = true)
    (a5 : PySem.W.nsIn K mainGlobals "one_step_more" = some (some (.ref f5))) (l5 : K.lookup f5 = some ⟨oc5, od5, .func (PySem.W.fnOf "one_step_more" "one_step_more" (defArgs sOsm) (defBody sOsm) (defScope sOsm) .none kV5 dc5 pm5 an5 cd5 ct5), sl5⟩) (c5 : PySem.W.codeIn K cd5 "one_step_more" = true) (k5 : PySem.W.keepIn K (.ref f5) = true)
    (a6 : PySem.W.nsIn K mainGlobals "one_step_ahead" = some (some (.ref f6))) (l6 : K.lookup f6 = some ⟨oc6, od6, .func (PySem.W.fnOf "one_step_ahead" "one_step_ahead" (defArgs sOsa) (defBody sOsa) (defScope sOsa) .none kV6 dc6 pm6 an6 cd6 ct6), sl6⟩) (c6 : PySem.W.codeIn K cd6 "one_step_ahead" = true) (k6 : PySem.W.keepIn K (.ref f6) = true)
    (a7 : PySem.W.nsIn K mainGlobals "begins_in" = some (some (.ref f7))) (l7 : K.lookup f7 = some ⟨oc7, od7, .func (PySem.W.fnOf "begins_in" "begins_in" (defArgs sBi) (defBody sBi) (defScope sBi) .none kV7 dc7 pm7 an7 cd7 ct7), sl7⟩) (c7 : PySem.W.codeIn K cd7 "begins_in" = true) (k7 : PySem.W.keepIn K (.ref f7) = true)
    (a8 : PySem.W.nsIn K mainGlobals "way_ends" = some (some (.ref f8))) (l8 : K.lookup f8 = some ⟨oc8, od8, .func (PySem.W.fnOf "way_ends" "way_ends" (defArgs sWe) (defBody sWe) (defScope sWe) .none kV8 dc8 pm8 an8 cd8 ct8), sl8⟩) (c8 : PySem.W.codeIn K cd8 "way_ends" = true) (k8 : PySem.W.keepIn K (.ref f8) = true)
    (a9 : PySem.W.nsIn K mainGlobals "length_of" = some (some (.ref f9))) (l9 : K.lookup f9 = some ⟨oc9, od9, .func (PySem.W.fnOf "length_of" "length_of" (defArgs sLen) (defBody sLen) (defScope sLen) .none kV9 dc9 pm9 an9 cd9 ct9), sl9⟩) (c9 : PySem.W.codeIn K cd9 "length_of" = true) (k9 : PySem.W.keepIn K (.ref f9) = true)
    (a10 : PySem.W.nsIn K mainGlobals "way_count" = some (some (.ref f10))) (l10 : K.lookup f10 = some ⟨oc10, od10, .func (PySem.W.fnOf "way_count" "way_count" (defArgs sWc) (defBody sWc) (defScope sWc) .none kV10 dc10 pm10 an10 cd10 ct10), sl10⟩) (c10 : PySem.W.codeIn K cd10 "way_count" = true) (k10 : PySem.W.keepIn K (.ref f10) = true)
    (a11 : PySem.W.nsIn K mainGlobals "counts_onward" = some (some (.ref f11))) (l11 : K.lookup f11 = some ⟨oc11, od11, .func (PySem.W.fnOf "counts_onward" "counts_onward" (defArgs sCo) (defBody sCo) (defScope sCo) .none kV11 dc11 pm11 an11 cd11 ct11), sl11⟩) (c11 : PySem.W.codeIn K cd11 "counts_onward" = true) (k11 : PySem.W.keepIn K (.ref f11) = true)
    (a12 : PySem.W.nsIn K mainGlobals "way_at" = some (some (.ref f12))) (l12 : K.lookup f12 = some ⟨oc12, od12, .func (PySem.W.fnOf "way_at" "way_at" (defArgs sWa) (defBody sWa) (defScope sWa) .none kV12 dc12 pm12 an12 cd12 ct12), sl12⟩) (c12 : PySem.W.codeIn K cd12 "way_at" = true) (k12 : PySem.W.keepIn K (.ref f12) = true)
    (a13 : PySem.W.nsIn K mainGlobals "loops_by_piece" = some (some (.ref f13))) (l13 : K.lookup f13 = some ⟨oc13, od13, .func (PySem.W.fnOf "loops_by_piece" "loops_by_piece" (defArgs sLb) (defBody sLb) (defScope sLb) .none kV13 dc13 pm13 an13 cd13 ct13), sl13⟩) (c13 : PySem.W.codeIn K cd13 "loops_by_piece" = true) (k13 : PySem.W.keepIn K (.ref f13) = true)
    (a14 : PySem.W.nsIn K mainGlobals "loop_count" = some (some (.ref f14))) (l14 : K.lookup f14 = some ⟨oc14, od14, .func (PySem.W.fnOf "loop_count" "loop_count" (defArgs sLc) (defBody sLc) (defScope sLc) .none kV14 dc14 pm14 an14 cd14 ct14), sl14⟩) (c14 : PySem.W.codeIn K cd14 "loop_count" = true) (k14 : PySem.W.keepIn K (.ref f14) = true)
    (a15 : PySem.W.nsIn K mainGlobals "steps_of_loops" = some (some (.ref f15))) (l15 : K.lookup f15 = some ⟨oc15, od15, .func (PySem.W.fnOf "steps_of_loops" "steps_of_loops" (defArgs sSl) (defBody sSl) (defScope sSl) .none kV15 dc15 pm15 an15 cd15 ct15), sl15⟩) (c15 : PySem.W.codeIn K cd15 "steps_of_loops" = true) (k15 : PySem.W.keepIn K (.ref f15) = true)
    (a16 : PySem.W.nsIn K mainGlobals "whole_loop_count" = some (some (.ref f16))) (l16 : K.lookup f16 = some ⟨oc16, od16, .func (PySem.W.fnOf "whole_loop_count" "whole_loop_count" (defArgs sWl) (defBody sWl) (defScope sWl) .none kV16 dc16 pm16 an16 cd16 ct16), sl16⟩) (c16 : PySem.W.codeIn K cd16 "whole_loop_count" = true) (k16 : PySem.W.keepIn K (.ref f16) = true)
    (a17 : PySem.W.nsIn K mainGlobals "comes_back" = some (some (.ref f17))) (l17 : K.lookup f17 = some ⟨oc17, od17, .func (PySem.W.fnOf "comes_back" "comes_back" (defArgs sCb) (defBody sCb) (defScope sCb) .none kV17 dc17 pm17 an17 cd17 ct17), sl17⟩) (c17 : PySem.W.codeIn K cd17 "comes_back" = true) (k17 : PySem.W.keepIn K (.ref f17) = true)
    (a18 : PySem.W.nsIn K mainGlobals "has_round" = some (some (.ref f18))) (l18 : K.lookup f18 = some ⟨oc18, od18, .func (PySem.W.fnOf "has_round" "has_round" (defArgs sHr) (defBody sHr) (defScope sHr) .none kV18 dc18 pm18 an18 cd18 ct18), sl18⟩) (c18 : PySem.W.codeIn K cd18 "has_round" = true) (k18 : PySem.W.keepIn K (.ref f18) = true)
    (a19 : PySem.W.nsIn K mainGlobals "reached" = some (some (.ref f19))) (l19 : K.lookup f19 = some ⟨oc19, od19, .func (PySem.W.fnOf "reached" "reached" (defArgs sRe) (defBody sRe) (defScope sRe) .none kV19 dc19 pm19 an19 cd19 ct19), sl19⟩) (c19 : PySem.W.codeIn K cd19 "reached" = true) (k19 : PySem.W.keepIn K (.ref f19) = true)
    (a20 : PySem.W.nsIn K mainGlobals "is_on_loop" = some (some (.ref f20))) (l20 : K.lookup f20 = some ⟨oc20, od20, .func (PySem.W.fnOf "is_on_loop" "is_on_loop" (defArgs sOl) (defBody sOl) (defScope sOl) .none kV20 dc20 pm20 an20 cd20 ct20), sl20⟩) (c20 : PySem.W.codeIn K cd20 "is_on_loop" = true) (k20 : PySem.W.keepIn K (.ref f20) = true)
    (a21 : PySem.W.nsIn K mainGlobals "room_of" = some (some (.ref f21))) (l21 : K.lookup f21 = some ⟨oc21, od21, .func (PySem.W.fnOf "room_of" "room_of" (defArgs sRo) (defBody sRo) (defScope sRo) .none kV21 dc21 pm21 an21 cd21 ct21), sl21⟩) (c21 : PySem.W.codeIn K cd21 "room_of" = true) (k21 : PySem.W.keepIn K (.ref f21) = true)
    (a22 : PySem.W.nsIn K mainGlobals "covers_two_of_its_room" = some (some (.ref f22))) (l22 : K.lookup f22 = some ⟨oc22, od22, .func (PySem.W.fnOf "covers_two_of_its_room" "covers_two_of_its_room" (defArgs sC2) (defBody sC2) (defScope sC2) .none kV22 dc22 pm22 an22 cd22 ct22), sl22⟩) (c22 : PySem.W.codeIn K cd22 "covers_two_of_its_room" = true) (k22 : PySem.W.keepIn K (.ref f22) = true)
    (a23 : PySem.W.nsIn K mainGlobals "kind_of" = some (some (.ref f23))) (l23 : K.lookup f23 = some ⟨oc23, od23, .func (PySem.W.fnOf "kind_of" "kind_of" (defArgs sKi) (defBody sKi) (defScope sKi) .none kV23 dc23 pm23 an23 cd23 ct23), sl23⟩) (c23 : PySem.W.codeIn K cd23 "kind_of" = true) (k23 : PySem.W.keepIn K (.ref f23) = true)
    (a24 : PySem.W.nsIn K mainGlobals "rooms_with_loops" = some (some (.ref f24))) (l24 : K.lookup f24 = some ⟨oc24, od24, .func (PySem.W.fnOf "rooms_with_loops" "rooms_with_loops" (defArgs sRl) (defBody sRl) (defScope sRl) .none kV24 dc24 pm24 an24 cd24 ct24), sl24⟩) (c24 : PySem.W.codeIn K cd24 "rooms_with_loops" = true) (k24 : PySem.W.keepIn K (.ref f24) = true)
    (a25 : PySem.W.nsIn K mainGlobals "most_rooms_passed" = some (some (.ref f25))) (l25 : K.lookup f25 = some ⟨oc25, od25, .func (PySem.W.fnOf "most_rooms_passed" "most_rooms_passed" (defArgs sMr) (defBody sMr) (defScope sMr) .none kV25 dc25 pm25 an25 cd25 ct25), sl25⟩) (c25 : PySem.W.codeIn K cd25 "most_rooms_passed" = true) (k25 : PySem.W.keepIn K (.ref f25) = true)
    (a26 : PySem.W.nsIn K mainGlobals "power_of" = some (some (.ref f26))) (l26 : K.lookup f26 = some ⟨oc26, od26, .func (PySem.W.fnOf "power_of" "power_of" (defArgs sPo) (defBody sPo) (defScope sPo) .none kV26 dc26 pm26 an26 cd26 ct26), sl26⟩) (c26 : PySem.W.codeIn K cd26 "power_of" = true) (k26 : PySem.W.keepIn K (.ref f26) = true)
    (a27 : PySem.W.nsIn K mainGlobals "first_loop" = some (some (.ref f27))) (l27 : K.lookup f27 = some ⟨oc27, od27, .func (PySem.W.fnOf "first_loop" "first_loop" (defArgs sFl) (defBody sFl) (defScope sFl) .none kV27 dc27 pm27 an27 cd27 ct27), sl27⟩) (c27 : PySem.W.codeIn K cd27 "first_loop" = true) (k27 : PySem.W.keepIn K (.ref f27) = true)
    (a28 : PySem.W.nsIn K mainGlobals "shoe_of" = some (some (.ref f28))) (l28 : K.lookup f28 = some ⟨oc28, od28, .func (PySem.W.fnOf "shoe_of" "shoe_of" (defArgs sSh) (defBody sSh) (defScope sSh) .none kV28 dc28 pm28 an28 cd28 ct28), sl28⟩) (c28 : PySem.W.codeIn K cd28 "shoe_of" = true) (k28 : PySem.W.keepIn K (.ref f28) = true)
    (a29 : PySem.W.nsIn K mainGlobals "first_argument" = some (some (.ref f29))) (l29 : K.lookup f29 = some ⟨oc29, od29, .func (PySem.W.fnOf "first_argument" "first_argument" (defArgs sFa) (defBody sFa) (defScope sFa) .none kV29 dc29 pm29 an29 cd29 ct29), sl29⟩) (c29 : PySem.W.codeIn K cd29 "first_argument" = true) (k29 : PySem.W.keepIn K (.ref f29) = true)
    (a30 : PySem.W.nsIn K mainGlobals "argument_count" = some (some (.ref f30))) (l30 : K.lookup f30 = some ⟨oc30, od30, .func (PySem.W.fnOf "argument_count" "argument_count" (defArgs sAc) (defBody sAc) (defScope sAc) .none kV30 dc30 pm30 an30 cd30 ct30), sl30⟩) (c30 : PySem.W.codeIn K cd30 "argument_count" = true) (k30 : PySem.W.keepIn K (.ref f30) = true)
    (a31 : PySem.W.nsIn K mainGlobals "answers" = some (some (.ref f31))) (l31 : K.lookup f31 = some ⟨oc31, od31, .func (PySem.W.fnOf "answers" "answers" (defArgs sAns) (defBody sAns) (defScope sAns) .none kV31 dc31 pm31 an31 cd31 ct31), sl31⟩) (c31 : PySem.W.codeIn K cd31 "answers" = true) (k31 : PySem.W.keepIn K (.ref f31) = true)
    (aC : PySem.W.nsIn K mainGlobals "Session" = some (some (.ref C))) (pg : PySem.W.plainGet K C Str.empty = true) (hd : PySem.W.hasDictIn K C = true) (po : PySem.W.plainOver K C = true) (sa : PySem.W.findIn K (.ref C) "__setattr__" = some (some (.builtin "object.__setattr__"))) (mk : PySem.W.makesIn K C = true) (kc : PySem.W.keepIn K (.ref C) = true) (nS : PySem.W.findIn K (.ref C) "spots" = some none)
    (a32 : PySem.W.findIn K (.ref C) "__init__" = some (some (.ref f32))) (i32 : PySem.W.isFn K (.ref f32) = true) (l32 : K.lookup f32 = some ⟨oc32, od32, .func (PySem.W.fnOf "__init__" "Session.__init__" (defArgs mInit) (defBody mInit) (defScope mInit) .none kV32 dc32 pm32 an32 cd32 ct32), sl32⟩) (c32 : PySem.W.codeIn K cd32 "Session.__init__" = true) (k32 : PySem.W.keepIn K (.ref f32) = true)
    (a33 : PySem.W.findIn K (.ref C) "is_point" = some (some (.ref f33))) (i33 : PySem.W.isFn K (.ref f33) = true) (l33 : K.lookup f33 = some ⟨oc33, od33, .func (PySem.W.fnOf "is_point" "Session.is_point" (defArgs mIsPt) (defBody mIsPt) (defScope mIsPt) .none kV33 dc33 pm33 an33 cd33 ct33), sl33⟩) (c33 : PySem.W.codeIn K cd33 "Session.is_point" = true) (k33 : PySem.W.keepIn K (.ref f33) = true)
    (a34 : PySem.W.findIn K (.ref C) "is_piece" = some (some (.ref f34))) (i34 : PySem.W.isFn K (.ref f34) = true) (l34 : K.lookup f34 = some ⟨oc34, od34, .func (PySem.W.fnOf "is_piece" "Session.is_piece" (defArgs mIsPc) (defBody mIsPc) (defScope mIsPc) .none kV34 dc34 pm34 an34 cd34 ct34), sl34⟩) (c34 : PySem.W.codeIn K cd34 "Session.is_piece" = true) (k34 : PySem.W.keepIn K (.ref f34) = true)
    (a35 : PySem.W.findIn K (.ref C) "begin" = some (some (.ref f35))) (i35 : PySem.W.isFn K (.ref f35) = true) (l35 : K.lookup f35 = some ⟨oc35, od35, .func (PySem.W.fnOf "begin" "Session.begin" (defArgs mBeg) (defBody mBeg) (defScope mBeg) .none kV35 dc35 pm35 an35 cd35 ct35), sl35⟩) (c35 : PySem.W.codeIn K cd35 "Session.begin" = true) (k35 : PySem.W.keepIn K (.ref f35) = true)
    (a36 : PySem.W.findIn K (.ref C) "put_point" = some (some (.ref f36))) (i36 : PySem.W.isFn K (.ref f36) = true) (l36 : K.lookup f36 = some ⟨oc36, od36, .func (PySem.W.fnOf "put_point" "Session.put_point" (defArgs mPut) (defBody mPut) (defScope mPut) .none kV36 dc36 pm36 an36 cd36 ct36), sl36⟩) (c36 : PySem.W.codeIn K cd36 "Session.put_point" = true) (k36 : PySem.W.keepIn K (.ref f36) = true)
    (a37 : PySem.W.findIn K (.ref C) "put_row" = some (some (.ref f37))) (i37 : PySem.W.isFn K (.ref f37) = true) (l37 : K.lookup f37 = some ⟨oc37, od37, .func (PySem.W.fnOf "put_row" "Session.put_row" (defArgs mRow) (defBody mRow) (defScope mRow) .none kV37 dc37 pm37 an37 cd37 ct37), sl37⟩) (c37 : PySem.W.codeIn K cd37 "Session.put_row" = true) (k37 : PySem.W.keepIn K (.ref f37) = true)
    (a38 : PySem.W.findIn K (.ref C) "turn" = some (some (.ref f38))) (i38 : PySem.W.isFn K (.ref f38) = true) (l38 : K.lookup f38 = some ⟨oc38, od38, .func (PySem.W.fnOf "turn" "Session.turn" (defArgs mTur) (defBody mTur) (defScope mTur) .none kV38 dc38 pm38 an38 cd38 ct38), sl38⟩) (c38 : PySem.W.codeIn K cd38 "Session.turn" = true) (k38 : PySem.W.keepIn K (.ref f38) = true)
    (a39 : PySem.W.findIn K (.ref C) "state" = some (some (.ref f39))) (i39 : PySem.W.isFn K (.ref f39) = true) (l39 : K.lookup f39 = some ⟨oc39, od39, .func (PySem.W.fnOf "state" "Session.state" (defArgs mSta) (defBody mSta) (defScope mSta) .none kV39 dc39 pm39 an39 cd39 ct39), sl39⟩) (c39 : PySem.W.codeIn K cd39 "Session.state" = true) (k39 : PySem.W.keepIn K (.ref f39) = true)
    (a40 : PySem.W.findIn K (.ref C) "has" = some (some (.ref f40))) (i40 : PySem.W.isFn K (.ref f40) = true) (l40 : K.lookup f40 = some ⟨oc40, od40, .func (PySem.W.fnOf "has" "Session.has" (defArgs mHas) (defBody mHas) (defScope mHas) .none kV40 dc40 pm40 an40 cd40 ct40), sl40⟩) (c40 : PySem.W.codeIn K cd40 "Session.has" = true) (k40 : PySem.W.keepIn K (.ref f40) = true)
    (a41 : PySem.W.findIn K (.ref C) "length" = some (some (.ref f41))) (i41 : PySem.W.isFn K (.ref f41) = true) (l41 : K.lookup f41 = some ⟨oc41, od41, .func (PySem.W.fnOf "length" "Session.length" (defArgs mLen) (defBody mLen) (defScope mLen) .none kV41 dc41 pm41 an41 cd41 ct41), sl41⟩) (c41 : PySem.W.codeIn K cd41 "Session.length" = true) (k41 : PySem.W.keepIn K (.ref f41) = true)
    (a42 : PySem.W.findIn K (.ref C) "ways" = some (some (.ref f42))) (i42 : PySem.W.isFn K (.ref f42) = true) (l42 : K.lookup f42 = some ⟨oc42, od42, .func (PySem.W.fnOf "ways" "Session.ways" (defArgs mWay) (defBody mWay) (defScope mWay) .none kV42 dc42 pm42 an42 cd42 ct42), sl42⟩) (c42 : PySem.W.codeIn K cd42 "Session.ways" = true) (k42 : PySem.W.keepIn K (.ref f42) = true)
    (a43 : PySem.W.findIn K (.ref C) "way" = some (some (.ref f43))) (i43 : PySem.W.isFn K (.ref f43) = true) (l43 : K.lookup f43 = some ⟨oc43, od43, .func (PySem.W.fnOf "way" "Session.way" (defArgs mWm) (defBody mWm) (defScope mWm) .none kV43 dc43 pm43 an43 cd43 ct43), sl43⟩) (c43 : PySem.W.codeIn K cd43 "Session.way" = true) (k43 : PySem.W.keepIn K (.ref f43) = true)
    (a44 : PySem.W.findIn K (.ref C) "loops" = some (some (.ref f44))) (i44 : PySem.W.isFn K (.ref f44) = true) (l44 : K.lookup f44 = some ⟨oc44, od44, .func (PySem.W.fnOf "loops" "Session.loops" (defArgs mLs) (defBody mLs) (defScope mLs) .none kV44 dc44 pm44 an44 cd44 ct44), sl44⟩) (c44 : PySem.W.codeIn K cd44 "Session.loops" = true) (k44 : PySem.W.keepIn K (.ref f44) = true)
    (a45 : PySem.W.findIn K (.ref C) "steps" = some (some (.ref f45))) (i45 : PySem.W.isFn K (.ref f45) = true) (l45 : K.lookup f45 = some ⟨oc45, od45, .func (PySem.W.fnOf "steps" "Session.steps" (defArgs mSt) (defBody mSt) (defScope mSt) .none kV45 dc45 pm45 an45 cd45 ct45), sl45⟩) (c45 : PySem.W.codeIn K cd45 "Session.steps" = true) (k45 : PySem.W.keepIn K (.ref f45) = true)
    (a46 : PySem.W.findIn K (.ref C) "kind" = some (some (.ref f46))) (i46 : PySem.W.isFn K (.ref f46) = true) (l46 : K.lookup f46 = some ⟨oc46, od46, .func (PySem.W.fnOf "kind" "Session.kind" (defArgs mKi) (defBody mKi) (defScope mKi) .none kV46 dc46 pm46 an46 cd46 ct46), sl46⟩) (c46 : PySem.W.codeIn K cd46 "Session.kind" = true) (k46 : PySem.W.keepIn K (.ref f46) = true)
    (a47 : PySem.W.findIn K (.ref C) "power" = some (some (.ref f47))) (i47 : PySem.W.isFn K (.ref f47) = true) (l47 : K.lookup f47 = some ⟨oc47, od47, .func (PySem.W.fnOf "power" "Session.power" (defArgs mPo) (defBody mPo) (defScope mPo) .none kV47 dc47 pm47 an47 cd47 ct47), sl47⟩) (c47 : PySem.W.codeIn K cd47 "Session.power" = true) (k47 : PySem.W.keepIn K (.ref f47) = true)
    (a48 : PySem.W.findIn K (.ref C) "shoe" = some (some (.ref f48))) (i48 : PySem.W.isFn K (.ref f48) = true) (l48 : K.lookup f48 = some ⟨oc48, od48, .func (PySem.W.fnOf "shoe" "Session.shoe" (defArgs mSh) (defBody mSh) (defScope mSh) .none kV48 dc48 pm48 an48 cd48 ct48), sl48⟩) (c48 : PySem.W.codeIn K cd48 "Session.shoe" = true) (k48 : PySem.W.keepIn K (.ref f48) = true)
    (a49 : PySem.W.findIn K (.ref C) "room" = some (some (.ref f49))) (i49 : PySem.W.isFn K (.ref f49) = true) (l49 : K.lookup f49 = some ⟨oc49, od49, .func (PySem.W.fnOf "room" "Session.room" (defArgs mRm) (defBody mRm) (defScope mRm) .none kV49 dc49 pm49 an49 cd49 ct49), sl49⟩) (c49 : PySem.W.codeIn K cd49 "Session.room" = true) (k49 : PySem.W.keepIn K (.ref f49) = true)
    (a50 : PySem.W.findIn K (.ref C) "loop" = some (some (.ref f50))) (i50 : PySem.W.isFn K (.ref f50) = true) (l50 : K.lookup f50 = some ⟨oc50, od50, .func (PySem.W.fnOf "loop" "Session.loop" (defArgs mLo) (defBody mLo) (defScope mLo) .none kV50 dc50 pm50 an50 cd50 ct50), sl50⟩) (c50 : PySem.W.codeIn K cd50 "Session.loop" = true) (k50 : PySem.W.keepIn K (.ref f50) = true)
    (a51 : PySem.W.findIn K (.ref C) "answer" = some (some (.ref f51))) (i51 : PySem.W.isFn K (.ref f51) = true) (l51 : K.lookup f51 = some ⟨oc51, od51, .func (PySem.W.fnOf "answer" "Session.answer" (defArgs mAns) (defBody mAns) (defScope mAns) .none kV51 dc51 pm51 an51 cd51 ct51), sl51⟩) (c51 : PySem.W.codeIn K cd51 "Session.answer" = true) (k51 : PySem.W.keepIn K (.ref f51) = true)
    (a52 : PySem.W.findIn K (.ref C) "answer_on_points" = some (some (.ref f52))) (i52 : PySem.W.isFn K (.ref f52) = true) (l52 : K.lookup f52 = some ⟨oc52, od52, .func (PySem.W.fnOf "answer_on_points" "Session.answer_on_points" (defArgs mOp) (defBody mOp) (defScope mOp) .none kV52 dc52 pm52 an52 cd52 ct52), sl52⟩) (c52 : PySem.W.codeIn K cd52 "Session.answer_on_points" = true) (k52 : PySem.W.keepIn K (.ref f52) = true)
    (a53 : PySem.W.findIn K (.ref C) "answer_on_ways" = some (some (.ref f53))) (i53 : PySem.W.isFn K (.ref f53) = true) (l53 : K.lookup f53 = some ⟨oc53, od53, .func (PySem.W.fnOf "answer_on_ways" "Session.answer_on_ways" (defArgs mOw) (defBody mOw) (defScope mOw) .none kV53 dc53 pm53 an53 cd53 ct53), sl53⟩) (c53 : PySem.W.codeIn K cd53 "Session.answer_on_ways" = true) (k53 : PySem.W.keepIn K (.ref f53) = true)
    (a54 : PySem.W.findIn K (.ref C) "answer_on_growth" = some (some (.ref f54))) (i54 : PySem.W.isFn K (.ref f54) = true) (l54 : K.lookup f54 = some ⟨oc54, od54, .func (PySem.W.fnOf "answer_on_growth" "Session.answer_on_growth" (defArgs mOg) (defBody mOg) (defScope mOg) .none kV54 dc54 pm54 an54 cd54 ct54), sl54⟩) (c54 : PySem.W.codeIn K cd54 "Session.answer_on_growth" = true) (k54 : PySem.W.keepIn K (.ref f54) = true)
    (g_c2 : PySem.W.nsIn K mainGlobals "NO_SUCH" = some (some (.int (-2) t_c2)))
    (g_c11 : PySem.W.nsIn K mainGlobals "NOT_BEGUN" = some (some (.int (-11) t_c11)))
    (g_c22 : PySem.W.nsIn K mainGlobals "NOT_AS_TOLD" = some (some (.int (-22) t_c22)))
    (g_c33 : PySem.W.nsIn K mainGlobals "NONE_THERE" = some (some (.int (-33) t_c33)))
    (g_mp : PySem.W.nsIn K mainGlobals "MOST_PIECES" = some (some (.int (6) t_mp)))
    (g_mr : PySem.W.nsIn K mainGlobals "MOST_ROUND_STEPS" = some (some (.int (6) t_mr)))
    (g_ms : PySem.W.nsIn K mainGlobals "MOST_STEPS" = some (some (.int (30) t_ms)))
    (g_mw : PySem.W.nsIn K mainGlobals "MOST_WAY_STEPS" = some (some (.int (8) t_mw)))
    (g_k0 : PySem.W.nsIn K mainGlobals "DIES_OUT" = some (some (.int (0) t_k0)))
    (g_k1 : PySem.W.nsIn K mainGlobals "GROWS_AS_A_POWER" = some (some (.int (1) t_k1)))
    (g_k2 : PySem.W.nsIn K mainGlobals "IS_DOUBLED" = some (some (.int (2) t_k2)))
    (g_n0 : PySem.W.nsIn K mainGlobals "BEGIN" = some (some (.int (0) t_n0)))
    (g_n1 : PySem.W.nsIn K mainGlobals "SET" = some (some (.int (1) t_n1)))
    (g_n2 : PySem.W.nsIn K mainGlobals "ROW" = some (some (.int (2) t_n2)))
    (g_n3 : PySem.W.nsIn K mainGlobals "TURN" = some (some (.int (3) t_n3)))
    (g_n4 : PySem.W.nsIn K mainGlobals "STATE" = some (some (.int (4) t_n4)))
    (g_n5 : PySem.W.nsIn K mainGlobals "HAS" = some (some (.int (5) t_n5)))
    (g_n6 : PySem.W.nsIn K mainGlobals "LENGTH" = some (some (.int (6) t_n6)))
    (g_n7 : PySem.W.nsIn K mainGlobals "WAYS" = some (some (.int (7) t_n7)))
    (g_n8 : PySem.W.nsIn K mainGlobals "WAY" = some (some (.int (8) t_n8)))
    (g_n9 : PySem.W.nsIn K mainGlobals "LOOPS" = some (some (.int (9) t_n9)))
    (g_n10 : PySem.W.nsIn K mainGlobals "STEPS" = some (some (.int (10) t_n10)))
    (g_n11 : PySem.W.nsIn K mainGlobals "KIND" = some (some (.int (11) t_n11)))
    (g_n12 : PySem.W.nsIn K mainGlobals "POWER" = some (some (.int (12) t_n12)))
    (g_n13 : PySem.W.nsIn K mainGlobals "SHOE" = some (some (.int (13) t_n13)))
    (g_n14 : PySem.W.nsIn K mainGlobals "ROOM" = some (some (.int (14) t_n14)))
    (z_list : PySem.W.nsIn K mainGlobals "list" = some none)
    (z_range : PySem.W.nsIn K mainGlobals "range" = some none)
    (z_len : PySem.W.nsIn K mainGlobals "len" = some none)
    (z_min : PySem.W.nsIn K mainGlobals "min" = some none)
    (z_max : PySem.W.nsIn K mainGlobals "max" = some none)
    (z_enumerate : PySem.W.nsIn K mainGlobals "enumerate" = some none)
    (z_sum : PySem.W.nsIn K mainGlobals "sum" = some none)
    (z_any : PySem.W.nsIn K mainGlobals "any" = some none)
    (z_all : PySem.W.nsIn K mainGlobals "all" = some none)
    (z_reversed : PySem.W.nsIn K mainGlobals "reversed" = some none)
    (gA : PySem.W.nsIn K mainGlobals "ARGUMENT_COUNTS" = some (some (.ref aAC))) (lA : K.lookup aAC = some ⟨.type "tuple", odA, .seq #[.int 1 u0, .int 2 u1, .int 0 u2, .int 0 u3, .int 0 u4, .int 1 u5, .int 1 u6, .int 3 u7, .int 4 u8, .int 1 u9, .int 0 u10, .int 0 u11, .int 0 u12, .int 0 u13, .int 1 u14, .int 1 u15] nA, slA⟩) :
    ∃ fd : FuncData, (∀ (s : Shared) (us : List Value), us.length = (["calls"] : List Str).length → BindsTo s fd ⟨us, []⟩ ((["calls"] : List Str).zip us)) ∧ ∀ base : Heap, K.In base → base.Ns mainGlobals mg → FnOk P w K mg base CX0 16 fa fd ["calls"] (spAll K) := by
  have e := hfa.symm.trans (PySem.W.mg_of X G a31)
  cases e
  have F1 := fun_mk (st := sUnf) l1 c1 k1
  have b1 := F1.binds (ps := ["pieces"]) fun _ _ _ _ _ _ us hl => match us, hl with | [_], _ => rfl
  have D1 : Df K mg "unfolded" sUnf ["pieces"] f1 _ := ⟨F1, b1, PySem.W.mg_of X G a1⟩
  have F2 := fun_mk (st := sTur) l2 c2 k2
  have b2 := F2.binds (ps := ["spots"]) fun _ _ _ _ _ _ us hl => match us, hl with | [_], _ => rfl
  have D2 : Df K mg "turned" sTur ["spots"] f2 _ := ⟨F2, b2, PySem.W.mg_of X G a2⟩
  have F3 := fun_mk (st := sPc) l3 c3 k3
  have b3 := F3.binds (ps := ["spots"]) fun _ _ _ _ _ _ us hl => match us, hl with | [_], _ => rfl
  have D3 : Df K mg "piece_count" sPc ["spots"] f3 _ := ⟨F3, b3, PySem.W.mg_of X G a3⟩
  have F4 := fun_mk (st := sCov) l4 c4 k4
  have b4 := F4.binds (ps := ["spots", "piece"]) fun _ _ _ _ _ _ us hl => match us, hl with | [_, _], _ => rfl
  have D4 : Df K mg "covered" sCov ["spots", "piece"] f4 _ := ⟨F4, b4, PySem.W.mg_of X G a4⟩
  have F5 := fun_mk (st := sOsm) l5 c5 k5
  have b5 := F5.binds (ps := ["spots", "counts"]) fun _ _ _ _ _ _ us hl => match us, hl with | [_, _], _ => rfl
  have D5 : Df K mg "one_step_more" sOsm ["spots", "counts"] f5 _ := ⟨F5, b5, PySem.W.mg_of X G a5⟩
  have F6 := fun_mk (st := sOsa) l6 c6 k6
  have b6 := F6.binds (ps := ["spots", "counts"]) fun _ _ _ _ _ _ us hl => match us, hl with | [_, _], _ => rfl
  have D6 : Df K mg "one_step_ahead" sOsa ["spots", "counts"] f6 _ := ⟨F6, b6, PySem.W.mg_of X G a6⟩
  have F7 := fun_mk (st := sBi) l7 c7 k7
  have b7 := F7.binds (ps := ["spots", "piece"]) fun _ _ _ _ _ _ us hl => match us, hl with | [_, _], _ => rfl
  have D7 : Df K mg "begins_in" sBi ["spots", "piece"] f7 _ := ⟨F7, b7, PySem.W.mg_of X G a7⟩
  have F8 := fun_mk (st := sWe) l8 c8 k8
  have b8 := F8.binds (ps := ["spots", "begins", "steps"]) fun _ _ _ _ _ _ us hl => match us, hl with | [_, _, _], _ => rfl
  have D8 : Df K mg "way_ends" sWe ["spots", "begins", "steps"] f8 _ := ⟨F8, b8, PySem.W.mg_of X G a8⟩
  have F9 := fun_mk (st := sLen) l9 c9 k9
  have b9 := F9.binds (ps := ["spots", "steps"]) fun _ _ _ _ _ _ us hl => match us, hl with | [_, _], _ => rfl
  have D9 : Df K mg "length_of" sLen ["spots", "steps"] f9 _ := ⟨F9, b9, PySem.W.mg_of X G a9⟩
  have F10 := fun_mk (st := sWc) l10 c10 k10
  have b10 := F10.binds (ps := ["spots", "first", "last", "steps"]) fun _ _ _ _ _ _ us hl => match us, hl with | [_, _, _, _], _ => rfl
  have D10 : Df K mg "way_count" sWc ["spots", "first", "last", "steps"] f10 _ := ⟨F10, b10, PySem.W.mg_of X G a10⟩
  have F11 := fun_mk (st := sCo) l11 c11 k11
  have b11 := F11.binds (ps := ["spots", "last", "most"]) fun _ _ _ _ _ _ us hl => match us, hl with | [_, _, _], _ => rfl
  have D11 : Df K mg "counts_onward" sCo ["spots", "last", "most"] f11 _ := ⟨F11, b11, PySem.W.mg_of X G a11⟩
  have F12 := fun_mk (st := sWa) l12 c12 k12
  have b12 := F12.binds (ps := ["spots", "first", "last", "steps", "before"]) fun _ _ _ _ _ _ us hl => match us, hl with | [_, _, _, _, _], _ => rfl
  have D12 : Df K mg "way_at" sWa ["spots", "first", "last", "steps", "before"] f12 _ := ⟨F12, b12, PySem.W.mg_of X G a12⟩
  have F13 := fun_mk (st := sLb) l13 c13 k13
  have b13 := F13.binds (ps := ["spots", "most"]) fun _ _ _ _ _ _ us hl => match us, hl with | [_, _], _ => rfl
  have D13 : Df K mg "loops_by_piece" sLb ["spots", "most"] f13 _ := ⟨F13, b13, PySem.W.mg_of X G a13⟩
  have F14 := fun_mk (st := sLc) l14 c14 k14
  have b14 := F14.binds (ps := ["spots", "steps"]) fun _ _ _ _ _ _ us hl => match us, hl with | [_, _], _ => rfl
  have D14 : Df K mg "loop_count" sLc ["spots", "steps"] f14 _ := ⟨F14, b14, PySem.W.mg_of X G a14⟩
  have F15 := fun_mk (st := sSl) l15 c15 k15
  have b15 := F15.binds (ps := ["spots", "most"]) fun _ _ _ _ _ _ us hl => match us, hl with | [_, _], _ => rfl
  have D15 : Df K mg "steps_of_loops" sSl ["spots", "most"] f15 _ := ⟨F15, b15, PySem.W.mg_of X G a15⟩
  have F16 := fun_mk (st := sWl) l16 c16 k16
  have b16 := F16.binds (ps := ["spots", "steps"]) fun _ _ _ _ _ _ us hl => match us, hl with | [_, _], _ => rfl
  have D16 : Df K mg "whole_loop_count" sWl ["spots", "steps"] f16 _ := ⟨F16, b16, PySem.W.mg_of X G a16⟩
  have F17 := fun_mk (st := sCb) l17 c17 k17
  have b17 := F17.binds (ps := ["spots", "start", "steps"]) fun _ _ _ _ _ _ us hl => match us, hl with | [_, _, _], _ => rfl
  have D17 : Df K mg "comes_back" sCb ["spots", "start", "steps"] f17 _ := ⟨F17, b17, PySem.W.mg_of X G a17⟩
  have F18 := fun_mk (st := sHr) l18 c18 k18
  have b18 := F18.binds (ps := ["spots", "steps"]) fun _ _ _ _ _ _ us hl => match us, hl with | [_, _], _ => rfl
  have D18 : Df K mg "has_round" sHr ["spots", "steps"] f18 _ := ⟨F18, b18, PySem.W.mg_of X G a18⟩
  have F19 := fun_mk (st := sRe) l19 c19 k19
  have b19 := F19.binds (ps := ["spots", "start"]) fun _ _ _ _ _ _ us hl => match us, hl with | [_, _], _ => rfl
  have D19 : Df K mg "reached" sRe ["spots", "start"] f19 _ := ⟨F19, b19, PySem.W.mg_of X G a19⟩
  have F20 := fun_mk (st := sOl) l20 c20 k20
  have b20 := F20.binds (ps := ["spots", "piece"]) fun _ _ _ _ _ _ us hl => match us, hl with | [_, _], _ => rfl
  have D20 : Df K mg "is_on_loop" sOl ["spots", "piece"] f20 _ := ⟨F20, b20, PySem.W.mg_of X G a20⟩
  have F21 := fun_mk (st := sRo) l21 c21 k21
  have b21 := F21.binds (ps := ["spots", "piece"]) fun _ _ _ _ _ _ us hl => match us, hl with | [_, _], _ => rfl
  have D21 : Df K mg "room_of" sRo ["spots", "piece"] f21 _ := ⟨F21, b21, PySem.W.mg_of X G a21⟩
  have F22 := fun_mk (st := sC2) l22 c22 k22
  have b22 := F22.binds (ps := ["spots", "piece"]) fun _ _ _ _ _ _ us hl => match us, hl with | [_, _], _ => rfl
  have D22 : Df K mg "covers_two_of_its_room" sC2 ["spots", "piece"] f22 _ := ⟨F22, b22, PySem.W.mg_of X G a22⟩
  have F23 := fun_mk (st := sKi) l23 c23 k23
  have b23 := F23.binds (ps := ["spots"]) fun _ _ _ _ _ _ us hl => match us, hl with | [_], _ => rfl
  have D23 : Df K mg "kind_of" sKi ["spots"] f23 _ := ⟨F23, b23, PySem.W.mg_of X G a23⟩
  have F24 := fun_mk (st := sRl) l24 c24 k24
  have b24 := F24.binds (ps := ["spots"]) fun _ _ _ _ _ _ us hl => match us, hl with | [_], _ => rfl
  have D24 : Df K mg "rooms_with_loops" sRl ["spots"] f24 _ := ⟨F24, b24, PySem.W.mg_of X G a24⟩
  have F25 := fun_mk (st := sMr) l25 c25 k25
  have b25 := F25.binds (ps := ["spots", "rooms", "room"]) fun _ _ _ _ _ _ us hl => match us, hl with | [_, _, _], _ => rfl
  have D25 : Df K mg "most_rooms_passed" sMr ["spots", "rooms", "room"] f25 _ := ⟨F25, b25, PySem.W.mg_of X G a25⟩
  have F26 := fun_mk (st := sPo) l26 c26 k26
  have b26 := F26.binds (ps := ["spots"]) fun _ _ _ _ _ _ us hl => match us, hl with | [_], _ => rfl
  have D26 : Df K mg "power_of" sPo ["spots"] f26 _ := ⟨F26, b26, PySem.W.mg_of X G a26⟩
  have F27 := fun_mk (st := sFl) l27 c27 k27
  have b27 := F27.binds (ps := ["spots", "piece"]) fun _ _ _ _ _ _ us hl => match us, hl with | [_, _], _ => rfl
  have D27 : Df K mg "first_loop" sFl ["spots", "piece"] f27 _ := ⟨F27, b27, PySem.W.mg_of X G a27⟩
  have F28 := fun_mk (st := sSh) l28 c28 k28
  have b28 := F28.binds (ps := ["spots"]) fun _ _ _ _ _ _ us hl => match us, hl with | [_], _ => rfl
  have D28 : Df K mg "shoe_of" sSh ["spots"] f28 _ := ⟨F28, b28, PySem.W.mg_of X G a28⟩
  have F29 := fun_mk (st := sFa) l29 c29 k29
  have b29 := F29.binds (ps := ["calls", "start"]) fun _ _ _ _ _ _ us hl => match us, hl with | [_, _], _ => rfl
  have D29 : Df K mg "first_argument" sFa ["calls", "start"] f29 _ := ⟨F29, b29, PySem.W.mg_of X G a29⟩
  have F30 := fun_mk (st := sAc) l30 c30 k30
  have b30 := F30.binds (ps := ["calls", "start"]) fun _ _ _ _ _ _ us hl => match us, hl with | [_, _], _ => rfl
  have D30 : Df K mg "argument_count" sAc ["calls", "start"] f30 _ := ⟨F30, b30, PySem.W.mg_of X G a30⟩
  have F31 := fun_mk (st := sAns) l31 c31 k31
  have F32 := fun_mk (st := mInit) l32 c32 k32
  have b32 := F32.binds (ps := ["self"]) fun _ _ _ _ _ _ us hl => match us, hl with | [_], _ => rfl
  have M32 : Mt K C "__init__" "Session.__init__" mInit ["self"] f32 _ := ⟨F32, b32, ⟨a32, i32, k32⟩⟩
  have F33 := fun_mk (st := mIsPt) l33 c33 k33
  have b33 := F33.binds (ps := ["self", "point"]) fun _ _ _ _ _ _ us hl => match us, hl with | [_, _], _ => rfl
  have M33 : Mt K C "is_point" "Session.is_point" mIsPt ["self", "point"] f33 _ := ⟨F33, b33, ⟨a33, i33, k33⟩⟩
  have F34 := fun_mk (st := mIsPc) l34 c34 k34
  have b34 := F34.binds (ps := ["self", "piece"]) fun _ _ _ _ _ _ us hl => match us, hl with | [_, _], _ => rfl
  have M34 : Mt K C "is_piece" "Session.is_piece" mIsPc ["self", "piece"] f34 _ := ⟨F34, b34, ⟨a34, i34, k34⟩⟩
  have F35 := fun_mk (st := mBeg) l35 c35 k35
  have b35 := F35.binds (ps := ["self", "pieces"]) fun _ _ _ _ _ _ us hl => match us, hl with | [_, _], _ => rfl
  have M35 : Mt K C "begin" "Session.begin" mBeg ["self", "pieces"] f35 _ := ⟨F35, b35, ⟨a35, i35, k35⟩⟩
  have F36 := fun_mk (st := mPut) l36 c36 k36
  have b36 := F36.binds (ps := ["self", "point", "spot"]) fun _ _ _ _ _ _ us hl => match us, hl with | [_, _, _], _ => rfl
  have M36 : Mt K C "put_point" "Session.put_point" mPut ["self", "point", "spot"] f36 _ := ⟨F36, b36, ⟨a36, i36, k36⟩⟩
  have F37 := fun_mk (st := mRow) l37 c37 k37
  have b37 := F37.binds (ps := ["self", "points"]) fun _ _ _ _ _ _ us hl => match us, hl with | [_, _], _ => rfl
  have M37 : Mt K C "put_row" "Session.put_row" mRow ["self", "points"] f37 _ := ⟨F37, b37, ⟨a37, i37, k37⟩⟩
  have F38 := fun_mk (st := mTur) l38 c38 k38
  have b38 := F38.binds (ps := ["self"]) fun _ _ _ _ _ _ us hl => match us, hl with | [_], _ => rfl
  have M38 : Mt K C "turn" "Session.turn" mTur ["self"] f38 _ := ⟨F38, b38, ⟨a38, i38, k38⟩⟩
  have F39 := fun_mk (st := mSta) l39 c39 k39
  have b39 := F39.binds (ps := ["self"]) fun _ _ _ _ _ _ us hl => match us, hl with | [_], _ => rfl
  have M39 : Mt K C "state" "Session.state" mSta ["self"] f39 _ := ⟨F39, b39, ⟨a39, i39, k39⟩⟩
  have F40 := fun_mk (st := mHas) l40 c40 k40
  have b40 := F40.binds (ps := ["self", "steps"]) fun _ _ _ _ _ _ us hl => match us, hl with | [_, _], _ => rfl
  have M40 : Mt K C "has" "Session.has" mHas ["self", "steps"] f40 _ := ⟨F40, b40, ⟨a40, i40, k40⟩⟩
  have F41 := fun_mk (st := mLen) l41 c41 k41
  have b41 := F41.binds (ps := ["self", "steps"]) fun _ _ _ _ _ _ us hl => match us, hl with | [_, _], _ => rfl
  have M41 : Mt K C "length" "Session.length" mLen ["self", "steps"] f41 _ := ⟨F41, b41, ⟨a41, i41, k41⟩⟩
  have F42 := fun_mk (st := mWay) l42 c42 k42
  have b42 := F42.binds (ps := ["self", "first", "last", "steps"]) fun _ _ _ _ _ _ us hl => match us, hl with | [_, _, _, _], _ => rfl
  have M42 : Mt K C "ways" "Session.ways" mWay ["self", "first", "last", "steps"] f42 _ := ⟨F42, b42, ⟨a42, i42, k42⟩⟩
  have F43 := fun_mk (st := mWm) l43 c43 k43
  have b43 := F43.binds (ps := ["self", "first", "last", "steps", "before"]) fun _ _ _ _ _ _ us hl => match us, hl with | [_, _, _, _, _], _ => rfl
  have M43 : Mt K C "way" "Session.way" mWm ["self", "first", "last", "steps", "before"] f43 _ := ⟨F43, b43, ⟨a43, i43, k43⟩⟩
  have F44 := fun_mk (st := mLs) l44 c44 k44
  have b44 := F44.binds (ps := ["self", "steps"]) fun _ _ _ _ _ _ us hl => match us, hl with | [_, _], _ => rfl
  have M44 : Mt K C "loops" "Session.loops" mLs ["self", "steps"] f44 _ := ⟨F44, b44, ⟨a44, i44, k44⟩⟩
  have F45 := fun_mk (st := mSt) l45 c45 k45
  have b45 := F45.binds (ps := ["self"]) fun _ _ _ _ _ _ us hl => match us, hl with | [_], _ => rfl
  have M45 : Mt K C "steps" "Session.steps" mSt ["self"] f45 _ := ⟨F45, b45, ⟨a45, i45, k45⟩⟩
  have F46 := fun_mk (st := mKi) l46 c46 k46
  have b46 := F46.binds (ps := ["self"]) fun _ _ _ _ _ _ us hl => match us, hl with | [_], _ => rfl
  have M46 : Mt K C "kind" "Session.kind" mKi ["self"] f46 _ := ⟨F46, b46, ⟨a46, i46, k46⟩⟩
  have F47 := fun_mk (st := mPo) l47 c47 k47
  have b47 := F47.binds (ps := ["self"]) fun _ _ _ _ _ _ us hl => match us, hl with | [_], _ => rfl
  have M47 : Mt K C "power" "Session.power" mPo ["self"] f47 _ := ⟨F47, b47, ⟨a47, i47, k47⟩⟩
  have F48 := fun_mk (st := mSh) l48 c48 k48
  have b48 := F48.binds (ps := ["self"]) fun _ _ _ _ _ _ us hl => match us, hl with | [_], _ => rfl
  have M48 : Mt K C "shoe" "Session.shoe" mSh ["self"] f48 _ := ⟨F48, b48, ⟨a48, i48, k48⟩⟩
  have F49 := fun_mk (st := mRm) l49 c49 k49
  have b49 := F49.binds (ps := ["self", "piece"]) fun _ _ _ _ _ _ us hl => match us, hl with | [_, _], _ => rfl
  have M49 : Mt K C "room" "Session.room" mRm ["self", "piece"] f49 _ := ⟨F49, b49, ⟨a49, i49, k49⟩⟩
  have F50 := fun_mk (st := mLo) l50 c50 k50
  have b50 := F50.binds (ps := ["self", "piece"]) fun _ _ _ _ _ _ us hl => match us, hl with | [_, _], _ => rfl
  have M50 : Mt K C "loop" "Session.loop" mLo ["self", "piece"] f50 _ := ⟨F50, b50, ⟨a50, i50, k50⟩⟩
  have F51 := fun_mk (st := mAns) l51 c51 k51
  have b51 := F51.binds (ps := ["self", "number", "arguments"]) fun _ _ _ _ _ _ us hl => match us, hl with | [_, _, _], _ => rfl
  have M51 : Mt K C "answer" "Session.answer" mAns ["self", "number", "arguments"] f51 _ := ⟨F51, b51, ⟨a51, i51, k51⟩⟩
  have F52 := fun_mk (st := mOp) l52 c52 k52
  have b52 := F52.binds (ps := ["self", "number", "arguments"]) fun _ _ _ _ _ _ us hl => match us, hl with | [_, _, _], _ => rfl
  have M52 : Mt K C "answer_on_points" "Session.answer_on_points" mOp ["self", "number", "arguments"] f52 _ := ⟨F52, b52, ⟨a52, i52, k52⟩⟩
  have F53 := fun_mk (st := mOw) l53 c53 k53
  have b53 := F53.binds (ps := ["self", "number", "arguments"]) fun _ _ _ _ _ _ us hl => match us, hl with | [_, _, _], _ => rfl
  have M53 : Mt K C "answer_on_ways" "Session.answer_on_ways" mOw ["self", "number", "arguments"] f53 _ := ⟨F53, b53, ⟨a53, i53, k53⟩⟩
  have F54 := fun_mk (st := mOg) l54 c54 k54
  have b54 := F54.binds (ps := ["self", "number", "arguments"]) fun _ _ _ _ _ _ us hl => match us, hl with | [_, _, _], _ => rfl
  have M54 : Mt K C "answer_on_growth" "Session.answer_on_growth" mOg ["self", "number", "arguments"] f54 _ := ⟨F54, b54, ⟨a54, i54, k54⟩⟩
  have B : Bi mg := ⟨PySem.W.mg_none_of X G z_list, PySem.W.mg_none_of X G z_range, PySem.W.mg_none_of X G z_len, PySem.W.mg_none_of X G z_min, PySem.W.mg_none_of X G z_max, PySem.W.mg_none_of X G z_enumerate, PySem.W.mg_none_of X G z_sum, PySem.W.mg_none_of X G z_any, PySem.W.mg_none_of X G z_all, PySem.W.mg_none_of X G z_reversed⟩
  have T : Tx K mg C := ⟨⟨pg, hd, po, sa⟩, nS, ⟨_, PySem.W.mg_of X G g_c2⟩, ⟨_, PySem.W.mg_of X G g_c11⟩, ⟨_, PySem.W.mg_of X G g_c22⟩, ⟨_, PySem.W.mg_of X G g_mp⟩, ⟨_, PySem.W.mg_of X G g_mr⟩, ⟨_, PySem.W.mg_of X G g_ms⟩⟩
  have TM : Tm K mg := ⟨⟨_, PySem.W.mg_of X G g_n2⟩, aAC, PySem.W.mg_of X G gA, fun H => .inr ⟨_, _, _, lA, rfl, rfl, by show 16 ≤ 2 ^ 24; decide, .cons ⟨_, rfl⟩ (.cons ⟨_, rfl⟩ (.cons ⟨_, rfl⟩ (.cons ⟨_, rfl⟩ (.cons ⟨_, rfl⟩ (.cons ⟨_, rfl⟩ (.cons ⟨_, rfl⟩ (.cons ⟨_, rfl⟩ (.cons ⟨_, rfl⟩ (.cons ⟨_, rfl⟩ (.cons ⟨_, rfl⟩ (.cons ⟨_, rfl⟩ (.cons ⟨_, rfl⟩ (.cons ⟨_, rfl⟩ (.cons ⟨_, rfl⟩ (.cons ⟨_, rfl⟩ (.nil))))))))))))))))⟩⟩
  have L : Ln K mg := ⟨f5, _, D5, f4, _, D4, f8, _, D8, f3, _, D3, f10, _, D10, f14, _, D14, f16, _, D16, f17, _, D17, f6, _, D6, f7, _, D7, f11, _, D11, f12, _, D12, f13, _, D13, f19, _, D19, f20, _, D20, f21, _, D21, f22, _, D22, f24, _, D24, f25, _, D25, B⟩
  have LD : Ld K mg := ⟨f1, _, D1, f2, _, D2, f18, _, D18, f9, _, D9, f15, _, D15, f23, _, D23, f26, _, D26, f27, _, D27, f28, _, D28⟩
  have MS : Ms K C := ⟨f33, _, M33, f34, _, M34, f35, _, M35, f36, _, M36, f37, _, M37, f38, _, M38, f39, _, M39, f40, _, M40, f41, _, M41, f42, _, M42, f43, _, M43, f44, _, M44, f45, _, M45, f46, _, M46, f47, _, M47, f48, _, M48, f49, _, M49, f50, _, M50, f52, _, M52, f53, _, M53, f54, _, M54⟩
  have N : Kn mg := ⟨⟨_, PySem.W.mg_of X G g_k0⟩, ⟨_, PySem.W.mg_of X G g_k1⟩, ⟨_, PySem.W.mg_of X G g_k2⟩⟩
  have TC : Tc mg := ⟨⟨_, PySem.W.mg_of X G g_c33⟩, ⟨_, PySem.W.mg_of X G g_mw⟩, ⟨_, PySem.W.mg_of X G g_n0⟩, ⟨_, PySem.W.mg_of X G g_n1⟩, ⟨_, PySem.W.mg_of X G g_n2⟩, ⟨_, PySem.W.mg_of X G g_n3⟩, ⟨_, PySem.W.mg_of X G g_n4⟩, ⟨_, PySem.W.mg_of X G g_n5⟩, ⟨_, PySem.W.mg_of X G g_n6⟩, ⟨_, PySem.W.mg_of X G g_n7⟩, ⟨_, PySem.W.mg_of X G g_n8⟩, ⟨_, PySem.W.mg_of X G g_n9⟩, ⟨_, PySem.W.mg_of X G g_n10⟩, ⟨_, PySem.W.mg_of X G g_n11⟩, ⟨_, PySem.W.mg_of X G g_n12⟩, ⟨_, PySem.W.mg_of X G g_n13⟩, ⟨_, PySem.W.mg_of X G g_n14⟩⟩
  refine ⟨PySem.W.fnOf "answers" "answers" (defArgs sAns) (defBody sAns) (defScope sAns) .none kV31 dc31 pm31 an31 cd31 ct31, fun s us hu => match us, hu with | [_], _ => .of_eq rfl, fun base _ _ => ?_⟩
  exact ok_all (k := 13) F31 T TM B ⟨mk, a32, i32, kc⟩ F32 b32 (PySem.W.mg_of X G aC) D29 D30 M51 (ok_an F51 T TC L N LD MS)
end FG
open PyProof.Rows PySem PySem.W
set_option maxRecDepth 110000 in
set_option maxHeartbeats 8100000 in
theorem PySem.Challenge.cw_foldgrowth_s01_answers_holds : PySem.Challenge.rw_foldgrowth_s01_answers.Holds := by
  w_on; k_headS; (case hw => exact ⟨[.list [.int 4]], by decide +kernel, by decide +kernel⟩)
  k_fillS
  refine L2.walk_specK (r := PySem.Challenge.rw_foldgrowth_s01_answers) (k := 16) (CX := L2.CX0) (ps := ["calls"]) (sp := FG.spAll) (by decide +kernel) rfl rfl ⟨rfl, by decide, by decide⟩ (fun w h Y => PySem.W.kIn_of Y) ?F ?S (fun _ _ _ _ z => z)
  case F =>
    intro w mg fa h Y KX G hmg
    refine' FG.all_mk KX G hmg ?a1 ?l1 ?c1 ?k1 ?a2 ?l2 ?c2 ?k2 ?a3 ?l3 ?c3 ?k3 ?a4 ?l4 ?c4 ?k4 ?a5 ?l5 ?c5 ?k5 ?a6 ?l6 ?c6 ?k6 ?a7 ?l7 ?c7 ?k7 ?a8 ?l8 ?c8 ?k8 ?a9 ?l9 ?c9 ?k9 ?a10 ?l10 ?c10 ?k10 ?a11 ?l11 ?c11 ?k11 ?a12 ?l12 ?c12 ?k12 ?a13 ?l13 ?c13 ?k13 ?a14 ?l14 ?c14 ?k14 ?a15 ?l15 ?c15 ?k15 ?a16 ?l16 ?c16 ?k16 ?a17 ?l17 ?c17 ?k17 ?a18 ?l18 ?c18 ?k18 ?a19 ?l19 ?c19 ?k19 ?a20 ?l20 ?c20 ?k20 ?a21 ?l21 ?c21 ?k21 ?a22 ?l22 ?c22 ?k22 ?a23 ?l23 ?c23 ?k23 ?a24 ?l24 ?c24 ?k24 ?a25 ?l25 ?c25 ?k25 ?a26 ?l26 ?c26 ?k26 ?a27 ?l27 ?c27 ?k27 ?a28 ?l28 ?c28 ?k28 ?a29 ?l29 ?c29 ?k29 ?a30 ?l30 ?c30 ?k30 ?a31 ?l31 ?c31 ?k31 ?aC ?pg ?hd ?po ?sa ?mk ?kc ?nS ?a32 ?i32 ?l32 ?c32 ?k32 ?a33 ?i33 ?l33 ?c33 ?k33 ?a34 ?i34 ?l34 ?c34 ?k34 ?a35 ?i35 ?l35 ?c35 ?k35 ?a36 ?i36 ?l36 ?c36 ?k36 ?a37 ?i37 ?l37 ?c37 ?k37 ?a38 ?i38 ?l38 ?c38 ?k38 ?a39 ?i39 ?l39 ?c39 ?k39 ?a40 ?i40 ?l40 ?c40 ?k40 ?a41 ?i41 ?l41 ?c41 ?k41 ?a42 ?i42 ?l42 ?c42 ?k42 ?a43 ?i43 ?l43 ?c43 ?k43 ?a44 ?i44 ?l44 ?c44 ?k44 ?a45 ?i45 ?l45 ?c45 ?k45 ?a46 ?i46 ?l46 ?c46 ?k46 ?a47 ?i47 ?l47 ?c47 ?k47 ?a48 ?i48 ?l48 ?c48 ?k48 ?a49 ?i49 ?l49 ?c49 ?k49 ?a50 ?i50 ?l50 ?c50 ?k50 ?a51 ?i51 ?l51 ?c51 ?k51 ?a52 ?i52 ?l52 ?c52 ?k52 ?a53 ?i53 ?l53 ?c53 ?k53 ?a54 ?i54 ?l54 ?c54 ?k54 ?g_c2 ?g_c11 ?g_c22 ?g_c33 ?g_mp ?g_mr ?g_ms ?g_mw ?g_k0 ?g_k1 ?g_k2 ?g_n0 ?g_n1 ?g_n2 ?g_n3 ?g_n4 ?g_n5 ?g_n6 ?g_n7 ?g_n8 ?g_n9 ?g_n10 ?g_n11 ?g_n12 ?g_n13 ?g_n14 ?z_list ?z_range ?z_len ?z_min ?z_max ?z_enumerate ?z_sum ?z_any ?z_all ?z_reversed ?gA ?lA
    (case a1 => first | k_is | rfl)
    (case l1 => first | k_is | rfl)
    (case c1 => first | k_is | rfl)
    (case k1 => first | k_is | rfl)
    (case a2 => first | k_is | rfl)
    (case l2 => first | k_is | rfl)
    (case c2 => first | k_is | rfl)
    (case k2 => first | k_is | rfl)
    (case a3 => first | k_is | rfl)
    (case l3 => first | k_is | rfl)
    (case c3 => first | k_is | rfl)
    (case k3 => first | k_is | rfl)
    (case a4 => first | k_is | rfl)
    (case l4 => first | k_is | rfl)
    (case c4 => first | k_is | rfl)
    (case k4 => first | k_is | rfl)
    (case a5 => first | k_is | rfl)
    (case l5 => first | k_is | rfl)
    (case c5 => first | k_is | rfl)
    (case k5 => first | k_is | rfl)
    (case a6 => first | k_is | rfl)
    (case l6 => first | k_is | rfl)
    (case c6 => first | k_is | rfl)
    (case k6 => first | k_is | rfl)
    (case a7 => first | k_is | rfl)
    (case l7 => first | k_is | rfl)
    (case c7 => first | k_is | rfl)
    (case k7 => first | k_is | rfl)
    (case a8 => first | k_is | rfl)
    (case l8 => first | k_is | rfl)
    (case c8 => first | k_is | rfl)
    (case k8 => first | k_is | rfl)
    (case a9 => first | k_is | rfl)
    (case l9 => first | k_is | rfl)
    (case c9 => first | k_is | rfl)
    (case k9 => first | k_is | rfl)
    (case a10 => first | k_is | rfl)
    (case l10 => first | k_is | rfl)
    (case c10 => first | k_is | rfl)
    (case k10 => first | k_is | rfl)
    (case a11 => first | k_is | rfl)
    (case l11 => first | k_is | rfl)
    (case c11 => first | k_is | rfl)
    (case k11 => first | k_is | rfl)
    (case a12 => first | k_is | rfl)
    (case l12 => first | k_is | rfl)
    (case c12 => first | k_is | rfl)
    (case k12 => first | k_is | rfl)
    (case a13 => first | k_is | rfl)
    (case l13 => first | k_is | rfl)
    (case c13 => first | k_is | rfl)
    (case k13 => first | k_is | rfl)
    (case a14 => first | k_is | rfl)
    (case l14 => first | k_is | rfl)
    (case c14 => first | k_is | rfl)
    (case k14 => first | k_is | rfl)
    (case a15 => first | k_is | rfl)
    (case l15 => first | k_is | rfl)
    (case c15 => first | k_is | rfl)
    (case k15 => first | k_is | rfl)
    (case a16 => first | k_is | rfl)
    (case l16 => first | k_is | rfl)
    (case c16 => first | k_is | rfl)
    (case k16 => first | k_is | rfl)
    (case a17 => first | k_is | rfl)
    (case l17 => first | k_is | rfl)
    (case c17 => first | k_is | rfl)
    (case k17 => first | k_is | rfl)
    (case a18 => first | k_is | rfl)
    (case l18 => first | k_is | rfl)
    (case c18 => first | k_is | rfl)
    (case k18 => first | k_is | rfl)
    (case a19 => first | k_is | rfl)
    (case l19 => first | k_is | rfl)
    (case c19 => first | k_is | rfl)
    (case k19 => first | k_is | rfl)
    (case a20 => first | k_is | rfl)
    (case l20 => first | k_is | rfl)
    (case c20 => first | k_is | rfl)
    (case k20 => first | k_is | rfl)
    (case a21 => first | k_is | rfl)
    (case l21 => first | k_is | rfl)
    (case c21 => first | k_is | rfl)
    (case k21 => first | k_is | rfl)
    (case a22 => first | k_is | rfl)
    (case l22 => first | k_is | rfl)
    (case c22 => first | k_is | rfl)
    (case k22 => first | k_is | rfl)
    (case a23 => first | k_is | rfl)
    (case l23 => first | k_is | rfl)
    (case c23 => first | k_is | rfl)
    (case k23 => first | k_is | rfl)
    (case a24 => first | k_is | rfl)
    (case l24 => first | k_is | rfl)
    (case c24 => first | k_is | rfl)
    (case k24 => first | k_is | rfl)
    (case a25 => first | k_is | rfl)
    (case l25 => first | k_is | rfl)
    (case c25 => first | k_is | rfl)
    (case k25 => first | k_is | rfl)
    (case a26 => first | k_is | rfl)
    (case l26 => first | k_is | rfl)
    (case c26 => first | k_is | rfl)
    (case k26 => first | k_is | rfl)
    (case a27 => first | k_is | rfl)
    (case l27 => first | k_is | rfl)
    (case c27 => first | k_is | rfl)
    (case k27 => first | k_is | rfl)
    (case a28 => first | k_is | rfl)
    (case l28 => first | k_is | rfl)
    (case c28 => first | k_is | rfl)
    (case k28 => first | k_is | rfl)
    (case a29 => first | k_is | rfl)
    (case l29 => first | k_is | rfl)
    (case c29 => first | k_is | rfl)
    (case k29 => first | k_is | rfl)
    (case a30 => first | k_is | rfl)
    (case l30 => first | k_is | rfl)
    (case c30 => first | k_is | rfl)
    (case k30 => first | k_is | rfl)
    (case a31 => first | k_is | rfl)
    (case l31 => first | k_is | rfl)
    (case c31 => first | k_is | rfl)
    (case k31 => first | k_is | rfl)
    (case aC => first | k_is | rfl)
    (case pg => first | k_is | rfl)
    (case hd => first | k_is | rfl)
    (case po => first | k_is | rfl)
    (case sa => first | k_is | rfl)
    (case mk => first | k_is | rfl)
    (case kc => first | k_is | rfl)
    (case nS => first | k_is | rfl)
    (case a32 => first | k_is | rfl)
    (case i32 => first | k_is | rfl)
    (case l32 => first | k_is | rfl)
    (case c32 => first | k_is | rfl)
    (case k32 => first | k_is | rfl)
    (case a33 => first | k_is | rfl)
    (case i33 => first | k_is | rfl)
    (case l33 => first | k_is | rfl)
    (case c33 => first | k_is | rfl)
    (case k33 => first | k_is | rfl)
    (case a34 => first | k_is | rfl)
    (case i34 => first | k_is | rfl)
    (case l34 => first | k_is | rfl)
    (case c34 => first | k_is | rfl)
    (case k34 => first | k_is | rfl)
    (case a35 => first | k_is | rfl)
    (case i35 => first | k_is | rfl)
    (case l35 => first | k_is | rfl)
    (case c35 => first | k_is | rfl)
    (case k35 => first | k_is | rfl)
    (case a36 => first | k_is | rfl)
    (case i36 => first | k_is | rfl)
    (case l36 => first | k_is | rfl)
    (case c36 => first | k_is | rfl)
    (case k36 => first | k_is | rfl)
    (case a37 => first | k_is | rfl)
    (case i37 => first | k_is | rfl)
    (case l37 => first | k_is | rfl)
    (case c37 => first | k_is | rfl)
    (case k37 => first | k_is | rfl)
    (case a38 => first | k_is | rfl)
    (case i38 => first | k_is | rfl)
    (case l38 => first | k_is | rfl)
    (case c38 => first | k_is | rfl)
    (case k38 => first | k_is | rfl)
    (case a39 => first | k_is | rfl)
    (case i39 => first | k_is | rfl)
    (case l39 => first | k_is | rfl)
    (case c39 => first | k_is | rfl)
    (case k39 => first | k_is | rfl)
    (case a40 => first | k_is | rfl)
    (case i40 => first | k_is | rfl)
    (case l40 => first | k_is | rfl)
    (case c40 => first | k_is | rfl)
    (case k40 => first | k_is | rfl)
    (case a41 => first | k_is | rfl)
    (case i41 => first | k_is | rfl)
    (case l41 => first | k_is | rfl)
    (case c41 => first | k_is | rfl)
    (case k41 => first | k_is | rfl)
    (case a42 => first | k_is | rfl)
    (case i42 => first | k_is | rfl)
    (case l42 => first | k_is | rfl)
    (case c42 => first | k_is | rfl)
    (case k42 => first | k_is | rfl)
    (case a43 => first | k_is | rfl)
    (case i43 => first | k_is | rfl)
    (case l43 => first | k_is | rfl)
    (case c43 => first | k_is | rfl)
    (case k43 => first | k_is | rfl)
    (case a44 => first | k_is | rfl)
    (case i44 => first | k_is | rfl)
    (case l44 => first | k_is | rfl)
    (case c44 => first | k_is | rfl)
    (case k44 => first | k_is | rfl)
    (case a45 => first | k_is | rfl)
    (case i45 => first | k_is | rfl)
    (case l45 => first | k_is | rfl)
    (case c45 => first | k_is | rfl)
    (case k45 => first | k_is | rfl)
    (case a46 => first | k_is | rfl)
    (case i46 => first | k_is | rfl)
    (case l46 => first | k_is | rfl)
    (case c46 => first | k_is | rfl)
    (case k46 => first | k_is | rfl)
    (case a47 => first | k_is | rfl)
    (case i47 => first | k_is | rfl)
    (case l47 => first | k_is | rfl)
    (case c47 => first | k_is | rfl)
    (case k47 => first | k_is | rfl)
    (case a48 => first | k_is | rfl)
    (case i48 => first | k_is | rfl)
    (case l48 => first | k_is | rfl)
    (case c48 => first | k_is | rfl)
    (case k48 => first | k_is | rfl)
    (case a49 => first | k_is | rfl)
    (case i49 => first | k_is | rfl)
    (case l49 => first | k_is | rfl)
    (case c49 => first | k_is | rfl)
    (case k49 => first | k_is | rfl)
    (case a50 => first | k_is | rfl)
    (case i50 => first | k_is | rfl)
    (case l50 => first | k_is | rfl)
    (case c50 => first | k_is | rfl)
    (case k50 => first | k_is | rfl)
    (case a51 => first | k_is | rfl)
    (case i51 => first | k_is | rfl)
    (case l51 => first | k_is | rfl)
    (case c51 => first | k_is | rfl)
    (case k51 => first | k_is | rfl)
    (case a52 => first | k_is | rfl)
    (case i52 => first | k_is | rfl)
    (case l52 => first | k_is | rfl)
    (case c52 => first | k_is | rfl)
    (case k52 => first | k_is | rfl)
    (case a53 => first | k_is | rfl)
    (case i53 => first | k_is | rfl)
    (case l53 => first | k_is | rfl)
    (case c53 => first | k_is | rfl)
    (case k53 => first | k_is | rfl)
    (case a54 => first | k_is | rfl)
    (case i54 => first | k_is | rfl)
    (case l54 => first | k_is | rfl)
    (case c54 => first | k_is | rfl)
    (case k54 => first | k_is | rfl)
    (case g_c2 => first | k_is | rfl)
    (case g_c11 => first | k_is | rfl)
    (case g_c22 => first | k_is | rfl)
    (case g_c33 => first | k_is | rfl)
    (case g_mp => first | k_is | rfl)
    (case g_mr => first | k_is | rfl)
    (case g_ms => first | k_is | rfl)
    (case g_mw => first | k_is | rfl)
    (case g_k0 => first | k_is | rfl)
    (case g_k1 => first | k_is | rfl)
    (case g_k2 => first | k_is | rfl)
    (case g_n0 => first | k_is | rfl)
    (case g_n1 => first | k_is | rfl)
    (case g_n2 => first | k_is | rfl)
    (case g_n3 => first | k_is | rfl)
    (case g_n4 => first | k_is | rfl)
    (case g_n5 => first | k_is | rfl)
    (case g_n6 => first | k_is | rfl)
    (case g_n7 => first | k_is | rfl)
    (case g_n8 => first | k_is | rfl)
    (case g_n9 => first | k_is | rfl)
    (case g_n10 => first | k_is | rfl)
    (case g_n11 => first | k_is | rfl)
    (case g_n12 => first | k_is | rfl)
    (case g_n13 => first | k_is | rfl)
    (case g_n14 => first | k_is | rfl)
    (case z_list => first | k_is | rfl)
    (case z_range => first | k_is | rfl)
    (case z_len => first | k_is | rfl)
    (case z_min => first | k_is | rfl)
    (case z_max => first | k_is | rfl)
    (case z_enumerate => first | k_is | rfl)
    (case z_sum => first | k_is | rfl)
    (case z_any => first | k_is | rfl)
    (case z_all => first | k_is | rfl)
    (case z_reversed => first | k_is | rfl)
    (case gA => first | k_is | rfl)
    (case lA => first | k_is | rfl)
  case S =>
    intro K H xs a hO hwi hask hx
    cases hx with
    | cons h1 h2 =>
      cases h2
      cases h1 with
      | lst hs ha =>
        have e := L2.ints_dw a.1 _ ha
        subst e
        have q : ((Codec.inLen 0 5600 a.1 && a.1.all (Codec.inInt 0 4294967295)) && true) = true := hwi
        rw [Bool.and_eq_true] at q
        rw [Bool.and_eq_true] at q
        obtain ⟨l, hl⟩ : ∃ l : List Nat, a.1 = FG.nums l := ⟨a.1.map Int.toNat, by
          unfold FG.nums
          rw [List.map_map]
          have : ∀ x ∈ a.1, ((fun (x : Nat) => (x : Int)) ∘ Int.toNat) x = x := fun x hx => by
            have := Codec.inInt_iff.mp (List.all_eq_true.mp q.1.2 x hx)
            show ((x.toNat : Nat) : Int) = x
            omega
          rw [List.map_congr_left this, List.map_id']⟩
        refine ⟨_, l, rfl, ?_, ?_, ?_, fun H' p hp => ?_⟩
        · rw [FG.iv_ints]
          have hs' := hs
          rw [hl] at hs'
          exact hs'
        · have hask' : PySu186.answers_asked a.1 = true := hask
          rw [hl] at hask'
          exact hask'
        · have hq := (Codec.inNat_iff.mp q.1.1).2
          rw [hl, FG.nums_len] at hq
          exact hq
        · rw [← hl] at hp
          exact .lst (L2.SqL.of hp) (L2.dw_ints _)
