import PyProof.Rows.All
import Wide.All
import OpenK.AllK
import Wide.FinOn
import Open.SpecLaws
import KE.OsGo
import HandS.ForSpec
import HandS.Comp
import HandS.Wide
import HandS.Rev
import HandS.Iter
import PyFlatLaws
import PySem.Challenge.RW_foldedtent_s01_answers
/-! The program's defs as plain functions. -/
set_option linter.all false
namespace Ft
def gcdI (a b : Int) : Int := ((Nat.gcd a.natAbs b.natAbs : Nat) : Int)
def putP (a b : Int) (x : Int × Int) : Int × Int := ((if 2 * x.1 ≤ x.2 then x.1 else x.2 - x.1) * a, x.2 * b)
def ltrI (x : Int × Int) : Int := if 2 * x.1 < x.2 then 0 else if 2 * x.1 = x.2 then 1 else 2
def iterP (a b : Int) (x : Int × Int) : Nat → Int × Int
  | 0 => x
  | k + 1 => putP a b (iterP a b x k)
def rowI (a b : Int) (x : Int × Int) : Nat → List Int
  | 0 => []
  | k + 1 => rowI a b x k ++ [ltrI (iterP a b x k)]
def shortP (x : Int × Int) : Int × Int := (x.1 / gcdI x.1 x.2, x.2 / gcdI x.1 x.2)
def leadI (a b : Int) (k : Int) : List Int := rowI a b (putP a b (1, 2)) k.toNat
def cmpI : List Int → List Int → Bool → Int
  | x :: l, y :: m, odd => if x = y then cmpI l m (odd != (x == 2)) else if (decide (x < y)) != odd then 0 else 2
  | _, _, _ => 1
def fitsI (l m : List Int) : Bool := (List.range (l.length - 1)).all fun i => decide (¬ cmpI (l.drop (1 + i)) m false = 2)
def aheadI (rs : List (List Int)) : List (List Int) := rs.flatMap fun r => [0 :: r, 2 :: r]
def keptI (lead : List Int) : Nat → List (List Int)
  | 0 => [[]]
  | n + 1 => (aheadI (keptI lead n)).filter fun r => !decide (cmpI r lead false = 2)
end Ft

set_option linter.all false
/-! The defs of stretches and rounds as plain functions. -/
namespace Ft
/-- one letter ahead: low, high, q -/
def strStep (a b c : Int) (z : Int × Int × Int) : Option (Int × Int × Int) :=
  if (if (z.2.2 * a) / 2 < z.2.1 * b then (z.2.2 * a) / 2 else z.2.1 * b) ≤ z.1 * b then none
  else some (if c = 0 then z.1 * b else z.2.2 * a - (if (z.2.2 * a) / 2 < z.2.1 * b then (z.2.2 * a) / 2 else z.2.1 * b), if c = 0 then (if (z.2.2 * a) / 2 < z.2.1 * b then (z.2.2 * a) / 2 else z.2.1 * b) else z.2.2 * a - z.1 * b, z.2.2 * a)
def strI (a b : Int) : List Int → Option (Int × Int × Int)
  | [] => some (0, 2, 2)
  | c :: w => (strI a b w).bind (strStep a b c)
def stretchI (a b : Int) (w : List Int) : Option ((Int × Int) × (Int × Int)) := (strI a b w).map fun z => (shortP (z.1, z.2.2), shortP (z.2.1, z.2.2))
def alongStep (a b : Int) (z : Int × Int × Int) (c : Int) : Int × Int × Int := if c = 2 then (-z.1 * a, (z.2.2 - z.2.1) * a, z.2.2 * b) else (z.1 * a, z.2.1 * a, z.2.2 * b)
def alongI (a b : Int) (w : List Int) (z : Int × Int × Int) : Int × Int × Int := w.foldl (alongStep a b) z
def fixOf (z : Int × Int × Int) : Int × Int := if z.1 < 0 then (z.2.1, z.2.2 - z.1) else (-z.2.1, z.1 - z.2.2)
def fixI (a b : Int) (w : List Int) : Int × Int := fixOf (alongI a b w (1, 0, 1))
def comesI (a b : Int) (w : List Int) : Option (Int × Int) := if rowI a b (fixI a b w) w.length = w then some (shortP (fixI a b w)) else none
def aboveI (w : List Int) : Bool := (List.range (w.length - 1)).all fun i => decide (cmpI w (w.drop (1 + i) ++ w.take (1 + i)) false = 2)
def allI : Nat → List (List Int)
  | 0 => [[]]
  | k + 1 => aheadI (allI k)
def roundsI (a b : Int) (k : Nat) : List (List Int) := ((allI k).filter aboveI).filter fun w => (comesI a b w).isSome
def before1 (a b : Int) (x : Int × Int) : List (Int × Int) := if 2 * (x.1 * b) < x.2 * a then [(x.1 * b, x.2 * a), (x.2 * a - x.1 * b, x.2 * a)] else []
def beforeI (a b : Int) (l : List (Int × Int)) : List (Int × Int) := l.flatMap (before1 a b)
def reachI (a b : Int) : Nat → List (Int × Int)
  | 0 => [(1, 2)]
  | k + 1 => beforeI a b (reachI a b k)
/-- how many folds there are before the (k+1)th step -/
def foldsI (a b : Int) : Nat → Nat
  | 0 => 1
  | k + 1 => foldsI a b k + (reachI a b (k + 1)).length
end Ft

set_option Elab.async false
set_option linter.all false
/-! Fractions of the specification, by pairs that need not be shortened. -/
namespace Ft
open Su185
theorem gcd_dvd_l (x : Int) (y : Nat) : ((Nat.gcd x.natAbs y : Nat) : Int) ∣ x := Int.ofNat_dvd_left.mpr (Nat.gcd_dvd_left _ _)
theorem gcd_dvd_r (x : Int) (y : Nat) : Nat.gcd x.natAbs y ∣ y := Nat.gcd_dvd_right _ _
theorem gcd_pos' (x : Int) {y : Nat} (h : 0 < y) : 0 < Nat.gcd x.natAbs y := Nat.gcd_pos_of_pos_right _ h
/-- what a shortened pair is made from -/
theorem red_back (x : Int) {y : Nat} (h : 0 < y) : ∃ g : Nat, 0 < g ∧ x = (g : Int) * (red x y).1 ∧ y = g * (red x y).2 ∧ 0 < (red x y).2 := by
  refine ⟨Nat.gcd x.natAbs y, gcd_pos' x h, ?_, ?_, ?_⟩
  · exact (Int.mul_ediv_cancel' (gcd_dvd_l x y)).symm
  · exact (Nat.mul_div_cancel' (gcd_dvd_r x y)).symm
  · exact Nat.div_pos (Nat.le_of_dvd h (gcd_dvd_r x y)) (gcd_pos' x h)
theorem red_scale (x : Int) (y : Nat) {c : Nat} (hc : 0 < c) : red ((c : Int) * x) (c * y) = red x y := by
  unfold red
  have e : Nat.gcd ((c : Int) * x).natAbs (c * y) = c * Nat.gcd x.natAbs y := by
    rw [Int.natAbs_mul, Int.natAbs_natCast, Nat.gcd_mul_left]
  rw [e]
  refine Prod.ext ?_ ?_
  · show ((c : Int) * x) / ((c * Nat.gcd x.natAbs y : Nat) : Int) = x / ((Nat.gcd x.natAbs y : Nat) : Int)
    rw [Int.natCast_mul, Int.mul_ediv_mul_of_pos _ _ (by omega)]
  · show (c * y) / (c * Nat.gcd x.natAbs y) = y / Nat.gcd x.natAbs y
    exact Nat.mul_div_mul_left _ _ hc
def fr (x : Int × Int) : Frac := red x.1 x.2.toNat
theorem fr_scale (x : Int × Int) {c : Int} (hc : 0 < c) : fr (c * x.1, c * x.2) = fr x := by
  obtain ⟨n, rfl⟩ := Int.eq_ofNat_of_zero_le (Int.le_of_lt hc)
  unfold fr
  have e : ((n : Int) * x.2).toNat = n * x.2.toNat := by
    by_cases h : 0 ≤ x.2
    · obtain ⟨m, e⟩ := Int.eq_ofNat_of_zero_le h
      rw [e]
      exact Int.toNat_natCast (n * m)
    · have h1 : x.2.toNat = 0 := by omega
      have h2 : (n : Int) * x.2 ≤ 0 := Int.mul_nonpos_of_nonneg_of_nonpos (by omega) (by omega)
      rw [h1]
      omega
  show red ((n : Int) * x.1) ((n : Int) * x.2).toNat = red x.1 x.2.toNat
  rw [e]
  exact red_scale _ _ (by omega)
/-- the pair that a fraction is -/
def up (f : Frac) : Int × Int := (f.1, (f.2 : Int))
theorem fr_back (x : Int × Int) (h : 0 < x.2) : ∃ g : Int, 0 < g ∧ x.1 = g * (fr x).1 ∧ x.2 = g * ((fr x).2 : Int) ∧ 0 < ((fr x).2 : Int) := by
  obtain ⟨g, h1, h2, h3, h4⟩ := red_back x.1 (y := x.2.toNat) (by omega)
  refine ⟨(g : Int), by omega, h2, ?_, by unfold fr; omega⟩
  have e : x.2 = ((x.2.toNat : Nat) : Int) := by omega
  rw [e, h3, Int.natCast_mul]
  rfl
theorem mul_fr (x y : Int × Int) (hx : 0 < x.2) (hy : 0 < y.2) : mul (fr x) (fr y) = fr (x.1 * y.1, x.2 * y.2) := by
  obtain ⟨g, g0, e1, e2, e3⟩ := fr_back x hx
  obtain ⟨h, h0, d1, d2, d3⟩ := fr_back y hy
  have e : fr (x.1 * y.1, x.2 * y.2) = fr ((g * h) * ((fr x).1 * (fr y).1), (g * h) * (((fr x).2 : Int) * ((fr y).2 : Int))) := by
    congr 2
    · rw [e1, d1]
      simp only [Int.mul_assoc, Int.mul_left_comm, Int.mul_comm]
    · rw [e2, d2]
      simp only [Int.mul_assoc, Int.mul_left_comm, Int.mul_comm]
  rw [e, fr_scale ((fr x).1 * (fr y).1, ((fr x).2 : Int) * ((fr y).2 : Int)) (Int.mul_pos g0 h0)]
  unfold mul
  show red _ _ = red _ (((fr x).2 : Int) * ((fr y).2 : Int)).toNat
  rw [← Int.natCast_mul, Int.toNat_natCast]
theorem minus_fr (x y : Int × Int) (hx : 0 < x.2) (hy : 0 < y.2) : minus (fr x) (fr y) = fr (x.1 * y.2 - y.1 * x.2, x.2 * y.2) := by
  obtain ⟨g, g0, e1, e2, e3⟩ := fr_back x hx
  obtain ⟨h, h0, d1, d2, d3⟩ := fr_back y hy
  have e : fr (x.1 * y.2 - y.1 * x.2, x.2 * y.2) = fr ((g * h) * ((fr x).1 * ((fr y).2 : Int) - (fr y).1 * ((fr x).2 : Int)), (g * h) * (((fr x).2 : Int) * ((fr y).2 : Int))) := by
    congr 2
    · rw [e1, d1, e2, d2, Int.mul_sub]
      simp only [Int.mul_assoc, Int.mul_left_comm, Int.mul_comm]
    · rw [e2, d2]
      simp only [Int.mul_assoc, Int.mul_left_comm, Int.mul_comm]
  rw [e, fr_scale ((fr x).1 * ((fr y).2 : Int) - (fr y).1 * ((fr x).2 : Int), ((fr x).2 : Int) * ((fr y).2 : Int)) (Int.mul_pos g0 h0)]
  unfold minus
  show red _ _ = red _ (((fr x).2 : Int) * ((fr y).2 : Int)).toNat
  rw [← Int.natCast_mul, Int.toNat_natCast]
theorem lt_fr (x y : Int × Int) (hx : 0 < x.2) (hy : 0 < y.2) : lt (fr x) (fr y) = decide (x.1 * y.2 < y.1 * x.2) := by
  obtain ⟨g, g0, e1, e2, e3⟩ := fr_back x hx
  obtain ⟨h, h0, d1, d2, d3⟩ := fr_back y hy
  have a : x.1 * y.2 = (g * h) * ((fr x).1 * ((fr y).2 : Int)) := by
    rw [e1, d2]
    simp only [Int.mul_assoc, Int.mul_left_comm, Int.mul_comm]
  have b : y.1 * x.2 = (g * h) * ((fr y).1 * ((fr x).2 : Int)) := by
    rw [d1, e2]
    simp only [Int.mul_assoc, Int.mul_left_comm, Int.mul_comm]
  unfold lt
  rw [a, b]
  refine decide_eq_decide.mpr ⟨fun q => ?_, fun q => ?_⟩
  · exact Int.mul_lt_mul_of_pos_left q (Int.mul_pos g0 h0)
  · exact Int.lt_of_mul_lt_mul_left q (Int.le_of_lt (Int.mul_pos g0 h0))
theorem le_fr (x y : Int × Int) (hx : 0 < x.2) (hy : 0 < y.2) : le (fr x) (fr y) = decide (x.1 * y.2 ≤ y.1 * x.2) := by
  unfold le
  rw [lt_fr y x hy hx]
  by_cases c : y.1 * x.2 < x.1 * y.2
  · rw [decide_eq_true c, decide_eq_false (by omega)]
    rfl
  · rw [decide_eq_false c, decide_eq_true (by omega)]
    rfl
theorem fr_eq (x y : Int × Int) (hx : 0 < x.2) (hy : 0 < y.2) : fr x = fr y ↔ x.1 * y.2 = y.1 * x.2 := by
  constructor
  · intro q
    obtain ⟨g, g0, e1, e2, e3⟩ := fr_back x hx
    obtain ⟨h, h0, d1, d2, d3⟩ := fr_back y hy
    rw [← q] at d1 d2
    rw [e1, d1, e2, d2]
    simp only [Int.mul_assoc, Int.mul_left_comm, Int.mul_comm]
  · intro q
    rw [← fr_scale x hy, ← fr_scale y hx, Int.mul_comm y.2 x.1, q, Int.mul_comm y.1 x.2, Int.mul_comm x.2 y.2]
theorem half_fr : half = fr (1, 2) := rfl
theorem one_fr : one = fr (1, 1) := rfl
theorem zero_fr : zero = fr (0, 1) := rfl
theorem neg_fr (x : Int × Int) (hx : 0 < x.2) : minus zero (fr x) = fr (-x.1, x.2) := by
  rw [zero_fr, minus_fr _ _ (by decide) hx]
  congr 2
  · show 0 * x.2 - x.1 * 1 = -x.1
    omega
  · show 1 * x.2 = x.2
    omega
theorem from_one (x : Int × Int) (hx : 0 < x.2) : minus one (fr x) = fr (x.2 - x.1, x.2) := by
  rw [one_fr, minus_fr _ _ (by decide) hx]
  congr 2
  · show 1 * x.2 - x.1 * 1 = x.2 - x.1
    omega
  · show 1 * x.2 = x.2
    omega
theorem div_fr (x y : Int × Int) (hx : 0 < x.2) (hy : 0 < y.2) (h : y.1 ≠ 0) : div (fr x) (fr y) = if 0 < y.1 then fr (x.1 * y.2, x.2 * y.1) else fr (-(x.1 * y.2), x.2 * (-y.1)) := by
  obtain ⟨g, g0, e1, e2, e3⟩ := fr_back x hx
  obtain ⟨h, h0, d1, d2, d3⟩ := fr_back y hy
  have gh := Int.mul_pos g0 h0
  have sg : (0 < (fr y).1) ↔ 0 < y.1 := by
    rw [d1]
    constructor
    · intro q
      exact Int.mul_pos h0 q
    · intro q
      rcases Int.lt_or_le 0 (fr y).1 with z | z
      · exact z
      · have := Int.mul_nonpos_of_nonneg_of_nonpos (Int.le_of_lt h0) z
        omega
  unfold div
  by_cases c : 0 < y.1
  · rw [if_pos c, if_pos (sg.mpr c)]
    have q : 0 < (fr y).1 := sg.mpr c
    have e : fr (x.1 * y.2, x.2 * y.1) = fr ((g * h) * ((fr x).1 * ((fr y).2 : Int)), (g * h) * (((fr x).2 : Int) * (fr y).1)) := by
      congr 2
      · rw [e1, d2]
        simp only [Int.mul_assoc, Int.mul_left_comm, Int.mul_comm]
      · rw [e2, d1]
        simp only [Int.mul_assoc, Int.mul_left_comm, Int.mul_comm]
    rw [e, fr_scale ((fr x).1 * ((fr y).2 : Int), ((fr x).2 : Int) * (fr y).1) gh]
    show red _ _ = red _ (((fr x).2 : Int) * (fr y).1).toNat
    congr 1
    obtain ⟨n, en⟩ := Int.eq_ofNat_of_zero_le (Int.le_of_lt q)
    rw [en]
    exact (Int.toNat_natCast ((fr x).2 * n)).symm
  · rw [if_neg c, if_neg (fun z => c (sg.mp z))]
    have q : ¬ 0 < (fr y).1 := fun z => c (sg.mp z)
    have e : fr (-(x.1 * y.2), x.2 * (-y.1)) = fr ((g * h) * (-((fr x).1 * ((fr y).2 : Int))), (g * h) * (((fr x).2 : Int) * (-(fr y).1))) := by
      congr 2
      · rw [e1, d2, Int.mul_neg]
        simp only [Int.mul_assoc, Int.mul_left_comm, Int.mul_comm]
      · rw [e2, d1, Int.mul_neg, Int.mul_neg, Int.mul_neg]
        simp only [Int.mul_assoc, Int.mul_left_comm, Int.mul_comm]
    rw [e, fr_scale (-((fr x).1 * ((fr y).2 : Int)), ((fr x).2 : Int) * (-(fr y).1)) gh]
    show red _ _ = red _ (((fr x).2 : Int) * (-(fr y).1)).toNat
    congr 1
    obtain ⟨n, en⟩ := Int.eq_ofNat_of_zero_le (show 0 ≤ -(fr y).1 by omega)
    rw [en]
    exact (Int.toNat_natCast ((fr x).2 * n)).symm
end Ft

set_option Elab.async false
set_option linter.all false
/-! The specification's tent by pairs that need not be shortened. -/
namespace Ft
open Su185
def ofN (l : List Nat) : List Int := l.map fun (n : Nat) => (n : Int)
section
variable {t : Abs} (hb : 0 < t.b)
theorem s_fr : t.s = fr ((t.a : Int), (t.b : Int)) := rfl
theorem put_fr (hb : 0 < t.b) (x : Int × Int) (hx : 0 < x.2) : t.put (fr x) = fr (putP t.a t.b x) := by
  unfold Abs.put putP
  rw [half_fr, le_fr x (1, 2) hx (by decide), s_fr]
  by_cases c : 2 * x.1 ≤ x.2
  · rw [if_pos c, if_pos (by simp only [decide_eq_true_eq]; omega), mul_fr _ _ (by show 0 < (t.b : Int); omega) hx]
    congr 2 <;> exact Int.mul_comm _ _
  · rw [if_neg c, if_neg (by simp only [decide_eq_true_eq]; omega), from_one x hx, mul_fr ((t.a : Int), (t.b : Int)) (x.2 - x.1, x.2) (by show 0 < (t.b : Int); omega) hx]
    congr 2 <;> exact Int.mul_comm _ _
theorem put_pos (hb : 0 < t.b) (x : Int × Int) (hx : 0 < x.2) : 0 < (putP t.a t.b x).2 := Int.mul_pos hx (by omega)
theorem letter_fr (x : Int × Int) (hx : 0 < x.2) : ((letter (fr x) : Nat) : Int) = ltrI x := by
  unfold letter ltrI
  rw [half_fr, lt_fr x (1, 2) hx (by decide)]
  by_cases c : 2 * x.1 < x.2
  · rw [if_pos c, if_pos (by simp only [decide_eq_true_eq]; omega)]
    rfl
  · rw [if_neg c, if_neg (by simp only [decide_eq_true_eq]; omega)]
    by_cases d : 2 * x.1 = x.2
    · rw [if_pos d, if_pos ((fr_eq x (1, 2) hx (by decide)).mpr (by show x.1 * 2 = 1 * x.2; omega))]
      rfl
    · rw [if_neg d, if_neg (fun z => d (by have := (fr_eq x (1, 2) hx (by decide)).mp z; have : x.1 * 2 = 1 * x.2 := this; omega))]
      rfl
theorem iter_cons (a b : Int) (x : Int × Int) : ∀ k, iterP a b x (k + 1) = iterP a b (putP a b x) k
  | 0 => rfl
  | k + 1 => congrArg (putP a b) (iter_cons a b x k)
theorem rowI_cons (a b : Int) (x : Int × Int) : ∀ k, rowI a b x (k + 1) = ltrI x :: rowI a b (putP a b x) k
  | 0 => rfl
  | k + 1 => by
    show rowI a b x (k + 1) ++ [ltrI (iterP a b x (k + 1))] = ltrI x :: (rowI a b (putP a b x) k ++ [ltrI (iterP a b (putP a b x) k)])
    rw [rowI_cons a b x k, iter_cons]
    rfl
theorem row_fr (hb : 0 < t.b) : ∀ (k : Nat) (x : Int × Int), 0 < x.2 → ofN (t.row (fr x) k) = rowI t.a t.b x k
  | 0, _, _ => rfl
  | k + 1, x, hx => by
    rw [rowI_cons]
    show ((letter (fr x) : Nat) : Int) :: ofN (t.row (t.put (fr x)) k) = _
    rw [letter_fr x hx, put_fr hb x hx, row_fr hb k _ (put_pos hb x hx)]
theorem top_fr (hb : 0 < t.b) : t.top = fr (putP t.a t.b (1, 2)) := by
  unfold Abs.top
  rw [s_fr, half_fr, mul_fr _ _ (by show 0 < (t.b : Int); omega) (by decide)]
  congr 2
  · show (t.a : Int) * 1 = (if (2 : Int) * 1 ≤ 2 then 1 else 2 - 1) * (t.a : Int)
    rw [if_pos (by decide)]
    omega
  · exact Int.mul_comm _ _
theorem lead_fr (hb : 0 < t.b) (k : Nat) : ofN (t.lead k) = leadI t.a t.b k := by
  unfold Abs.lead leadI
  rw [top_fr hb, row_fr hb k _ (put_pos hb _ (by decide))]
  rfl
end
/-! rows -/
theorem order_I : ∀ (u v : List Nat) (o : Bool), ((order u v o : Nat) : Int) = cmpI (ofN u) (ofN v) o
  | [], _, _ => by
    unfold order ofN
    simp [cmpI]
  | _ :: _, [], _ => rfl
  | x :: l, y :: m, o => by
    have ih := order_I l m (o != (x == 2))
    unfold order
    show _ = (if ((x : Int) = (y : Int)) then cmpI (ofN l) (ofN m) (o != ((x : Int) == 2)) else if (decide ((x : Int) < (y : Int))) != o then 0 else 2)
    have e2 : ((x : Int) == 2) = (x == 2) := by
      by_cases c : x = 2
      · subst c; rfl
      · have c' : ¬ (x : Int) = 2 := by omega
        rw [beq_eq_false_iff_ne.mpr c', beq_eq_false_iff_ne.mpr c]
    by_cases c : x = y
    · rw [if_pos c, if_pos (show (x : Int) = (y : Int) by omega), e2]
      exact ih
    · rw [if_neg c, if_neg (show ¬ (x : Int) = (y : Int) by omega)]
      have e3 : decide ((x : Int) < (y : Int)) = decide (x < y) := decide_eq_decide.mpr (by omega)
      rw [e3]
      split <;> rfl
theorem cmp_take : ∀ (l m : List Int) (o : Bool) (n : Nat), l.length ≤ n → cmpI l (m.take n) o = cmpI l m o
  | [], m, o, n, _ => by cases m <;> cases (List.take n _) <;> rfl
  | x :: l, [], o, n, _ => by simp [cmpI]
  | x :: l, y :: m, o, 0, h => by simp at h
  | x :: l, y :: m, o, n + 1, h => by
    have ih := cmp_take l m (o != (x == 2)) n (by simpa using h)
    rw [List.take_succ_cons]
    unfold cmpI
    rw [ih]
theorem row_take (t : Abs) : ∀ (k n : Nat) (x : Frac), n ≤ k → (t.row x k).take n = t.row x n
  | k, 0, x, _ => by
    rw [List.take_zero]
    rfl
  | 0, n + 1, x, h => by omega
  | k + 1, n + 1, x, h => by
    show (letter x :: t.row (t.put x) k).take (n + 1) = letter x :: t.row (t.put x) n
    rw [List.take_succ_cons, row_take t k n _ (by omega)]
theorem ofN_len (l : List Nat) : (ofN l).length = l.length := List.length_map _
theorem ofN_take (l : List Nat) (n : Nat) : (ofN l).take n = ofN (l.take n) := (List.map_take).symm
theorem ofN_drop (l : List Nat) (n : Nat) : (ofN l).drop n = ofN (l.drop n) := (List.map_drop).symm
theorem order_lead {t : Abs} (hb : 0 < t.b) (v : List Nat) (k : Nat) (h : v.length ≤ k) : ((order v (t.lead v.length) false : Nat) : Int) = cmpI (ofN v) (leadI t.a t.b k) false := by
  rw [order_I, ← lead_fr hb k]
  have e : t.lead v.length = (t.lead k).take v.length := (row_take t k v.length _ h).symm
  rw [e, ← ofN_take, cmp_take _ _ _ _ (by rw [ofN_len]; exact Nat.le_refl _)]
theorem tails_all (p : List Nat → Bool) (h0 : p [] = true) : ∀ w : List Nat, (tails w).all p = (List.range (w.length - 1)).all fun i => p (w.drop (1 + i))
  | [] => rfl
  | [x] => by
    show (p [] && true) = true
    rw [h0]
    rfl
  | x :: y :: l => by
    have ih := tails_all p h0 (y :: l)
    show (p (y :: l) && (tails (y :: l)).all p) = (List.range (l.length + 1)).all fun i => p ((x :: y :: l).drop (1 + i))
    rw [ih, List.range_succ_eq_map, List.all_cons, List.all_map]
    refine congrArg (fun z => p (y :: l) && z) ?_
    refine List.all_congr rfl fun i => ?_
    show p ((y :: l).drop (1 + i)) = p ((x :: y :: l).drop (1 + (i + 1)))
    rw [show 1 + (i + 1) = (1 + i) + 1 by omega, List.drop_succ_cons]
theorem fits_I {t : Abs} (hb : 0 < t.b) (w : List Nat) (k : Nat) (h : w.length ≤ k) : t.fits w = fitsI (ofN w) (leadI t.a t.b k) := by
  unfold Abs.fits fitsI
  rw [tails_all _ rfl w, ofN_len]
  refine List.all_congr rfl fun i => ?_
  rw [ofN_drop, ← order_lead hb (w.drop (1 + i)) k (by rw [List.length_drop]; omega)]
  by_cases c : order (w.drop (1 + i)) (t.lead (w.drop (1 + i)).length) false = 2
  · rw [c]
    rfl
  · rw [bne_iff_ne.mpr c, decide_eq_true (by omega)]
/-! counts -/
theorem words_len : ∀ (k : Nat) (w : List Nat), w ∈ words k → w.length = k
  | 0, w, h => by
    have e : w = [] := by simpa [words] using h
    rw [e]
    rfl
  | k + 1, w, h => by
    obtain ⟨v, hv, hm⟩ := List.mem_flatMap.mp (show w ∈ (words k).flatMap fun w => [0 :: w, 2 :: w] from h)
    have e := words_len k v hv
    simp only [List.mem_cons, List.not_mem_nil, or_false] at hm
    rcases hm with rfl | rfl <;> rw [List.length_cons, e]
theorem map_filter_ofN (p : List Int → Bool) (l : List (List Nat)) : (l.map ofN).filter p = (l.filter fun w => p (ofN w)).map ofN := by
  rw [List.filter_map]
  rfl
theorem ahead_ofN (l : List (List Nat)) : aheadI (l.map ofN) = (l.flatMap fun w => [0 :: w, 2 :: w]).map ofN := by
  unfold aheadI
  rw [List.flatMap_map, List.map_flatMap]
  rfl
def notOver (t : Abs) (w : List Nat) : Bool := order w (t.lead w.length) false != 2
theorem fits_cons (t : Abs) (c : Nat) (w : List Nat) : t.fits (c :: w) = (notOver t w && t.fits w) := rfl
theorem filter_both (p : List Nat → Bool) (f : Nat → List Nat → Bool) (h : ∀ c w, f c w = p w) : ∀ l : List (List Nat), ((l.flatMap fun w => [0 :: w, 2 :: w]).filter fun v => match v with | [] => true | c :: w => f c w) = (l.filter p).flatMap fun w => [0 :: w, 2 :: w]
  | [] => rfl
  | w :: l => by
    have ih := filter_both p f h l
    rw [List.flatMap_cons, List.filter_append, ih]
    simp only [List.filter_cons, List.filter_nil, h]
    by_cases c : p w = true
    · simp only [if_pos c, List.flatMap_cons]
    · simp only [if_neg c, List.nil_append]
theorem fits_words {t : Abs} (k : Nat) : (words (k + 1)).filter t.fits = (((words k).filter t.fits).filter (notOver t)).flatMap fun w => [0 :: w, 2 :: w] := by
  have e := filter_both (fun w => notOver t w && t.fits w) (fun c w => t.fits (c :: w)) (fun c w => fits_cons t c w) (words k)
  rw [List.filter_filter]
  rw [← e]
  refine List.filter_congr fun v hv => ?_
  cases v with
  | nil => rfl
  | cons c w => rfl
theorem kept_I {t : Abs} (hb : 0 < t.b) (n : Nat) : ∀ k, k ≤ n → keptI (leadI t.a t.b n) k = (((words k).filter t.fits).filter (notOver t)).map ofN
  | 0, _ => rfl
  | k + 1, h => by
    show (aheadI (keptI (leadI t.a t.b n) k)).filter _ = _
    rw [kept_I hb n k (by omega), ahead_ofN, ← fits_words, map_filter_ofN]
    congr 1
    refine List.filter_congr fun w hw => ?_
    have hl := words_len (k + 1) w (List.mem_filter.mp hw).1
    unfold notOver
    rw [← order_lead hb w n (by omega)]
    by_cases c : order w (t.lead w.length) false = 2
    · rw [c]
      rfl
    · rw [bne_iff_ne.mpr c, decide_eq_false (by omega)]
      rfl
theorem count_I {t : Abs} (hb : 0 < t.b) (k : Nat) (n : Nat) (hk : k ≤ n) : t.count (k + 1) = (aheadI (keptI (leadI t.a t.b n) k)).length := by
  unfold Abs.count
  rw [fits_words, kept_I hb n k hk, ahead_ofN, List.length_map]
end Ft

set_option Elab.async false
set_option linter.all false
/-! The specification's stretches, laps, rounds by pairs that need not be shortened. -/
namespace Ft
open Su185
/-! ### stretches -/
structure OkStr (z : Int × Int × Int) : Prop where
  lo : 0 ≤ z.1
  lt : z.1 < z.2.1
  hi : z.2.1 ≤ z.2.2
  ev : z.2.2 % 2 = 0
theorem top_pair {t : Abs} (hb : 0 < t.b) : t.top = fr ((t.a : Int), 2 * (t.b : Int)) := by
  rw [top_fr hb]
  congr 1
  unfold putP
  simp
theorem fr_congr {x y : Int × Int} (hx : 0 < x.2) (hy : 0 < y.2) (h : x.1 * y.2 = y.1 * x.2) : fr x = fr y := (fr_eq x y hx hy).mpr h
theorem ok_step {a b c : Int} {z z' : Int × Int × Int} (ha : 0 < a) (hb : 0 < b) (h : OkStr z) (e : strStep a b c z = some z') : OkStr z' := by
  obtain ⟨lo, hi, q⟩ := z
  obtain ⟨h1, h2, h3, h4⟩ := h
  simp only at h1 h2 h3 h4
  unfold strStep at e
  simp only at e
  have hq : 0 < q := by omega
  have e1 : (q * a) % 2 = 0 := by
    rw [Int.mul_emod, h4]
    simp
  have p1 : 0 ≤ lo * b := Int.mul_nonneg h1 (by omega)
  have p2 : 0 < q * a := Int.mul_pos hq ha
  generalize q * a = A at *
  generalize lo * b = L at *
  generalize hi * b = U at *
  have hf : (if A / 2 < U then A / 2 else U) ≤ A / 2 := by split <;> omega
  generalize (if A / 2 < U then A / 2 else U) = far at *
  by_cases n : far ≤ L
  · rw [if_pos n] at e
    cases e
  · rw [if_neg n] at e
    cases e
    by_cases c0 : c = 0
    · simp only [if_pos c0]
      exact ⟨p1, by show L < far; omega, by show far ≤ A; omega, e1⟩
    · simp only [if_neg c0]
      exact ⟨by show 0 ≤ A - far; omega, by show A - far < A - L; omega, by show A - L ≤ A; omega, e1⟩
theorem ok_str {a b : Int} (ha : 0 < a) (hb : 0 < b) : ∀ (w : List Int) {z : Int × Int × Int}, strI a b w = some z → OkStr z
  | [], z, e => by
    cases e
    exact ⟨by decide, by decide, by decide, by decide⟩
  | c :: w, z, e => by
    unfold strI at e
    cases e2 : strI a b w with
    | none =>
      rw [e2] at e
      cases e
    | some y =>
      rw [e2] at e
      exact ok_step ha hb (ok_str ha hb w e2) e
def pairF (z : Int × Int × Int) : Frac × Frac := (fr (z.1, z.2.2), fr (z.2.1, z.2.2))
/-- the specification's step -/
def holdStep (t : Abs) (c : Nat) (x : Frac × Frac) : Option (Frac × Frac) :=
  if lt x.1 (minF x.2 t.top) = false then none else
    if c = 0 then some (mul x.1 (red (t.b : Int) t.a), mul (minF x.2 t.top) (red (t.b : Int) t.a)) else some (minus one (mul (minF x.2 t.top) (red (t.b : Int) t.a)), minus one (mul x.1 (red (t.b : Int) t.a)))
theorem holds_cons (t : Abs) (c : Nat) (w : List Nat) : t.holds (c :: w) = (t.holds w).bind (holdStep t c) := by
  show (match t.holds w with
    | none => none
    | some (l, u) => _) = _
  cases t.holds w with
  | none => rfl
  | some x => rfl
theorem holdStep_I {t : Abs} (hb : 0 < t.b) (ha : 0 < t.a) (c : Nat) {z : Int × Int × Int} (h : OkStr z) : holdStep t c (pairF z) = (strStep t.a t.b c z).map pairF := by
  obtain ⟨lo, hi, q⟩ := z
  obtain ⟨h1, h2, h3, h4⟩ := h
  simp only at h1 h2 h3 h4
  have hq : 0 < q := by omega
  have hA : (0 : Int) < (t.a : Int) := by omega
  have hB : (0 : Int) < (t.b : Int) := by omega
  have ra : red (t.b : Int) t.a = fr ((t.b : Int), (t.a : Int)) := rfl
  have e1 : (q * t.a) % 2 = 0 := by
    rw [Int.mul_emod, h4]
    simp
  have p2 : 0 < q * (t.a : Int) := Int.mul_pos hq hA
  have c0 : ((c : Int) = 0) = (c = 0) := by
    apply propext
    omega
  have eb : (0 : Int) < 2 * (t.b : Int) := by omega
  -- which of the two is less
  have k1 : lt t.top (fr (hi, q)) = decide ((q * (t.a : Int)) / 2 < hi * (t.b : Int)) := by
    rw [top_pair hb, lt_fr ((t.a : Int), 2 * (t.b : Int)) (hi, q) eb hq]
    refine decide_eq_decide.mpr ?_
    show (t.a : Int) * q < hi * (2 * (t.b : Int)) ↔ _
    rw [Int.mul_left_comm hi 2, Int.mul_comm (t.a : Int) q]
    omega
  have v1 : mul (minF (fr (hi, q)) t.top) (red (t.b : Int) t.a) = fr (if (q * (t.a : Int)) / 2 < hi * (t.b : Int) then (q * (t.a : Int)) / 2 else hi * (t.b : Int), q * (t.a : Int)) := by
    unfold minF
    rw [k1, ra]
    by_cases m : (q * (t.a : Int)) / 2 < hi * (t.b : Int)
    · rw [if_pos (decide_eq_true m), if_pos m, top_pair hb, mul_fr _ _ eb hA]
      refine fr_congr (Int.mul_pos eb hA) p2 ?_
      show (t.a : Int) * (t.b : Int) * (q * (t.a : Int)) = (q * (t.a : Int)) / 2 * (2 * (t.b : Int) * (t.a : Int))
      have e2 : (q * (t.a : Int)) / 2 * (2 * (t.b : Int) * (t.a : Int)) = ((q * (t.a : Int)) / 2 * 2) * ((t.b : Int) * (t.a : Int)) := by grind
      rw [e2, Int.ediv_mul_cancel (Int.dvd_of_emod_eq_zero e1)]
      grind
    · rw [if_neg (by simpa using m), if_neg m, mul_fr (hi, q) _ hq hA]
  have k2 : lt (fr (lo, q)) (minF (fr (hi, q)) t.top) = decide (lo * (t.b : Int) < if (q * (t.a : Int)) / 2 < hi * (t.b : Int) then (q * (t.a : Int)) / 2 else hi * (t.b : Int)) := by
    unfold minF
    rw [k1]
    by_cases m : (q * (t.a : Int)) / 2 < hi * (t.b : Int)
    · rw [if_pos (decide_eq_true m), if_pos m, top_pair hb, lt_fr (lo, q) _ hq eb]
      refine decide_eq_decide.mpr ?_
      show lo * (2 * (t.b : Int)) < (t.a : Int) * q ↔ _
      rw [Int.mul_left_comm lo 2, Int.mul_comm (t.a : Int) q]
      omega
    · rw [if_neg (by simpa using m), if_neg m, lt_fr (lo, q) _ hq hq]
      refine decide_eq_decide.mpr ?_
      show lo * q < hi * q ↔ lo * (t.b : Int) < hi * (t.b : Int)
      exact ⟨fun _ => Int.mul_lt_mul_of_pos_right h2 hB, fun _ => Int.mul_lt_mul_of_pos_right h2 hq⟩
  have v2 : mul (fr (lo, q)) (red (t.b : Int) t.a) = fr (lo * (t.b : Int), q * (t.a : Int)) := by
    rw [ra, mul_fr (lo, q) _ hq hA]
  unfold holdStep strStep pairF
  dsimp only
  rw [k2, v1, v2]
  generalize (if (q * (t.a : Int)) / 2 < hi * (t.b : Int) then (q * (t.a : Int)) / 2 else hi * (t.b : Int)) = far
  by_cases m : far ≤ lo * (t.b : Int)
  · rw [if_pos (decide_eq_false (by omega)), if_pos m]
    rfl
  · rw [if_neg (by simpa using m), if_neg m]
    simp only [c0]
    by_cases cc : c = 0
    · simp only [if_pos cc, Option.map_some]
    · simp only [if_neg cc, Option.map_some]
      rw [from_one (far, q * (t.a : Int)) p2, from_one (lo * (t.b : Int), q * (t.a : Int)) p2]
theorem holds_I {t : Abs} (hb : 0 < t.b) (ha : 0 < t.a) : ∀ w : List Nat, t.holds w = (strI t.a t.b (ofN w)).map pairF
  | [] => by
    show some (zero, one) = some (pairF (0, 2, 2))
    unfold pairF
    congr 2
  | c :: w => by
    rw [holds_cons, holds_I hb ha w]
    show _ = ((strI t.a t.b (ofN w)).bind (strStep t.a t.b c)).map pairF
    cases e : strI t.a t.b (ofN w) with
    | none => rfl
    | some z => exact holdStep_I hb ha c (ok_str (by omega) (by omega) _ e)
end Ft

set_option Elab.async false
set_option linter.all false
namespace Ft
open Su185
/-! ### the place that comes back along a row -/
/-- slope is further from 0 than over -/
structure OkAl (z : Int × Int × Int) : Prop where
  ov : 0 < z.2.2
  sl : z.2.2 ≤ z.1 ∨ z.2.2 ≤ -z.1
theorem along_ok {a b : Int} (hb : 0 < b) (hab : b < a) (z : Int × Int × Int) (h : OkAl z) (c : Int) : OkAl (alongStep a b z c) ∧ ((alongStep a b z c).2.2 < (alongStep a b z c).1 ∨ (alongStep a b z c).2.2 < -(alongStep a b z c).1) := by
  obtain ⟨sl, st, ov⟩ := z
  obtain ⟨h1, h2⟩ := h
  simp only at h1 h2
  have p1 : 0 < ov * b := Int.mul_pos h1 hb
  have p2 : ov * b < ov * a := Int.mul_lt_mul_of_pos_left hab h1
  have p3 : ov ≤ sl → ov * a ≤ sl * a := fun q => Int.mul_le_mul_of_nonneg_right q (by omega)
  have p4 : ov ≤ -sl → ov * a ≤ -sl * a := fun q => Int.mul_le_mul_of_nonneg_right q (by omega)
  have e : -sl * a = -(sl * a) := Int.neg_mul _ _
  unfold alongStep
  by_cases c2 : c = 2
  · rw [if_pos c2]
    constructor
    · exact ⟨p1, by show ov * b ≤ -sl * a ∨ ov * b ≤ -(-sl * a); omega⟩
    · show ov * b < -sl * a ∨ ov * b < -(-sl * a)
      omega
  · rw [if_neg c2]
    constructor
    · exact ⟨p1, by show ov * b ≤ sl * a ∨ ov * b ≤ -(sl * a); omega⟩
    · show ov * b < sl * a ∨ ov * b < -(sl * a)
      omega
theorem along_okL {a b : Int} (hb : 0 < b) (hab : b < a) : ∀ (w : List Int) (z : Int × Int × Int), OkAl z → OkAl (alongI a b w z) ∧ (w ≠ [] → ((alongI a b w z).2.2 < (alongI a b w z).1 ∨ (alongI a b w z).2.2 < -(alongI a b w z).1))
  | [], z, h => ⟨h, fun n => absurd rfl n⟩
  | c :: w, z, h => by
    have e := along_ok hb hab z h c
    have ih := along_okL hb hab w _ e.1
    refine ⟨ih.1, fun _ => ?_⟩
    cases w with
    | nil => exact e.2
    | cons d w => exact ih.2 (by simp)
theorem ok_one : OkAl (1, 0, 1) := ⟨by decide, Or.inl (by decide)⟩
/-- the place has a denominator above 0 -/
theorem fix_pos {z : Int × Int × Int} (h : OkAl z) (g : z.2.2 < z.1 ∨ z.2.2 < -z.1) : 0 < (fixOf z).2 := by
  obtain ⟨sl, st, ov⟩ := z
  obtain ⟨h1, h2⟩ := h
  simp only at h1 h2 g
  unfold fixOf
  by_cases c : sl < 0
  · rw [if_pos c]
    show 0 < ov - sl
    omega
  · rw [if_neg c]
    show 0 < sl - ov
    omega
/-- where the line's place comes along its own row -/
theorem iter_along {a b : Int} (x : Int × Int) : ∀ (w : List Int) (z : Int × Int × Int), (∀ c ∈ w, c = 0 ∨ c = 2) → rowI a b (z.1 * x.1 + z.2.1 * x.2, z.2.2 * x.2) w.length = w →
    iterP a b (z.1 * x.1 + z.2.1 * x.2, z.2.2 * x.2) w.length = ((alongI a b w z).1 * x.1 + (alongI a b w z).2.1 * x.2, (alongI a b w z).2.2 * x.2)
  | [], z, _, _ => rfl
  | c :: w, z, hc, h => by
    have hl : (c :: w).length = w.length + 1 := rfl
    rw [hl, rowI_cons] at h
    obtain ⟨e1, e2⟩ := List.cons.inj h
    rw [hl, iter_cons]
    have ep : putP a b (z.1 * x.1 + z.2.1 * x.2, z.2.2 * x.2) = ((alongStep a b z c).1 * x.1 + (alongStep a b z c).2.1 * x.2, (alongStep a b z c).2.2 * x.2) := by
      unfold ltrI at e1
      unfold putP alongStep
      simp only at e1
      rcases hc c List.mem_cons_self with rfl | rfl
      · have c1 : 2 * (z.1 * x.1 + z.2.1 * x.2) < z.2.2 * x.2 := by
          split at e1
          · assumption
          · split at e1 <;> omega
        rw [if_neg (show ¬ (0 : Int) = 2 by decide), if_pos (show 2 * (z.1 * x.1 + z.2.1 * x.2) ≤ z.2.2 * x.2 by omega)]
        refine Prod.ext ?_ ?_
        · show (z.1 * x.1 + z.2.1 * x.2) * a = z.1 * a * x.1 + z.2.1 * a * x.2
          grind
        · show z.2.2 * x.2 * b = z.2.2 * b * x.2
          grind
      · have c1 : ¬ 2 * (z.1 * x.1 + z.2.1 * x.2) ≤ z.2.2 * x.2 := by
          split at e1
          · omega
          · split at e1 <;> omega
        rw [if_pos (show (2 : Int) = 2 by rfl), if_neg c1]
        refine Prod.ext ?_ ?_
        · show (z.2.2 * x.2 - (z.1 * x.1 + z.2.1 * x.2)) * a = -z.1 * a * x.1 + (z.2.2 - z.2.1) * a * x.2
          grind
        · show z.2.2 * x.2 * b = z.2.2 * b * x.2
          grind
    rw [ep] at e2 ⊢
    exact iter_along x w (alongStep a b z c) (fun d hd => hc d (List.mem_cons_of_mem _ hd)) e2
/-- below 0 it goes further off -/
theorem iter_off {a b : Int} (ha : 0 < a) (hb : 0 < b) (x : Int × Int) (h1 : x.1 < 0) (h2 : 0 < x.2) : ∀ k : Nat, iterP a b x k = (x.1 * a ^ k, x.2 * b ^ k)
  | 0 => by
    show x = (x.1 * a ^ 0, x.2 * b ^ 0)
    simp
  | k + 1 => by
    show putP a b (iterP a b x k) = _
    rw [iter_off ha hb x h1 h2 k]
    unfold putP
    have p1 : x.1 * a ^ k < 0 := Int.mul_neg_of_neg_of_pos h1 (Int.pow_pos ha)
    have p2 : 0 < x.2 * b ^ k := Int.mul_pos h2 (Int.pow_pos hb)
    simp only
    rw [if_pos (by omega), Int.pow_succ, Int.pow_succ, Int.mul_assoc, Int.mul_assoc]
theorem pow_lt {a b : Int} (hb : 0 < b) (hab : b < a) : ∀ k : Nat, b ^ (k + 1) < a ^ (k + 1)
  | 0 => by
    rw [Int.pow_succ, Int.pow_succ a, Int.pow_zero, Int.pow_zero, Int.one_mul, Int.one_mul]
    exact hab
  | k + 1 => by
    have ih := pow_lt hb hab k
    rw [Int.pow_succ, Int.pow_succ a]
    have p1 : 0 < b ^ (k + 1) := Int.pow_pos hb
    have q1 : b ^ (k + 1) * b < b ^ (k + 1) * a := Int.mul_lt_mul_of_pos_left hab p1
    have q2 : b ^ (k + 1) * a < a ^ (k + 1) * a := Int.mul_lt_mul_of_pos_right ih (by omega)
    omega
/-- the place that is put onto itself along its own row is on the line -/
theorem fix_in {a b : Int} (hb : 0 < b) (hab : b < a) {w : List Int} (hw : w ≠ []) (hc : ∀ c ∈ w, c = 0 ∨ c = 2) (h : rowI a b (fixI a b w) w.length = w) : 0 ≤ (fixI a b w).1 ∧ (fixI a b w).1 ≤ (fixI a b w).2 := by
  obtain ⟨o1, o2⟩ := along_okL hb hab w (1, 0, 1) ok_one
  have o2 := o2 hw
  have hp : 0 < (fixI a b w).2 := fix_pos o1 o2
  have hi := iter_along (a := a) (b := b) (fixI a b w) w (1, 0, 1) hc (by
    have e : ((1 : Int) * (fixI a b w).1 + 0 * (fixI a b w).2, (1 : Int) * (fixI a b w).2) = fixI a b w := by
      refine Prod.ext ?_ ?_
      · show (1 : Int) * (fixI a b w).1 + 0 * (fixI a b w).2 = _
        omega
      · show (1 : Int) * (fixI a b w).2 = _
        omega
    show rowI a b ((1 : Int) * (fixI a b w).1 + 0 * (fixI a b w).2, (1 : Int) * (fixI a b w).2) w.length = w
    rw [e]
    exact h)
  have e0 : ((1 : Int) * (fixI a b w).1 + 0 * (fixI a b w).2, (1 : Int) * (fixI a b w).2) = fixI a b w := by
    refine Prod.ext ?_ ?_
    · show (1 : Int) * (fixI a b w).1 + 0 * (fixI a b w).2 = _
      omega
    · show (1 : Int) * (fixI a b w).2 = _
      omega
  have hi : iterP a b (fixI a b w) w.length = ((alongI a b w (1, 0, 1)).1 * (fixI a b w).1 + (alongI a b w (1, 0, 1)).2.1 * (fixI a b w).2, (alongI a b w (1, 0, 1)).2.2 * (fixI a b w).2) := by
    have hi' : iterP a b ((1 : Int) * (fixI a b w).1 + 0 * (fixI a b w).2, (1 : Int) * (fixI a b w).2) w.length = _ := hi
    rw [e0] at hi'
    exact hi'
  have e1 : (alongI a b w (1, 0, 1)).1 * (fixI a b w).1 + (alongI a b w (1, 0, 1)).2.1 * (fixI a b w).2 = (alongI a b w (1, 0, 1)).2.2 * (fixI a b w).1 := by
    unfold fixI fixOf
    generalize alongI a b w (1, 0, 1) = z
    by_cases c : z.1 < 0
    · rw [if_pos c]
      show z.1 * z.2.1 + z.2.1 * (z.2.2 - z.1) = z.2.2 * z.2.1
      grind
    · rw [if_neg c]
      show z.1 * (-z.2.1) + z.2.1 * (z.1 - z.2.2) = z.2.2 * (-z.2.1)
      grind
  rw [e1] at hi
  have o0 := o1.ov
  generalize (alongI a b w (1, 0, 1)).2.2 = ov at *
  generalize fixI a b w = x at *
  obtain ⟨n, hn⟩ : ∃ n, w.length = n + 1 := by
    cases w with
    | nil => exact absurd rfl hw
    | cons c w => exact ⟨w.length, rfl⟩
  rw [hn] at hi
  constructor
  · rcases Int.lt_or_le x.1 0 with q | q
    · exfalso
      rw [iter_off (by omega) hb x q hp] at hi
      obtain ⟨f1, f2⟩ := Prod.mk.inj hi
      have f3 : ov = b ^ (n + 1) := by
        have : x.2 * b ^ (n + 1) = x.2 * ov := by rw [f2]; exact Int.mul_comm _ _
        exact (Int.eq_of_mul_eq_mul_left (by omega) this).symm
      have f4 : ov = a ^ (n + 1) := by
        have : x.1 * a ^ (n + 1) = x.1 * ov := by rw [f1]; exact Int.mul_comm _ _
        exact (Int.eq_of_mul_eq_mul_left (by omega) this).symm
      have := pow_lt hb hab n
      omega
    · exact q
  · rcases Int.lt_or_le x.2 x.1 with q | q
    · exfalso
      have p0 : putP a b x = ((x.2 - x.1) * a, x.2 * b) := by
        unfold putP
        rw [if_neg (by omega)]
      have q1 : (x.2 - x.1) * a < 0 := Int.mul_neg_of_neg_of_pos (by omega) (by omega)
      rw [iter_cons, p0, iter_off (by omega) hb ((x.2 - x.1) * a, x.2 * b) q1 (Int.mul_pos hp hb)] at hi
      obtain ⟨f1, f2⟩ := Prod.mk.inj hi
      have q2 : (x.2 - x.1) * a * a ^ n < 0 := Int.mul_neg_of_neg_of_pos q1 (Int.pow_pos (by omega))
      have q3 : 0 < ov * x.1 := Int.mul_pos o0 (by omega)
      have f1' : (x.2 - x.1) * a * a ^ n = ov * x.1 := f1
      omega
    · exact q
/-! the specification's -/
def trF (z : Int × Int × Int) : Frac × Frac := (fr (z.1, z.2.2), fr (z.2.1, z.2.2))
theorem along_fr {t : Abs} (hb : 0 < t.b) : ∀ (w : List Nat) (z : Int × Int × Int), 0 < z.2.2 → (∀ c ∈ w, c = 0 ∨ c = 2) → w.foldl (fun z c => if c = 0 then (mul t.s z.1, mul t.s z.2) else (mul t.s (minus zero z.1), mul t.s (minus one z.2))) (trF z) = trF (alongI t.a t.b (ofN w) z)
  | [], _, _, _ => rfl
  | c :: w, z, hz, hc => by
    have hB : (0 : Int) < (t.b : Int) := by omega
    have es : (if c = 0 then (mul t.s (trF z).1, mul t.s (trF z).2) else (mul t.s (minus zero (trF z).1), mul t.s (minus one (trF z).2))) = trF (alongStep t.a t.b z (c : Int)) := by
      unfold trF alongStep
      rcases hc c List.mem_cons_self with rfl | rfl
      · rw [if_pos (show (0 : Nat) = 0 from rfl), if_neg (show ¬ ((0 : Nat) : Int) = 2 by decide), s_fr, mul_fr _ (z.1, z.2.2) hB hz, mul_fr _ (z.2.1, z.2.2) hB hz]
        simp only [Int.mul_comm]
      · rw [if_neg (show ¬ (2 : Nat) = 0 by decide), if_pos (show ((2 : Nat) : Int) = 2 from rfl), s_fr, neg_fr (z.1, z.2.2) hz, from_one (z.2.1, z.2.2) hz, mul_fr _ (-z.1, z.2.2) hB hz, mul_fr _ (z.2.2 - z.2.1, z.2.2) hB hz]
        simp only [Int.mul_comm]
    rw [List.foldl_cons, es]
    refine along_fr hb w _ ?_ fun d hd => hc d (List.mem_cons_of_mem _ hd)
    unfold alongStep
    split <;> exact Int.mul_pos hz hB
theorem fix_fr {t : Abs} (hb : 0 < t.b) (hab : t.b < t.a) {w : List Nat} (hw : w ≠ []) (hc : ∀ c ∈ w, c = 0 ∨ c = 2) : div (t.along w).2 (minus one (t.along w).1) = fr (fixI t.a t.b (ofN w)) ∧ 0 < (fixI t.a t.b (ofN w)).2 := by
  have e : t.along w = trF (alongI t.a t.b (ofN w) (1, 0, 1)) := along_fr hb w (1, 0, 1) (by decide) hc
  obtain ⟨o1, o2⟩ := along_okL (a := t.a) (b := t.b) (by omega) (by omega) (ofN w) (1, 0, 1) ok_one
  have o2 := o2 (by cases w with | nil => exact absurd rfl hw | cons c w => exact List.cons_ne_nil _ _)
  have hp := fix_pos o1 o2
  refine ⟨?_, hp⟩
  rw [e]
  unfold fixI at hp ⊢
  generalize alongI t.a t.b (ofN w) (1, 0, 1) = z at *
  have h1 := o1.ov
  unfold trF
  dsimp only
  rw [from_one (z.1, z.2.2) h1, div_fr (z.2.1, z.2.2) (z.2.2 - z.1, z.2.2) h1 h1 (by show z.2.2 - z.1 ≠ 0; omega)]
  unfold fixOf at hp ⊢
  by_cases c : z.1 < 0
  · rw [if_pos c] at hp
    rw [if_pos (show 0 < z.2.2 - z.1 by omega), if_pos c]
    refine fr_congr (Int.mul_pos h1 (show 0 < z.2.2 - z.1 by omega)) hp ?_
    show z.2.1 * z.2.2 * (z.2.2 - z.1) = z.2.1 * (z.2.2 * (z.2.2 - z.1))
    grind
  · rw [if_neg c] at hp
    rw [if_neg (show ¬ 0 < z.2.2 - z.1 by omega), if_neg c]
    refine fr_congr (Int.mul_pos h1 (show 0 < -(z.2.2 - z.1) by omega)) hp ?_
    show -(z.2.1 * z.2.2) * (z.1 - z.2.2) = -z.2.1 * (z.2.2 * -(z.2.2 - z.1))
    grind
theorem ofN_inj : ∀ {u v : List Nat}, ofN u = ofN v → u = v
  | [], [], _ => rfl
  | [], _ :: _, h => by cases h
  | _ :: _, [], h => by cases h
  | x :: u, y :: v, h => by
    obtain ⟨e1, e2⟩ := List.cons.inj (show (x : Int) :: ofN u = (y : Int) :: ofN v from h)
    rw [ofN_inj e2, show x = y by omega]
theorem ofN_sides {w : List Nat} (hc : ∀ c ∈ w, c = 0 ∨ c = 2) : ∀ c ∈ ofN w, c = 0 ∨ c = 2 := by
  intro c h
  obtain ⟨n, hn, e⟩ := List.mem_map.mp h
  have := hc n hn
  omega
theorem comes_I {t : Abs} (hb : 0 < t.b) (hab : t.b < t.a) {w : List Nat} (hw : w ≠ []) (hc : ∀ c ∈ w, c = 0 ∨ c = 2) :
    t.comes w = if rowI t.a t.b (fixI t.a t.b (ofN w)) (ofN w).length = ofN w then some (fr (fixI t.a t.b (ofN w))) else none := by
  obtain ⟨e, hp⟩ := fix_fr hb hab hw hc
  unfold Abs.comes
  dsimp only
  rw [e, zero_fr, one_fr, le_fr (0, 1) _ (by decide) hp, le_fr _ (1, 1) hp (by decide)]
  have er := row_fr hb w.length _ hp
  have hw' : ofN w ≠ [] := by cases w with | nil => exact absurd rfl hw | cons c w => exact List.cons_ne_nil _ _
  have hin := fix_in (a := t.a) (b := t.b) (by omega) (by omega) hw' (ofN_sides hc)
  rw [ofN_len] at hin ⊢
  by_cases c : rowI t.a t.b (fixI t.a t.b (ofN w)) w.length = ofN w
  · obtain ⟨i1, i2⟩ := hin c
    rw [if_pos c, if_pos]
    have e3 : t.row (fr (fixI t.a t.b (ofN w))) w.length = w := ofN_inj (er.trans c)
    simp only [Bool.and_eq_true, decide_eq_true_eq, beq_iff_eq]
    exact ⟨by omega, by omega, e3⟩
  · rw [if_neg c, if_neg]
    intro z
    simp only [Bool.and_eq_true, decide_eq_true_eq, beq_iff_eq] at z
    exact c (er.symm.trans (congrArg ofN z.2.2))
end Ft

set_option Elab.async false
set_option linter.all false
namespace Ft
open Su185
/-! ### laps: places strictly within the pieces, against the places that come onto one -/
def inn (y : Frac) (p : Frac × Frac) : Bool := lt p.1 y && lt y p.2
def cutF (t : Abs) (p : Frac × Frac) : List (Frac × Frac) := if lt p.1 half && lt half p.2 = true then [(t.put p.1, t.top), (t.put p.2, t.top)] else [(minF (t.put p.1) (t.put p.2), maxF (t.put p.1) (t.put p.2))]
theorem images_succ (t : Abs) (k : Nat) : t.images (k + 1) = (t.images k).flatMap (cutF t) := rfl
/-- a piece of the line -/
def OkP (p : Frac × Frac) : Prop := ∃ x u : Int × Int, p = (fr x, fr u) ∧ 0 < x.2 ∧ 0 < u.2 ∧ 0 ≤ x.1 ∧ x.1 * u.2 ≤ u.1 * x.2 ∧ u.1 ≤ u.2
theorem inn_fr (y x u : Int × Int) (hy : 0 < y.2) (hx : 0 < x.2) (hu : 0 < u.2) : inn (fr y) (fr x, fr u) = decide (x.1 * y.2 < y.1 * x.2 ∧ y.1 * u.2 < u.1 * y.2) := by
  unfold inn
  rw [lt_fr x y hx hy, lt_fr y u hy hu, Bool.decide_and]
theorem mn_mx (x u : Int × Int) (hx : 0 < x.2) (hu : 0 < u.2) (h : x.1 * u.2 ≤ u.1 * x.2) : minF (fr x) (fr u) = fr x ∧ maxF (fr x) (fr u) = fr u ∧ minF (fr u) (fr x) = fr x ∧ maxF (fr u) (fr x) = fr u := by
  unfold minF maxF
  rw [lt_fr u x hu hx, lt_fr x u hx hu, decide_eq_false (by omega)]
  by_cases c : x.1 * u.2 < u.1 * x.2
  · rw [decide_eq_true c]
    exact ⟨rfl, rfl, rfl, rfl⟩
  · have e : fr x = fr u := fr_congr hx hu (by omega)
    rw [decide_eq_false c, e]
    exact ⟨rfl, rfl, rfl, rfl⟩
/-- where the two ends of a piece are put -/
inductive Cut (t : Abs) (x u : Int × Int) : Prop
  | mid (h1 : 2 * x.1 < x.2) (h2 : u.2 < 2 * u.1) (e : cutF t (fr x, fr u) = [(fr (x.1 * t.a, x.2 * t.b), fr ((t.a : Int), 2 * (t.b : Int))), (fr ((u.2 - u.1) * t.a, u.2 * t.b), fr ((t.a : Int), 2 * (t.b : Int)))])
  | left (h : 2 * u.1 ≤ u.2) (e : cutF t (fr x, fr u) = [(fr (x.1 * t.a, x.2 * t.b), fr (u.1 * t.a, u.2 * t.b))])
  | right (h : x.2 ≤ 2 * x.1) (e : cutF t (fr x, fr u) = [(fr ((u.2 - u.1) * t.a, u.2 * t.b), fr ((x.2 - x.1) * t.a, x.2 * t.b))])
theorem le_half {x u : Int × Int} (hx : 0 < x.2) (hu : 0 < u.2) (h : x.1 * u.2 ≤ u.1 * x.2) (g : 2 * u.1 ≤ u.2) : 2 * x.1 ≤ x.2 := by
  have p : 2 * u.1 * x.2 ≤ u.2 * x.2 := Int.mul_le_mul_of_nonneg_right g (by omega)
  have q : (2 * x.1) * u.2 ≤ x.2 * u.2 := by grind
  exact Int.le_of_mul_le_mul_right q hu
theorem ge_half {x u : Int × Int} (hx : 0 < x.2) (hu : 0 < u.2) (h : x.1 * u.2 ≤ u.1 * x.2) (g : x.2 ≤ 2 * x.1) : u.2 ≤ 2 * u.1 := by
  have p : x.2 * u.2 ≤ 2 * x.1 * u.2 := Int.mul_le_mul_of_nonneg_right g (by omega)
  have q : u.2 * x.2 ≤ (2 * u.1) * x.2 := by grind
  exact Int.le_of_mul_le_mul_right q hx
theorem put_l {a b : Int} {x : Int × Int} (h : 2 * x.1 ≤ x.2) : putP a b x = (x.1 * a, x.2 * b) := by
  unfold putP
  rw [if_pos h]
theorem put_r {a b : Int} {x : Int × Int} (h : x.2 ≤ 2 * x.1) : putP a b x = ((x.2 - x.1) * a, x.2 * b) := by
  unfold putP
  by_cases c : 2 * x.1 ≤ x.2
  · rw [if_pos c, show x.2 - x.1 = x.1 by omega]
  · rw [if_neg c]
theorem cut_of {t : Abs} (hb : 0 < t.b) (ha : 0 < t.a) {x u : Int × Int} (hx : 0 < x.2) (hu : 0 < u.2) (h : x.1 * u.2 ≤ u.1 * x.2) : Cut t x u := by
  have hA : (0 : Int) < (t.a : Int) := by omega
  have hB : (0 : Int) < (t.b : Int) := by omega
  have e1 : lt (fr x) half = decide (2 * x.1 < x.2) := by
    rw [half_fr, lt_fr x (1, 2) hx (by decide)]
    exact decide_eq_decide.mpr (by show x.1 * 2 < 1 * x.2 ↔ _; omega)
  have e2 : lt half (fr u) = decide (u.2 < 2 * u.1) := by
    rw [half_fr, lt_fr (1, 2) u (by decide) hu]
    exact decide_eq_decide.mpr (by show 1 * u.2 < u.1 * 2 ↔ _; omega)
  have ex := put_fr hb x hx
  have eu := put_fr hb u hu
  by_cases c1 : 2 * x.1 < x.2
  · by_cases c2 : u.2 < 2 * u.1
    · refine .mid c1 c2 ?_
      unfold cutF
      dsimp only
      rw [e1, e2, if_pos (by simp [c1, c2]), ex, eu, put_l (by omega), put_r (by omega), top_pair hb]
    · refine .left (by omega) ?_
      unfold cutF
      dsimp only
      rw [e1, e2, if_neg (by simp [c1, c2]), ex, eu, put_l (x := x) (by omega), put_l (x := u) (by omega)]
      have m := mn_mx (x.1 * t.a, x.2 * t.b) (u.1 * t.a, u.2 * t.b) (Int.mul_pos hx hB) (Int.mul_pos hu hB) (by
        show x.1 * t.a * (u.2 * t.b) ≤ u.1 * t.a * (x.2 * t.b)
        have q : (x.1 * u.2) * ((t.a : Int) * t.b) ≤ (u.1 * x.2) * ((t.a : Int) * t.b) := Int.mul_le_mul_of_nonneg_right h (Int.le_of_lt (Int.mul_pos hA hB))
        grind)
      rw [m.1, m.2.1]
  · have c3 := ge_half hx hu h (by omega)
    refine .right (by omega) ?_
    unfold cutF
    dsimp only
    rw [e1, e2, if_neg (by simp [c1]), ex, eu, put_r (x := x) (by omega), put_r (x := u) (by omega)]
    have m := mn_mx ((u.2 - u.1) * t.a, u.2 * t.b) ((x.2 - x.1) * t.a, x.2 * t.b) (Int.mul_pos hu hB) (Int.mul_pos hx hB) (by
      show (u.2 - u.1) * t.a * (x.2 * t.b) ≤ (x.2 - x.1) * t.a * (u.2 * t.b)
      have q : (x.1 * u.2) * ((t.a : Int) * t.b) ≤ (u.1 * x.2) * ((t.a : Int) * t.b) := Int.mul_le_mul_of_nonneg_right h (Int.le_of_lt (Int.mul_pos hA hB))
      grind)
    rw [m.2.2.1, m.2.2.2]
/-- pieces are put onto pieces -/
theorem cut_okP {t : Abs} (hb : 0 < t.b) (hab : t.b < t.a) (h2 : t.a ≤ 2 * t.b) {p : Frac × Frac} (h : OkP p) : ∀ q ∈ cutF t p, OkP q := by
  obtain ⟨x, u, rfl, hx, hu, h0, h, h1⟩ := h
  have hA : (0 : Int) < (t.a : Int) := by omega
  have hB : (0 : Int) < (t.b : Int) := by omega
  have hAB : (t.a : Int) ≤ 2 * (t.b : Int) := by omega
  intro q hq
  cases cut_of hb (by omega) hx hu h with
  | mid c1 c2 e =>
    rw [e] at hq
    simp only [List.mem_cons, List.not_mem_nil, or_false] at hq
    rcases hq with rfl | rfl
    · refine ⟨_, _, rfl, Int.mul_pos hx hB, (by show (0 : Int) < 2 * t.b; omega), Int.mul_nonneg h0 (by omega), ?_, hAB⟩
      show x.1 * t.a * (2 * t.b) ≤ t.a * (x.2 * t.b)
      have q : (2 * x.1) * ((t.a : Int) * t.b) ≤ x.2 * ((t.a : Int) * t.b) := Int.mul_le_mul_of_nonneg_right (by omega) (Int.le_of_lt (Int.mul_pos hA hB))
      grind
    · refine ⟨_, _, rfl, Int.mul_pos hu hB, (by show (0 : Int) < 2 * t.b; omega), Int.mul_nonneg (by omega) (by omega), ?_, hAB⟩
      show (u.2 - u.1) * t.a * (2 * t.b) ≤ t.a * (u.2 * t.b)
      have q : (2 * (u.2 - u.1)) * ((t.a : Int) * t.b) ≤ u.2 * ((t.a : Int) * t.b) := Int.mul_le_mul_of_nonneg_right (by omega) (Int.le_of_lt (Int.mul_pos hA hB))
      grind
  | left c e =>
    rw [e] at hq
    simp only [List.mem_cons, List.not_mem_nil, or_false] at hq
    subst hq
    have hu0 : 0 ≤ u.1 := by
      rcases Int.lt_or_le u.1 0 with z | z
      · have z1 : u.1 * x.2 < 0 := Int.mul_neg_of_neg_of_pos z hx
        have z2 : 0 ≤ x.1 * u.2 := Int.mul_nonneg h0 (by omega)
        omega
      · exact z
    refine ⟨_, _, rfl, Int.mul_pos hx hB, Int.mul_pos hu hB, Int.mul_nonneg h0 (by omega), ?_, ?_⟩
    · show x.1 * t.a * (u.2 * t.b) ≤ u.1 * t.a * (x.2 * t.b)
      have q : (x.1 * u.2) * ((t.a : Int) * t.b) ≤ (u.1 * x.2) * ((t.a : Int) * t.b) := Int.mul_le_mul_of_nonneg_right h (Int.le_of_lt (Int.mul_pos hA hB))
      grind
    · show u.1 * (t.a : Int) ≤ u.2 * t.b
      have q1 : u.1 * (t.a : Int) ≤ u.1 * (2 * (t.b : Int)) := Int.mul_le_mul_of_nonneg_left hAB hu0
      have q2 : (2 * u.1) * (t.b : Int) ≤ u.2 * t.b := Int.mul_le_mul_of_nonneg_right c (by omega)
      grind
  | right c e =>
    rw [e] at hq
    simp only [List.mem_cons, List.not_mem_nil, or_false] at hq
    subst hq
    have hx1 : x.1 ≤ x.2 := by
      have z1 : x.1 * u.2 ≤ x.2 * u.2 := by
        have z2 : u.1 * x.2 ≤ u.2 * x.2 := Int.mul_le_mul_of_nonneg_right h1 (by omega)
        grind
      exact Int.le_of_mul_le_mul_right z1 hu
    refine ⟨_, _, rfl, Int.mul_pos hu hB, Int.mul_pos hx hB, Int.mul_nonneg (by omega) (by omega), ?_, ?_⟩
    · show (u.2 - u.1) * t.a * (x.2 * t.b) ≤ (x.2 - x.1) * t.a * (u.2 * t.b)
      have q : (x.1 * u.2) * ((t.a : Int) * t.b) ≤ (u.1 * x.2) * ((t.a : Int) * t.b) := Int.mul_le_mul_of_nonneg_right h (Int.le_of_lt (Int.mul_pos hA hB))
      grind
    · show (x.2 - x.1) * (t.a : Int) ≤ x.2 * t.b
      have q1 : (x.2 - x.1) * (t.a : Int) ≤ (x.2 - x.1) * (2 * (t.b : Int)) := Int.mul_le_mul_of_nonneg_left hAB (by omega)
      have q2 : (2 * (x.2 - x.1)) * (t.b : Int) ≤ x.2 * t.b := Int.mul_le_mul_of_nonneg_right (by omega) (by omega)
      grind
theorem images_ok {t : Abs} (hb : 0 < t.b) (hab : t.b < t.a) (h2 : t.a ≤ 2 * t.b) : ∀ k, ∀ p ∈ t.images k, OkP p
  | 0, p, h => by
    have e : p = (zero, one) := by simpa [Abs.images] using h
    exact ⟨(0, 1), (1, 1), e, by decide, by decide, by decide, by decide, by decide⟩
  | k + 1, p, h => by
    rw [images_succ] at h
    obtain ⟨q, hq, hm⟩ := List.mem_flatMap.mp h
    exact cut_okP hb hab h2 (images_ok hb hab h2 k q hq) p hm
def b2n (b : Bool) : Nat := if b then 1 else 0
theorem countP1 (P : Frac × Frac → Bool) (p : Frac × Frac) : [p].countP P = b2n (P p) := by
  simp [List.countP_cons, b2n]
theorem countP2 (P : Frac × Frac → Bool) (p q : Frac × Frac) : [p, q].countP P = b2n (P p) + b2n (P q) := by
  simp [List.countP_cons, b2n, Nat.add_comm]
theorem b2n_dec (P Q : Prop) [Decidable P] [Decidable Q] (h : P ↔ Q) : b2n (decide P) = b2n (decide Q) := by rw [decide_eq_decide.mpr h]
theorem b2n_no (P : Prop) [Decidable P] (h : ¬ P) : b2n (decide P) = 0 := by rw [decide_eq_false h]; rfl
/-- one piece -/
theorem cut_count {t : Abs} (hb : 0 < t.b) (hab : t.b < t.a) {p : Frac × Frac} (h : OkP p) (y : Int × Int) (hy : 0 < y.2) :
    (cutF t p).countP (inn (fr y)) = if 2 * (y.1 * t.b) < y.2 * t.a then b2n (inn (fr (y.1 * t.b, y.2 * t.a)) p) + b2n (inn (fr (y.2 * t.a - y.1 * t.b, y.2 * t.a)) p) else 0 := by
  obtain ⟨x, u, rfl, hx, hu, h0, h, h1⟩ := h
  have hA : (0 : Int) < (t.a : Int) := by omega
  have hB : (0 : Int) < (t.b : Int) := by omega
  have hya : 0 < y.2 * (t.a : Int) := Int.mul_pos hy hA
  rw [inn_fr (y.1 * t.b, y.2 * t.a) x u hya hx hu, inn_fr (y.2 * t.a - y.1 * t.b, y.2 * t.a) x u hya hx hu]
  dsimp only
  have n1 : x.1 * (t.a : Int) * y.2 = x.1 * (y.2 * t.a) := by grind
  have n2 : y.1 * (x.2 * (t.b : Int)) = y.1 * t.b * x.2 := by grind
  have n3 : u.1 * (t.a : Int) * y.2 = u.1 * (y.2 * t.a) := by grind
  have n4 : y.1 * (u.2 * (t.b : Int)) = y.1 * t.b * u.2 := by grind
  have n5 : y.1 * (2 * (t.b : Int)) = 2 * (y.1 * t.b) := by grind
  have n6 : (t.a : Int) * y.2 = y.2 * t.a := by grind
  have n7 : (u.2 - u.1) * (t.a : Int) * y.2 = u.2 * (y.2 * t.a) - u.1 * (y.2 * t.a) := by grind
  have n8 : (x.2 - x.1) * (t.a : Int) * y.2 = x.2 * (y.2 * t.a) - x.1 * (y.2 * t.a) := by grind
  have n9 : (y.2 * (t.a : Int) - y.1 * t.b) * x.2 = x.2 * (y.2 * t.a) - y.1 * t.b * x.2 := by grind
  have n10 : (y.2 * (t.a : Int) - y.1 * t.b) * u.2 = u.2 * (y.2 * t.a) - y.1 * t.b * u.2 := by grind
  rw [n9, n10]
  have m1 : 2 * (y.1 * t.b) < y.2 * t.a → 2 * (y.1 * t.b * x.2) < x.2 * (y.2 * t.a) := fun q => by
    have := Int.mul_lt_mul_of_pos_right q hx
    grind
  have m2 : 2 * (y.1 * t.b) < y.2 * t.a → 2 * (y.1 * t.b * u.2) < u.2 * (y.2 * t.a) := fun q => by
    have := Int.mul_lt_mul_of_pos_right q hu
    grind
  have m3 : ¬ 2 * (y.1 * t.b) < y.2 * t.a → x.2 * (y.2 * t.a) ≤ 2 * (y.1 * t.b * x.2) := fun q => by
    have := Int.mul_le_mul_of_nonneg_right (Int.not_lt.mp q) (Int.le_of_lt hx)
    grind
  have m4 : ¬ 2 * (y.1 * t.b) < y.2 * t.a → u.2 * (y.2 * t.a) ≤ 2 * (y.1 * t.b * u.2) := fun q => by
    have := Int.mul_le_mul_of_nonneg_right (Int.not_lt.mp q) (Int.le_of_lt hu)
    grind
  cases cut_of hb (by omega) hx hu h with
  | mid c1 c2 e =>
    have k1 : 2 * (x.1 * (y.2 * t.a)) < x.2 * (y.2 * t.a) := by
      have := Int.mul_lt_mul_of_pos_right c1 hya
      grind
    have k2 : u.2 * (y.2 * t.a) < 2 * (u.1 * (y.2 * t.a)) := by
      have := Int.mul_lt_mul_of_pos_right c2 hya
      grind
    rw [e, countP2, inn_fr y _ _ hy (Int.mul_pos hx hB) (by show (0 : Int) < 2 * t.b; omega), inn_fr y _ _ hy (Int.mul_pos hu hB) (by show (0 : Int) < 2 * t.b; omega)]
    dsimp only
    rw [n1, n2, n5, n6, n7, n4]
    by_cases c : 2 * (y.1 * t.b) < y.2 * t.a
    · have m1 := m1 c
      have m2 := m2 c
      rw [if_pos c]
      congr 1
      · exact b2n_dec _ _ (by omega)
      · exact b2n_dec _ _ (by omega)
    · rw [if_neg c, b2n_no _ (by omega), b2n_no _ (by omega)]
  | left c0 e =>
    have k2 : 2 * (u.1 * (y.2 * t.a)) ≤ u.2 * (y.2 * t.a) := by
      have := Int.mul_le_mul_of_nonneg_right c0 (Int.le_of_lt hya)
      grind
    rw [e, countP1, inn_fr y _ _ hy (Int.mul_pos hx hB) (Int.mul_pos hu hB)]
    dsimp only
    rw [n1, n2, n3, n4]
    by_cases c : 2 * (y.1 * t.b) < y.2 * t.a
    · have m2 := m2 c
      rw [if_pos c, b2n_no (x.1 * (y.2 * t.a) < x.2 * (y.2 * t.a) - y.1 * t.b * x.2 ∧ _) (by omega), Nat.add_zero]
    · have m4 := m4 c
      rw [if_neg c, b2n_no _ (by omega)]
  | right c0 e =>
    have k1 : x.2 * (y.2 * t.a) ≤ 2 * (x.1 * (y.2 * t.a)) := by
      have := Int.mul_le_mul_of_nonneg_right c0 (Int.le_of_lt hya)
      grind
    rw [e, countP1, inn_fr y _ _ hy (Int.mul_pos hu hB) (Int.mul_pos hx hB)]
    dsimp only
    rw [n7, n4, n2, n8]
    by_cases c : 2 * (y.1 * t.b) < y.2 * t.a
    · have m1 := m1 c
      rw [if_pos c, b2n_no (x.1 * (y.2 * t.a) < y.1 * t.b * x.2 ∧ _) (by omega), Nat.zero_add]
      exact b2n_dec _ _ (by omega)
    · have m3 := m3 c
      rw [if_neg c, b2n_no _ (by omega)]
theorem cut_countL {t : Abs} (hb : 0 < t.b) (hab : t.b < t.a) (y : Int × Int) (hy : 0 < y.2) : ∀ l : List (Frac × Frac), (∀ p ∈ l, OkP p) →
    (l.flatMap (cutF t)).countP (inn (fr y)) = if 2 * (y.1 * t.b) < y.2 * t.a then l.countP (inn (fr (y.1 * t.b, y.2 * t.a))) + l.countP (inn (fr (y.2 * t.a - y.1 * t.b, y.2 * t.a))) else 0
  | [], _ => by
    simp
  | p :: l, h => by
    have ih := cut_countL hb hab y hy l fun q hq => h q (List.mem_cons_of_mem _ hq)
    rw [List.flatMap_cons, List.countP_append, ih, cut_count hb hab (h p List.mem_cons_self) y hy]
    have e : ∀ P : Frac × Frac → Bool, (p :: l).countP P = b2n (P p) + l.countP P := fun P => by
      rw [List.countP_cons, Nat.add_comm]
      rfl
    rw [e, e]
    split
    · omega
    · rfl
/-- so many pieces more as hold the middle -/
theorem cut_len {t : Abs} {l : List (Frac × Frac)} : (l.flatMap (cutF t)).length = l.length + l.countP (inn half) := by
  induction l with
  | nil => rfl
  | cons p l ih =>
    rw [List.flatMap_cons, List.length_append, ih, List.countP_cons, List.length_cons]
    have e : (cutF t p).length = 1 + if inn half p = true then 1 else 0 := by
      unfold cutF inn
      by_cases c : (lt p.1 half && lt half p.2) = true
      · rw [if_pos c, if_pos (by simpa using c)]
        rfl
      · rw [if_neg c, if_neg (by simpa using c)]
        rfl
    rw [e]
    omega
def iterB (a b : Int) : Nat → List (Int × Int) → List (Int × Int)
  | 0, l => l
  | k + 1, l => iterB a b k (beforeI a b l)
theorem iterB_succ (a b : Int) : ∀ (k : Nat) (l : List (Int × Int)), iterB a b (k + 1) l = beforeI a b (iterB a b k l)
  | 0, _ => rfl
  | k + 1, l => iterB_succ a b k (beforeI a b l)
theorem reach_B (a b : Int) : ∀ k, reachI a b k = iterB a b k [(1, 2)]
  | 0 => rfl
  | k + 1 => by
    rw [iterB_succ, ← reach_B a b k]
    rfl
def OkY (y : Int × Int) : Prop := 0 < y.1 ∧ y.1 < y.2
theorem before_ok {a b : Int} (ha : 0 < a) (hb : 0 < b) {l : List (Int × Int)} (h : ∀ y ∈ l, OkY y) : ∀ y ∈ beforeI a b l, OkY y := by
  intro y hy
  obtain ⟨z, hz, hm⟩ := List.mem_flatMap.mp hy
  obtain ⟨z1, z2⟩ := h z hz
  have p1 : 0 < z.1 * b := Int.mul_pos z1 hb
  unfold before1 at hm
  split at hm
  · rename_i c
    simp only [List.mem_cons, List.not_mem_nil, or_false] at hm
    rcases hm with rfl | rfl
    · exact ⟨p1, by show z.1 * b < z.2 * a; omega⟩
    · exact ⟨by show 0 < z.2 * a - z.1 * b; omega, by show z.2 * a - z.1 * b < z.2 * a; omega⟩
  · cases hm
theorem sum_before {t : Abs} (f : Int × Int → Nat) (g : Int × Int → Nat) : ∀ l : List (Int × Int), (∀ y ∈ l, g y = if 2 * (y.1 * (t.b : Int)) < y.2 * t.a then f (y.1 * t.b, y.2 * t.a) + f (y.2 * t.a - y.1 * t.b, y.2 * t.a) else 0) → ((beforeI t.a t.b l).map f).sum = (l.map g).sum
  | [], _ => rfl
  | y :: l, h => by
    have ih := sum_before f g l fun z hz => h z (List.mem_cons_of_mem _ hz)
    unfold beforeI at ih ⊢
    rw [List.flatMap_cons, List.map_append, List.sum_append, ih, List.map_cons, List.sum_cons, h y List.mem_cons_self]
    congr 1
    unfold before1
    split
    · simp
    · rfl
theorem len_sum1 {A : Type} (f : A → Nat) : ∀ l : List A, (∀ y ∈ l, f y = 1) → l.length = (l.map f).sum
  | [], _ => rfl
  | y :: l, h => by
    rw [List.length_cons, List.map_cons, List.sum_cons, h y List.mem_cons_self, len_sum1 f l fun z hz => h z (List.mem_cons_of_mem _ hz), Nat.add_comm]
theorem iterB_len {t : Abs} (hb : 0 < t.b) (hab : t.b < t.a) (h2 : t.a ≤ 2 * t.b) : ∀ (k : Nat) (l : List (Int × Int)), (∀ y ∈ l, OkY y) → (iterB t.a t.b k l).length = (l.map fun y => (t.images k).countP (inn (fr y))).sum
  | 0, l, h => by
    refine len_sum1 _ l fun y hy => ?_
    obtain ⟨y1, y2⟩ := h y hy
    show [(zero, one)].countP (inn (fr y)) = 1
    rw [countP1, zero_fr, one_fr, inn_fr y (0, 1) (1, 1) (by omega) (by decide) (by decide), decide_eq_true (by show (0 : Int) * y.2 < y.1 * 1 ∧ y.1 * 1 < 1 * y.2; omega)]
    rfl
  | k + 1, l, h => by
    show (iterB t.a t.b k (beforeI t.a t.b l)).length = _
    rw [iterB_len hb hab h2 k _ (before_ok (by omega) (by omega) h)]
    refine sum_before _ _ l fun y hy => ?_
    obtain ⟨y1, y2⟩ := h y hy
    exact cut_countL hb hab y (by omega) (t.images k) (images_ok hb hab h2 k)
theorem reach_len {t : Abs} (hb : 0 < t.b) (hab : t.b < t.a) (h2 : t.a ≤ 2 * t.b) (k : Nat) : (reachI t.a t.b k).length = (t.images k).countP (inn half) := by
  rw [reach_B, iterB_len hb hab h2 k [(1, 2)] (by
    intro y hy
    simp only [List.mem_cons, List.not_mem_nil, or_false] at hy
    subst hy
    exact ⟨by decide, by decide⟩)]
  show (t.images k).countP (inn (fr (1, 2))) + 0 = _
  rw [← half_fr, Nat.add_zero]
theorem laps_I {t : Abs} (hb : 0 < t.b) (hab : t.b < t.a) (h2 : t.a ≤ 2 * t.b) : ∀ k, t.laps (k + 1) = foldsI t.a t.b k + 1
  | 0 => by
    show (t.images 1).length = 1 + 1
    rw [images_succ, cut_len, ← reach_len hb hab h2 0]
    rfl
  | k + 1 => by
    have ih := laps_I hb hab h2 k
    unfold Abs.laps at ih ⊢
    rw [images_succ, cut_len, ih, ← reach_len hb hab h2 (k + 1)]
    show _ = foldsI t.a t.b k + (reachI t.a t.b (k + 1)).length + 1
    omega
end Ft

set_option Elab.async false
set_option linter.all false
namespace Ft
open Su185
/-! ### rounds -/
theorem cmp_three : ∀ (u v : List Int) (o : Bool), cmpI u v o = 0 ∨ cmpI u v o = 1 ∨ cmpI u v o = 2
  | [], v, o => Or.inr (Or.inl (by cases v <;> rfl))
  | _ :: _, [], o => Or.inr (Or.inl rfl)
  | x :: u, y :: v, o => by
    unfold cmpI
    split
    · exact cmp_three u v _
    · split
      · exact Or.inl rfl
      · exact Or.inr (Or.inr rfl)
/-- turned round -/
theorem cmp_turn : ∀ (u v : List Int) (o : Bool), cmpI u v o = 2 ↔ cmpI v u o = 0
  | [], v, o => by cases v <;> simp [cmpI]
  | _ :: _, [], o => by simp [cmpI]
  | x :: u, y :: v, o => by
    have ih := cmp_turn u v (o != (x == 2))
    unfold cmpI
    by_cases c : x = y
    · subst c
      rw [if_pos rfl, if_pos rfl]
      exact ih
    · rw [if_neg c, if_neg (show ¬ y = x from fun e => c e.symm)]
      rcases Int.lt_or_le x y with l | l
      · rw [decide_eq_true l, decide_eq_false (show ¬ y < x by omega)]
        cases o <;> decide
      · rw [decide_eq_false (show ¬ x < y by omega), decide_eq_true (show y < x by omega)]
        cases o <;> decide
theorem cmp_self : ∀ (u : List Int) (o : Bool), cmpI u u o = 1
  | [], _ => rfl
  | x :: u, o => by
    unfold cmpI
    rw [if_pos rfl]
    exact cmp_self u _
theorem cmp_same : ∀ (u v : List Int) (o : Bool), u.length = v.length → cmpI u v o = 1 → u = v
  | [], [], _, _, _ => rfl
  | [], _ :: _, _, h, _ => by cases h
  | _ :: _, [], _, h, _ => by cases h
  | x :: u, y :: v, o, h, e => by
    unfold cmpI at e
    by_cases c : x = y
    · rw [if_pos c] at e
      rw [c, cmp_same u v _ (by simpa using h) e]
    · rw [if_neg c] at e
      split at e <;> cases e
theorem turn_len {A : Type} (w : List A) (i : Nat) : (w.drop i ++ w.take i).length = w.length := by
  rw [List.length_append, List.length_drop, List.length_take]
  omega
theorem ofN_app (u v : List Nat) : ofN (u ++ v) = ofN u ++ ofN v := List.map_append
theorem above_I (w : List Nat) : (own w && (List.range w.length).all fun i => order (w.drop i ++ w.take i) w false != 2) = aboveI (ofN w) := by
  unfold own aboveI
  rw [Bool.eq_iff_iff, Bool.and_eq_true, List.all_eq_true, List.all_eq_true, List.all_eq_true, ofN_len]
  constructor
  · rintro ⟨h1, h2⟩ i hi
    have hi := List.mem_range.mp hi
    have g1 := h1 (1 + i) (List.mem_range.mpr (by omega))
    have g2 := h2 (1 + i) (List.mem_range.mpr (by omega))
    simp only [Bool.or_eq_true, beq_iff_eq, bne_iff_ne] at g1 g2
    have g1 : w.drop (1 + i) ++ w.take (1 + i) ≠ w := by
      rcases g1 with g | g
      · omega
      · exact g
    rw [ofN_drop, ofN_take, ← ofN_app, decide_eq_true_eq, cmp_turn]
    have e := order_I (w.drop (1 + i) ++ w.take (1 + i)) w false
    rcases cmp_three (ofN (w.drop (1 + i) ++ w.take (1 + i))) (ofN w) false with q | q | q
    · exact q
    · exact absurd (ofN_inj (cmp_same _ _ _ (by rw [ofN_len, ofN_len, turn_len]) q)) g1
    · rw [q] at e
      omega
  · intro h
    have key : ∀ i, 0 < i → i < w.length → cmpI (ofN (w.drop i ++ w.take i)) (ofN w) false = 0 := fun i h0 hi => by
      have g := h (i - 1) (List.mem_range.mpr (by omega))
      rw [show 1 + (i - 1) = i by omega, ofN_drop, ofN_take, ← ofN_app, decide_eq_true_eq, cmp_turn] at g
      exact g
    constructor
    · intro i hi
      have hi := List.mem_range.mp hi
      simp only [Bool.or_eq_true, beq_iff_eq, bne_iff_ne]
      by_cases c : i = 0
      · exact Or.inl c
      · refine Or.inr fun e => ?_
        have g := key i (by omega) hi
        rw [e, cmp_self] at g
        cases g
    · intro i hi
      have hi := List.mem_range.mp hi
      simp only [bne_iff_ne]
      have e := order_I (w.drop i ++ w.take i) w false
      by_cases c : i = 0
      · subst c
        rw [List.drop_zero, List.take_zero, List.append_nil, cmp_self] at e
        rw [List.drop_zero, List.take_zero, List.append_nil]
        omega
      · rw [key i (by omega) hi] at e
        omega
theorem words_sides : ∀ (k : Nat) (w : List Nat), w ∈ words k → ∀ c ∈ w, c = 0 ∨ c = 2
  | 0, w, h, c, hc => by
    have e : w = [] := by simpa [words] using h
    rw [e] at hc
    cases hc
  | k + 1, w, h, c, hc => by
    obtain ⟨v, hv, hm⟩ := List.mem_flatMap.mp (show w ∈ (words k).flatMap fun w => [0 :: w, 2 :: w] from h)
    have ih := words_sides k v hv
    simp only [List.mem_cons, List.not_mem_nil, or_false] at hm
    rcases hm with rfl | rfl
    · rcases List.mem_cons.mp hc with rfl | hc
      · exact Or.inl rfl
      · exact ih c hc
    · rcases List.mem_cons.mp hc with rfl | hc
      · exact Or.inr rfl
      · exact ih c hc
theorem all_I : ∀ k, allI k = (words k).map ofN
  | 0 => rfl
  | k + 1 => by
    show aheadI (allI k) = _
    rw [all_I k, ahead_ofN]
    rfl
theorem rounds_I {t : Abs} (hb : 0 < t.b) (hab : t.b < t.a) (k : Nat) (hk : 0 < k) : roundsI t.a t.b k = (t.rounds k).map ofN := by
  unfold roundsI Abs.rounds
  rw [all_I, map_filter_ofN, map_filter_ofN, List.filter_filter]
  congr 1
  refine List.filter_congr fun w hw => ?_
  have hl := words_len k w hw
  have hs := words_sides k w hw
  have e1 := above_I w
  rw [hl] at e1
  have e2 : (comesI t.a t.b (ofN w)).isSome = (t.comes w).isSome := by
    rw [comes_I hb hab (by intro z; rw [z] at hl; simp at hl; omega) hs]
    unfold comesI
    split <;> rfl
  rw [← e1, e2]
  cases own w <;> cases (t.comes w).isSome <;> simp
end Ft

set_option Elab.async false
set_option linter.all false
set_option maxRecDepth 100000
set_option maxHeartbeats 2000000
/-! A layer of data over the hand layer: what a value stands for (Py), what a reading gives (EvR, EvB, EvA), what a block does (Go). -/
namespace Ft
open PySem PySem.Spec PyProof.Rows L2

/-! ### data -/
class Py (A : Type) where
  rep : Hp → V → A → Prop
  mono : ∀ {H H' : Hp} {v : V} {x : A}, Same H H' → rep H v x → rep H' v x

inductive All2 {A : Type} (R : V → A → Prop) : List V → List A → Prop
  | nil : All2 R [] []
  | cons {v : V} {x : A} {vs : List V} {xs : List A} : R v x → All2 R vs xs → All2 R (v :: vs) (x :: xs)

namespace All2
variable {A : Type} {R S : V → A → Prop}
theorem imp (f : ∀ v x, R v x → S v x) : ∀ {vs : List V} {xs : List A}, All2 R vs xs → All2 S vs xs
  | _, _, .nil => .nil
  | _, _, .cons h t => .cons (f _ _ h) (imp f t)
theorem len : ∀ {vs : List V} {xs : List A}, All2 R vs xs → vs.length = xs.length
  | _, _, .nil => rfl
  | _, _, .cons _ t => congrArg (· + 1) (len t)
theorem app : ∀ {vs ws : List V} {xs ys : List A}, All2 R vs xs → All2 R ws ys → All2 R (vs ++ ws) (xs ++ ys)
  | _, _, _, _, .nil, h => h
  | _, _, _, _, .cons h t, g => .cons h (app t g)
theorem snoc {vs : List V} {xs : List A} {v : V} {x : A} (h : All2 R vs xs) (g : R v x) : All2 R (vs ++ [v]) (xs ++ [x]) := app h (.cons g .nil)
theorem at_x : ∀ {vs : List V} {xs : List A} {i : Nat} {x : A}, All2 R vs xs → xs[i]? = some x → ∃ v, vs[i]? = some v ∧ R v x
  | _, _, _, _, .nil, h => by simp at h
  | _, _, 0, x, .cons (v := v) h t, g => ⟨v, rfl, by
      have e := Option.some.inj g
      rw [← e]; exact h⟩
  | _, _, i + 1, x, .cons h t, g => at_x (i := i) t g
theorem at_v : ∀ {vs : List V} {xs : List A} {i : Nat} {v : V}, All2 R vs xs → vs[i]? = some v → ∃ x, xs[i]? = some x ∧ R v x
  | _, _, _, _, .nil, h => by simp at h
  | _, _, 0, v, .cons (x := x) h t, g => ⟨x, rfl, by
      have e := Option.some.inj g
      rw [← e]; exact h⟩
  | _, _, i + 1, v, .cons h t, g => at_v (i := i) t g
theorem take : ∀ {vs : List V} {xs : List A} (n : Nat), All2 R vs xs → All2 R (vs.take n) (xs.take n)
  | _, _, 0, _ => by simpa using All2.nil
  | _, _, n + 1, .nil => .nil
  | _, _, n + 1, .cons h t => .cons h (take n t)
theorem drop : ∀ {vs : List V} {xs : List A} (n : Nat), All2 R vs xs → All2 R (vs.drop n) (xs.drop n)
  | _, _, 0, h => h
  | _, _, n + 1, .nil => .nil
  | _, _, n + 1, .cons h t => drop n t
end All2

instance pyInt : Py Int := ⟨fun _ v i => v = .int i, fun _ h => h⟩
instance pyBool : Py Bool := ⟨fun _ v b => v = .bl b, fun _ h => h⟩
instance pyList {A : Type} [Py A] : Py (List A) := ⟨fun H v xs => ∃ p vs, v = .ref p ∧ H p = some (.lst vs) ∧ All2 (Py.rep H) vs xs,
  fun s ⟨p, vs, e, h, r⟩ => ⟨p, vs, e, s _ _ h, r.imp fun _ _ => Py.mono s⟩⟩
instance pyPair {A B : Type} [Py A] [Py B] : Py (A × B) := ⟨fun H v x => ∃ p u w, v = .ref p ∧ H p = some (.tup [u, w]) ∧ Py.rep H u x.1 ∧ Py.rep H w x.2,
  fun s ⟨p, u, w, e, h, r1, r2⟩ => ⟨p, u, w, e, s _ _ h, Py.mono s r1, Py.mono s r2⟩⟩
/-- a list that is only read (what is handed in) -/
structure Scr (K : PySem.W.Frag) where
  l : List Int
instance pyScr {K : PySem.W.Frag} : Py (Scr K) := ⟨fun H v x => ∃ p, v = .ref p ∧ SqL K H p (x.l.map V.int), fun s ⟨p, e, h⟩ => ⟨p, e, s.seq h⟩⟩

theorem all2_int {H : Hp} : ∀ {vs : List V} {xs : List Int}, All2 (Py.rep H) vs xs → vs = xs.map V.int
  | _, _, .nil => rfl
  | _, _, .cons h t => by
    have e := all2_int t
    have h' : _ = V.int _ := h
    rw [e, h']
    rfl
theorem int_all2 {H : Hp} : ∀ (xs : List Int), All2 (Py.rep H) (xs.map V.int) xs
  | [] => .nil
  | x :: r => .cons rfl (int_all2 r)
theorem all2_bl {H : Hp} : ∀ {vs : List V} {xs : List Bool}, All2 (Py.rep H) vs xs → vs = xs.map V.bl
  | _, _, .nil => rfl
  | _, _, .cons h t => by
    have e := all2_bl t
    have h' : _ = V.bl _ := h
    rw [e, h']
    rfl

class Pys (A : Type) where
  reps : Hp → List V → A → Prop
  mono : ∀ {H H' : Hp} {vs : List V} {x : A}, Same H H' → reps H vs x → reps H' vs x
  len : Nat
  hlen : ∀ {H : Hp} {vs : List V} {x : A}, reps H vs x → vs.length = len
instance pysNil : Pys Unit := ⟨fun _ vs _ => vs = [], fun _ h => h, 0, fun h => by rw [h]; rfl⟩
instance pysCons {A B : Type} [Py A] [Pys B] : Pys (A × B) := ⟨fun H vs x => ∃ v r, vs = v :: r ∧ Py.rep H v x.1 ∧ Pys.reps H r x.2,
  fun s ⟨v, r, e, h, t⟩ => ⟨v, r, e, Py.mono s h, Pys.mono s t⟩, Pys.len B + 1, fun ⟨v, r, e, _, t⟩ => by
    have q := Pys.hlen t
    rw [e, List.length_cons, q]⟩

/-! ### where one stands: called over H (of which H0 is known), now over H' (of which Hs is known); what is known and was not is new -/
structure At (H0 H Hs H' : Hp) : Prop where
  all : Same H H'
  up : Same H0 Hs
  inn : Same Hs H'
  new : ∀ a, H0 a = none → H a ≠ none → Hs a = none
theorem At.refl {H0 H : Hp} (h : Same H0 H) : At H0 H H0 H := ⟨Same.refl H, Same.refl H0, h, fun _ e _ => e⟩
theorem At.trans {H0 H Hs H' Hv H2 : Hp} (a : At H0 H Hs H') (b : At Hs H' Hv H2) : At H0 H Hv H2 := ⟨a.all.trans b.all, a.up.trans b.up, b.inn, fun x e n => by
  have e1 := a.new x e n
  refine b.new x e1 fun z => n (a.all.free z)⟩
theorem At.go {H Hs H' : Hp} (s : Same H H') (a : At Hs H' H H') : Same Hs H := a.up
theorem same_new {H H' : Hp} {p : Addr} {o : HO} (s : Same H H') (h : H p = none) : Same H (upd H' p o) := fun a u e => by
  rw [upd_ne (ne_of_none e h)]
  exact s a u e
theorem At.alloc {H0 H Hs H' : Hp} (a : At H0 H Hs H') {p : Addr} {o : HO} (h : H' p = none) : At H0 H (upd Hs p o) (upd H' p o) := by
  refine ⟨same_new a.all (a.all.free h), same_new a.up (a.up.free (a.inn.free h)), fun b u e => ?_, fun b e n => ?_⟩
  · by_cases q : b = p
    · subst q
      rw [upd_same] at e ⊢
      exact e
    · rw [upd_ne q] at e ⊢
      exact a.inn b u e
  · by_cases q : b = p
    · subst q
      exact absurd (a.all.free h) n
    · rw [upd_ne q]
      exact a.new b e n
def un (A B : Hp) : Hp := fun a => match A a with
  | some o => some o
  | none => B a
theorem un_some {A B : Hp} {a : Addr} {o : HO} (h : A a = some o) : un A B a = some o := by
  unfold un
  rw [h]
theorem un_none {A B : Hp} {a : Addr} (h : A a = none) : un A B a = B a := by
  unfold un
  rw [h]
theorem At.widen {H H1 Hv H2 Hm : Hp} (a : At H H1 Hv H2) (s : Same H Hm) (s1 : Same Hm H1) : At Hm H1 (un Hv Hm) H2 ∧ Same Hv (un Hv Hm) := by
  refine ⟨⟨a.all, fun b o e => ?_, fun b o e => ?_, fun b e n => ?_⟩, fun b o e => un_some e⟩
  · cases q : Hv b with
    | none => rw [un_none q]; exact e
    | some u =>
      rw [un_some q]
      have h1 := a.inn b u q
      have h2 := a.all b o (s1 b o e)
      rw [h1] at h2
      exact h2
  · cases q : Hv b with
    | none =>
      rw [un_none q] at e
      exact a.all b o (s1 b o e)
    | some u =>
      rw [un_some q] at e
      rw [← e]
      exact a.inn b u q
  · have q := a.new b (s.free e) n
    rw [un_none q]
    exact e

/-! ### what a reading gives -/
def EvR {A : Type} [Py A] (te : TE) (st : L2.St) (H : Hp) (x : A) : Prop := ∀ H1, Same H H1 → ∀ Q : VK, (∀ v Hv H2, At H H1 Hv H2 → Py.rep Hv v x → Q v H2) → te st H1 Q
def EvB (t : TT) (st : L2.St) (H : Hp) (b : Bool) : Prop := ∀ H1, Same H H1 → ∀ Q : Bool → Hp → Prop, (∀ H2, Same H1 H2 → Q b H2) → t st H1 Q
def EvA {A : Type} [Pys A] (ta : TA) (st : L2.St) (H : Hp) (x : A) : Prop := ∀ H1, Same H H1 → ∀ Q : List V → Hp → Prop, (∀ vs Hv H2, At H H1 Hv H2 → Pys.reps Hv vs x → Q vs H2) → ta st H1 Q
def EvAl {A : Type} [Py A] (ta : TA) (st : L2.St) (H : Hp) (xs : List A) : Prop := ∀ H1, Same H H1 → ∀ Q : List V → Hp → Prop, (∀ vs Hv H2, At H H1 Hv H2 → All2 (Py.rep Hv) vs xs → Q vs H2) → ta st H1 Q
def EvO (to : TO) (st : L2.St) (H : Hp) (o : Option Int) : Prop := ∀ H1, Same H H1 → ∀ Q : Option Int → Hp → Prop, (∀ H2, Same H1 H2 → Q o H2) → to st H1 Q

section
variable {A B C : Type} [Py A] [Py B] [Py C] {st : L2.St} {H H' : Hp} {ta tb te tc : TE} {t u : TT} {x : A} {y : B} {z : C} {K : PySem.W.Frag}
theorem EvR.mono (h : EvR te st H x) (s : Same H H') : EvR te st H' x := fun H1 s1 Q q => h H1 (s.trans s1) Q fun v Hv H2 a r => by
  obtain ⟨a', s'⟩ := a.widen s s1
  exact q v _ H2 a' (Py.mono s' r)
theorem EvB.mono {b : Bool} (h : EvB t st H b) (s : Same H H') : EvB t st H' b := fun H1 s1 Q q => h H1 (s.trans s1) Q q
theorem EvA.mono {D : Type} [Pys D] {x : D} {ta : TA} (h : EvA ta st H x) (s : Same H H') : EvA ta st H' x := fun H1 s1 Q q => h H1 (s.trans s1) Q fun v Hv H2 a r => by
  obtain ⟨a', s'⟩ := a.widen s s1
  exact q v _ H2 a' (Pys.mono s' r)
theorem EvAl.mono {xs : List A} {ta : TA} (h : EvAl ta st H xs) (s : Same H H') : EvAl ta st H' xs := fun H1 s1 Q q => h H1 (s.trans s1) Q fun v Hv H2 a r => by
  obtain ⟨a', s'⟩ := a.widen s s1
  exact q v _ H2 a' (r.imp fun _ _ => Py.mono s')
theorem EvR.eq {x' : A} (h : EvR te st H x) (e : x = x') : EvR te st H x' := e ▸ h
theorem EvB.eq {b b' : Bool} (h : EvB t st H b) (e : b = b') : EvB t st H b' := e ▸ h
theorem ev_v {i : Nat} {v : V} (h : st[i]? = some (some v)) (r : Py.rep H v x) : EvR (tVar i) st H x := fun H1 s Q q => ⟨v, h, q v H H1 (At.refl s) r⟩
theorem ev_c {v : V} (r : ∀ H : Hp, Py.rep H v x) : EvR (tC v) st H x := fun H1 s Q q => q v H H1 (At.refl s) (r H)
theorem ev_i {i : Int} : EvR (tC (.int i)) st H i := ev_c fun _ => rfl
theorem ev_b {b : Bool} : EvR (tC (.bl b)) st H b := ev_c fun _ => rfl
theorem ea_nil : EvA tNil st H () := fun H1 s Q q => q [] H H1 (At.refl s) rfl
theorem ea_cons {D : Type} [Pys D] {ta : TA} {y : D} (h : EvR te st H x) (g : EvA ta st H y) : EvA (tCons te ta) st H (x, y) := fun H1 s Q q =>
  h H1 s _ fun v Hv H2 a r => (g.mono a.up) H2 a.inn _ fun vs Hw H3 b rs => q _ Hw H3 (a.trans b) ⟨v, vs, rfl, Py.mono b.up r, rs⟩
theorem el_nil : EvAl tNil st H ([] : List A) := fun H1 s Q q => q [] H H1 (At.refl s) .nil
theorem el_cons {ta : TA} {xs : List A} (h : EvR te st H x) (g : EvAl ta st H xs) : EvAl (tCons te ta) st H (x :: xs) := fun H1 s Q q =>
  h H1 s _ fun v Hv H2 a r => (g.mono a.up) H2 a.inn _ fun vs Hw H3 b rs => q _ Hw H3 (a.trans b) (.cons (Py.mono b.up r) rs)
theorem ev_op {r : R2} (ha : EvR ta st H x) (hb : EvR tb st H y)
    (hr : ∀ u w Hv H1, Same H Hv → Same Hv H1 → Py.rep Hv u x → Py.rep Hv w y → ∀ Q : VK, (∀ v Hw H2, At Hv H1 Hw H2 → Py.rep Hw v z → Q v H2) → r u w H1 Q) : EvR (tOp r ta tb) st H z := fun H1 s Q q =>
  ha H1 s _ fun v Hv H2 a r1 => (hb.mono a.up) H2 a.inn _ fun w Hw H3 b r2 =>
    hr v w Hw H3 (a.up.trans b.up) b.inn (Py.mono b.up r1) r2 Q fun v' Hz H4 c r3 => q v' Hz H4 ((a.trans b).trans c) r3
theorem ev_I0 {g : Int → Int → Int} {i j : Int} (ha : EvR ta st H i) (hb : EvR tb st H j) : EvR (tOp (rI0 fun i j => .int (g i j)) ta tb) st H (g i j) :=
  ev_op ha hb fun _ _ _ _ _ s e1 e2 Q q => ⟨i, j, e1, e2, q _ _ _ (At.refl s) rfl⟩
theorem ev_B0 {g : Int → Int → Bool} {i j : Int} (ha : EvR ta st H i) (hb : EvR tb st H j) : EvR (tOp (rI0 fun i j => .bl (g i j)) ta tb) st H (g i j) :=
  ev_op ha hb fun _ _ _ _ _ s e1 e2 Q q => ⟨i, j, e1, e2, q _ _ _ (At.refl s) rfl⟩
theorem ev_I {R : Int → Int → Prop} {g : Int → Int → Int} {i j : Int} (ha : EvR ta st H i) (hb : EvR tb st H j) (hc : R i j) : EvR (tOp (rI R fun i j => .int (g i j)) ta tb) st H (g i j) :=
  ev_op ha hb fun _ _ _ _ _ s e1 e2 Q q => ⟨i, j, e1, e2, hc, q _ _ _ (At.refl s) rfl⟩
theorem ev_neg {i : Int} (ha : EvR ta st H i) : EvR (tUn (rU fun i => .int (-i)) ta) st H (-i) := fun H1 s Q q => ha H1 s _ fun v Hv H2 a r => ⟨i, r, q _ Hv H2 a rfl⟩
theorem ev_eqI {i j : Int} (ha : EvR ta st H i) (hb : EvR tb st H j) : EvR (tOp rEq ta tb) st H (decide (i = j)) :=
  ev_op ha hb fun u w _ _ _ s e1 e2 Q q => by
    have e1' : u = .int i := e1
    have e2' : w = .int j := e2
    subst e1' e2'
    refine ⟨rfl, q _ _ _ (At.refl s) ?_⟩
    show V.bl (decide (V.int i = V.int j)) = V.bl (decide (i = j))
    simp
theorem ev_neI {i j : Int} (ha : EvR ta st H i) (hb : EvR tb st H j) : EvR (tOp rNe ta tb) st H (!decide (i = j)) :=
  ev_op ha hb fun u w _ _ _ s e1 e2 Q q => by
    have e1' : u = .int i := e1
    have e2' : w = .int j := e2
    subst e1' e2'
    refine ⟨rfl, q _ _ _ (At.refl s) ?_⟩
    show V.bl (!decide (V.int i = V.int j)) = V.bl (!decide (i = j))
    simp
theorem ev_eqB {i j : Bool} (ha : EvR ta st H i) (hb : EvR tb st H j) : EvR (tOp rEq ta tb) st H (i == j) :=
  ev_op ha hb fun u w _ _ _ s e1 e2 Q q => by
    have e1' : u = .bl i := e1
    have e2' : w = .bl j := e2
    subst e1' e2'
    refine ⟨rfl, q _ _ _ (At.refl s) ?_⟩
    show V.bl (decide (V.bl i = V.bl j)) = V.bl (i == j)
    cases i <;> cases j <;> simp
theorem ev_neB {i j : Bool} (ha : EvR ta st H i) (hb : EvR tb st H j) : EvR (tOp rNe ta tb) st H (i != j) :=
  ev_op ha hb fun u w _ _ _ s e1 e2 Q q => by
    have e1' : u = .bl i := e1
    have e2' : w = .bl j := e2
    subst e1' e2'
    refine ⟨rfl, q _ _ _ (At.refl s) ?_⟩
    show V.bl (!decide (V.bl i = V.bl j)) = V.bl (i != j)
    cases i <;> cases j <;> simp
/-! tuples -/
theorem ev_pair (ha : EvR ta st H x) (hb : EvR tb st H y) : EvR (tTup (tCons ta (tCons tb tNil))) st H (x, y) := fun H1 s Q q =>
  ha H1 s _ fun v Hv H2 a r1 => (hb.mono a.up) H2 a.inn _ fun w Hw H3 b r2 => ⟨by show 2 ≤ sizeLine; decide, fun p hp =>
    q _ _ _ ((a.trans b).alloc hp) ⟨p, v, w, rfl, upd_same, Py.mono (same_new (Same.refl _) (b.inn.free hp)) (Py.mono b.up r1), Py.mono (same_new (Same.refl _) (b.inn.free hp)) r2⟩⟩
theorem ev_fst {x : A × B} (ha : EvR ta st H x) : EvR (tOp (rIxT K) ta (tC (.int 0))) st H x.1 :=
  ev_op (y := (0 : Int)) ha ev_i fun u w Hv H1 s s1 r e2 Q q => by
    obtain ⟨p, a, b, rfl, hp, r1, r2⟩ := r
    exact ⟨p, [a, b], 0, a, rfl, e2, Or.inl (Or.inl (s1 _ _ hp)), rfl, q _ _ _ (At.refl s1) r1⟩
theorem ev_snd {x : A × B} (ha : EvR ta st H x) : EvR (tOp (rIxT K) ta (tC (.int 1))) st H x.2 :=
  ev_op (y := (1 : Int)) ha ev_i fun u w Hv H1 s s1 r e2 Q q => by
    obtain ⟨p, a, b, rfl, hp, r1, r2⟩ := r
    exact ⟨p, [a, b], 1, b, rfl, e2, Or.inl (Or.inl (s1 _ _ hp)), rfl, q _ _ _ (At.refl s1) r2⟩
/-! a tuple of ints of the program's top -/
theorem ev_ixK {p : Addr} {ns : List Int} {i n : Int} (hp : ∀ H : Hp, SqT K H p (ns.map V.int)) (hb : EvR tb st H i) (h0 : 0 ≤ i) (hx : ns[i.toNat]? = some n) : EvR (tOp (rIxT K) (tC (.ref p)) tb) st H n := fun H1 s Q q =>
  hb H1 s _ fun w Hv H2 a e => ⟨p, _, i, .int n, rfl, e, hp H2, (by
    have e1 : i = ((i.toNat : Nat) : Int) := by omega
    rw [e1]
    refine atI_nat ?_
    rw [List.getElem?_map, hx]
    rfl), q _ Hv H2 a rfl⟩
/-! lists -/
theorem ev_ixL {xs : List A} {i : Int} (ha : EvR ta st H xs) (hb : EvR tb st H i) (h0 : 0 ≤ i) (hx : xs[i.toNat]? = some x) : EvR (tOp (rIxL K) ta tb) st H x :=
  ev_op ha hb fun u w Hv H1 s s1 r e2 Q q => by
    obtain ⟨p, vs, rfl, hp, r1⟩ := r
    obtain ⟨v, hv, rv⟩ := r1.at_x hx
    refine ⟨p, vs, i, v, rfl, e2, Or.inl (Or.inl (s1 _ _ hp)), ?_, q _ _ _ (At.refl s1) rv⟩
    have e1 : i = ((i.toNat : Nat) : Int) := by omega
    rw [e1]
    exact atI_nat hv
theorem ev_ixS {xs : Scr K} {i n : Int} (ha : EvR ta st H xs) (hb : EvR tb st H i) (h0 : 0 ≤ i) (hx : xs.l[i.toNat]? = some n) : EvR (tOp (rIxL K) ta tb) st H n :=
  ev_op ha hb fun u w Hv H1 s s1 r e2 Q q => by
    obtain ⟨p, rfl, hp⟩ := r
    refine ⟨p, _, i, .int n, rfl, e2, s1.seq hp, ?_, q _ _ _ (At.refl s1) rfl⟩
    have e1 : i = ((i.toNat : Nat) : Int) := by omega
    rw [e1]
    refine atI_nat ?_
    rw [List.getElem?_map, hx]
    rfl
theorem ev_lst {ta : TA} {xs : List A} (h : EvAl ta st H xs) (hl : xs.length ≤ 100000) : EvR (tLst ta) st H xs := fun H1 s Q q =>
  h H1 s _ fun vs Hv H2 a r => ⟨by rw [r.len]; exact Nat.le_trans hl (by decide), fun p hp =>
    q _ _ _ (a.alloc hp) ⟨p, vs, rfl, upd_same, r.imp fun _ _ => Py.mono (same_new (Same.refl _) (a.inn.free hp))⟩⟩
theorem ev_cat {xs ys : List A} (ha : EvR ta st H xs) (hb : EvR tb st H ys) (hl : xs.length + ys.length ≤ 100000) : EvR (tOp rCat ta tb) st H (xs ++ ys) :=
  ev_op ha hb fun u w Hv H1 s s1 r r' Q q => by
    obtain ⟨p, vs, rfl, hp, r1⟩ := r
    obtain ⟨p', vs', rfl, hp', r1'⟩ := r'
    refine ⟨p, p', vs, vs', rfl, rfl, s1 _ _ hp, s1 _ _ hp', (by rw [r1.len, r1'.len]; exact Nat.le_trans hl (by decide)), fun m hm => ?_⟩
    exact q _ _ _ ((At.refl s1).alloc hm) ⟨m, _, rfl, upd_same, (r1.app r1').imp fun _ _ => Py.mono (same_new (Same.refl _) (s1.free hm))⟩
theorem ev_len {xs : List A} (ha : EvR ta st H xs) : EvR (tCB (fun xs H Q => ∃ p ys, xs = [.ref p] ∧ (SqL K H p ys ∨ SqT K H p ys) ∧ Q (.int ys.length) H) (tCons ta tNil)) st H (xs.length : Int) := fun H1 s Q q =>
  ha H1 s _ fun v Hv H2 a r => by
    obtain ⟨p, vs, rfl, hp, r1⟩ := r
    exact ⟨p, vs, rfl, Or.inl (Or.inl (Or.inl (a.inn _ _ hp))), q _ Hv H2 a (by rw [r1.len]; rfl)⟩
theorem ev_lenS {xs : Scr K} (ha : EvR ta st H xs) : EvR (tCB (fun xs H Q => ∃ p ys, xs = [.ref p] ∧ (SqL K H p ys ∨ SqT K H p ys) ∧ Q (.int ys.length) H) (tCons ta tNil)) st H (xs.l.length : Int) := fun H1 s Q q =>
  ha H1 s _ fun v Hv H2 a r => by
    obtain ⟨p, rfl, hp⟩ := r
    exact ⟨p, _, rfl, Or.inl (a.inn.seq hp), q _ Hv H2 a (by rw [List.length_map]; rfl)⟩
theorem ev_min2 {i j : Int} (ha : EvR ta st H i) (hb : EvR tb st H j) : EvR (tCB (fun xs H Q => ∃ i j, xs = [.int i, .int j] ∧ Q (.int (if j < i then j else i)) H) (tCons ta (tCons tb tNil))) st H (if j < i then j else i) := fun H1 s Q q =>
  ha H1 s _ fun v Hv H2 a r1 => (hb.mono a.up) H2 a.inn _ fun w Hw H3 b r2 => ⟨i, j, (by
    have e1 : v = .int i := r1
    have e2 : w = .int j := r2
    rw [e1, e2]), q _ Hw H3 (a.trans b) rfl⟩
theorem ev_max2 {i j : Int} (ha : EvR ta st H i) (hb : EvR tb st H j) : EvR (tCB (fun xs H Q => ∃ i j, xs = [.int i, .int j] ∧ Q (.int (if j > i then j else i)) H) (tCons ta (tCons tb tNil))) st H (if j > i then j else i) := fun H1 s Q q =>
  ha H1 s _ fun v Hv H2 a r1 => (hb.mono a.up) H2 a.inn _ fun w Hw H3 b r2 => ⟨i, j, (by
    have e1 : v = .int i := r1
    have e2 : w = .int j := r2
    rw [e1, e2]), q _ Hw H3 (a.trans b) rfl⟩
theorem ev_sum {xs : List Int} (ha : EvR ta st H xs) : EvR (tCB (rSum K) (tCons ta tNil)) st H xs.sum := fun H1 s Q q =>
  ha H1 s _ fun v Hv H2 a r => by
    obtain ⟨p, vs, rfl, hp, r1⟩ := r
    have e := all2_int r1
    subst e
    exact ⟨p, xs, rfl, Or.inl (Or.inl (a.inn _ _ hp)), q _ Hv H2 a rfl⟩
theorem ev_all {xs : List Bool} (ha : EvR ta st H xs) : EvR (tCB (rAll K) (tCons ta tNil)) st H (xs.all id) := fun H1 s Q q =>
  ha H1 s _ fun v Hv H2 a r => by
    obtain ⟨p, vs, rfl, hp, r1⟩ := r
    have e := all2_bl r1
    subst e
    exact ⟨p, xs, rfl, Or.inl (Or.inl (a.inn _ _ hp)), q _ Hv H2 a rfl⟩
theorem ev_any {xs : List Bool} (ha : EvR ta st H xs) : EvR (tCB (rAny K) (tCons ta tNil)) st H (xs.any id) := fun H1 s Q q =>
  ha H1 s _ fun v Hv H2 a r => by
    obtain ⟨p, vs, rfl, hp, r1⟩ := r
    have e := all2_bl r1
    subst e
    exact ⟨p, xs, rfl, Or.inl (Or.inl (a.inn _ _ hp)), q _ Hv H2 a rfl⟩
/-! slices -/
theorem eo_none : EvO tNoPart st H none := fun H1 s Q q => q H1 (Same.refl H1)
theorem eo_some {i : Int} (h : EvR te st H i) : EvO (tPart te) st H (some i) := fun H1 s Q q => h H1 s _ fun v Hv H2 a r => ⟨i, r, q H2 a.all⟩
def cut {A : Type} (xs : List A) (lo hi : Option Int) : List A := (xs.drop (HT.sIx xs.length 0 lo)).take (HT.sIx xs.length xs.length hi - HT.sIx xs.length 0 lo)
theorem ev_sl {xs : List A} {tl th : TO} {lo hi : Option Int} (h : EvR te st H xs) (h1 : EvO tl st H lo) (h2 : EvO th st H hi) : EvR (tSl (rSlL K) te tl th) st H (cut xs lo hi) := fun H1 s Q q =>
  h H1 s _ fun v Hv H2 a r => h1 H2 (a.up.trans a.inn) _ fun H3 e3 => h2 H3 ((a.up.trans a.inn).trans e3) _ fun H4 e4 => by
    obtain ⟨p, vs, rfl, hp, r1⟩ := r
    have a4 : At H H1 Hv H4 := ⟨(a.all.trans e3).trans e4, a.up, (a.inn.trans e3).trans e4, a.new⟩
    refine ⟨p, vs, rfl, Or.inl (Or.inl (a4.inn _ _ hp)), fun m hm => q _ _ _ (a4.alloc hm) ⟨m, _, rfl, upd_same, ?_⟩⟩
    unfold cutV cut
    rw [r1.len]
    exact ((r1.drop _).take _).imp fun _ _ => Py.mono (same_new (Same.refl _) (a4.inn.free hm))
theorem ev_slS {xs : Scr K} {tl th : TO} {lo hi : Option Int} (h : EvR te st H xs) (h1 : EvO tl st H lo) (h2 : EvO th st H hi) : EvR (tSl (rSlL K) te tl th) st H (cut xs.l lo hi) := fun H1 s Q q =>
  h H1 s _ fun v Hv H2 a r => h1 H2 (a.up.trans a.inn) _ fun H3 e3 => h2 H3 ((a.up.trans a.inn).trans e3) _ fun H4 e4 => by
    obtain ⟨p, rfl, hp⟩ := r
    have a4 : At H H1 Hv H4 := ⟨(a.all.trans e3).trans e4, a.up, (a.inn.trans e3).trans e4, a.new⟩
    refine ⟨p, _, rfl, a4.inn.seq hp, fun m hm => q _ _ _ (a4.alloc hm) ⟨m, _, rfl, upd_same, ?_⟩⟩
    unfold cutV cut
    rw [List.length_map, ← List.map_drop, ← List.map_take]
    exact int_all2 _
theorem cut_nat {A : Type} (xs : List A) {i j : Int} (h0 : 0 ≤ i) (h1 : i ≤ j) (h2 : j ≤ xs.length) : cut xs (some i) (some j) = (xs.drop i.toNat).take (j - i).toNat := by
  obtain ⟨a, rfl⟩ := Int.eq_ofNat_of_zero_le h0
  obtain ⟨b, rfl⟩ := Int.eq_ofNat_of_zero_le (Int.le_trans h0 h1)
  unfold cut
  rw [HT.sIx_nat, HT.sIx_nat, Nat.min_eq_left (by omega), Nat.min_eq_left (by omega)]
  congr 1
  omega
theorem cut_from {A : Type} (xs : List A) {i : Int} (h0 : 0 ≤ i) : cut xs (some i) none = xs.drop i.toNat := by
  obtain ⟨a, rfl⟩ := Int.eq_ofNat_of_zero_le h0
  unfold cut
  rw [HT.sIx_nat, HT.sIx_none, Int.toNat_natCast]
  by_cases h : a ≤ xs.length
  · rw [Nat.min_eq_left h, List.take_of_length_le (by rw [List.length_drop]; omega)]
  · rw [Nat.min_eq_right (by omega), List.drop_eq_nil_of_le (Nat.le_refl _), List.drop_eq_nil_of_le (by omega), List.take_nil]
theorem cut_to {A : Type} (xs : List A) {j : Int} (h0 : 0 ≤ j) : cut xs none (some j) = xs.take j.toNat := by
  obtain ⟨a, rfl⟩ := Int.eq_ofNat_of_zero_le h0
  unfold cut
  rw [HT.sIx_nat, HT.sIx_none, Int.toNat_natCast, List.drop_zero, Nat.sub_zero]
  by_cases h : a ≤ xs.length
  · rw [Nat.min_eq_left h]
  · rw [Nat.min_eq_right (by omega), List.take_of_length_le (Nat.le_refl _), List.take_of_length_le (by omega)]
/-! tests -/
theorem eb_test {b : Bool} (h : EvR te st H b) : EvB (tTest te) st H b := fun H1 s Q q => h H1 s _ fun v Hv H2 a r => ⟨b, r, q H2 a.all⟩
theorem eb_B {b : Bool} (h : EvR te st H b) : EvB (tB te) st H b := fun H1 s Q q => h H1 s _ fun v Hv H2 a r => ⟨b, r, q H2 a.all⟩
theorem eb_yes : EvB tYes st H true := fun H1 s Q q => q H1 (Same.refl H1)
theorem eb_and {a b : Bool} (h1 : EvB t st H a) (h2 : a = true → EvB u st H b) : EvB (tAnd t u) st H (a && b) := fun H1 s Q q => h1 H1 s _ fun H2 s2 => by
  cases a with
  | true => exact h2 rfl H2 (s.trans s2) Q fun H3 s3 => q H3 (s2.trans s3)
  | false => exact q H2 s2
theorem eb_or {a b : Bool} (h1 : EvB t st H a) (h2 : a = false → EvB u st H b) : EvB (tOr t u) st H (a || b) := fun H1 s Q q => h1 H1 s _ fun H2 s2 => by
  cases a with
  | false => exact h2 rfl H2 (s.trans s2) Q fun H3 s3 => q H3 (s2.trans s3)
  | true => exact q H2 s2
theorem eb_not {a : Bool} (h1 : EvB t st H a) : EvB (tNot t) st H (!a) := fun H1 s Q q => h1 H1 s _ fun H2 s2 => q H2 s2
theorem ev_not {a : Bool} (h1 : EvR ta st H a) : EvR (tNotV ta) st H (!a) := fun H1 s Q q => h1 H1 s _ fun v Hv H2 a' r => ⟨a, r, q _ Hv H2 a' rfl⟩
theorem ev_and {a b : Bool} (h1 : EvR ta st H a) (h2 : a = true → EvR tb st H b) : EvR (tAndV ta tb) st H (a && b) := fun H1 s Q q => h1 H1 s _ fun v Hv H2 a' r => ⟨a, r, by
  cases a with
  | true => exact ((h2 rfl).mono a'.up) H2 a'.inn Q fun w Hw H3 b' r' => q w Hw H3 (a'.trans b') r'
  | false => exact q _ Hv H2 a' rfl⟩
theorem ev_or {a b : Bool} (h1 : EvR ta st H a) (h2 : a = false → EvR tb st H b) : EvR (tOrV ta tb) st H (a || b) := fun H1 s Q q => h1 H1 s _ fun v Hv H2 a' r => ⟨a, r, by
  cases a with
  | false => exact ((h2 rfl).mono a'.up) H2 a'.inn Q fun w Hw H3 b' r' => q w Hw H3 (a'.trans b') r'
  | true => exact q _ Hv H2 a' rfl⟩
theorem ev_if {b : Bool} (h : EvB t st H b) (h1 : b = true → EvR ta st H x) (h2 : b = false → EvR tb st H x) : EvR (tIf t ta tb) st H x := fun H1 s Q q => h H1 s _ fun H2 s2 => by
  cases b with
  | true => exact h1 rfl H2 (s.trans s2) Q fun v Hv H3 a r => q v Hv H3 ⟨s2.trans a.all, a.up, a.inn, fun c e n => a.new c e fun z => n (s2.free z)⟩ r
  | false => exact h2 rfl H2 (s.trans s2) Q fun v Hv H3 a r => q v Hv H3 ⟨s2.trans a.all, a.up, a.inn, fun c e n => a.new c e fun z => n (s2.free z)⟩ r
theorem ev_chain {g g' : Int → Int → Bool} {i j k : Int} (ha : EvR ta st H i) (hb : EvR tb st H j) (hc : EvR tc st H k) : EvR (tChain (rI0 fun i j => .bl (g i j)) (rI0 fun i j => .bl (g' i j)) ta tb tc) st H (g i j && g' j k) := fun H1 s Q q =>
  ha H1 s _ fun v Hv H2 a r1 => (hb.mono a.up) H2 a.inn _ fun w Hw H3 b r2 => ⟨i, j, r1, r2, g i j, rfl, by
    cases e : g i j with
    | true => exact (hc.mono (a.up.trans b.up)) H3 b.inn _ fun z Hz H4 c r3 => ⟨j, k, r2, r3, q _ Hz H4 ((a.trans b).trans c) (by rw [e]; exact rfl)⟩
    | false => exact q _ Hw H3 (a.trans b) (by rw [e]; exact rfl)⟩
/-! x in (a, b), of ints -/
theorem in_ints {i : Int} : ∀ (ns : List Int), inV (.int i) (ns.map V.int) = ns.any fun n => n == i
  | [] => rfl
  | n :: r => by
    have e := in_ints (i := i) r
    unfold inV at e ⊢
    rw [List.map_cons, List.any_cons, List.any_cons, e]
    rfl
theorem ints_flat : ∀ (ns : List Int), (ns.map V.int).all flatV = true
  | [] => rfl
  | n :: r => by
    rw [List.map_cons, List.all_cons, ints_flat r]
    rfl
theorem ev_inT {i : Int} {ta : TE} {tb : TA} {ns : List Int} (ha : EvR ta st H i) (hb : EvAl tb st H ns) (hl : ns.length ≤ 100000) : EvR (tOp (rIn K false) ta (tTup tb)) st H (ns.any fun n => n == i) := fun H1 s Q q =>
  ha H1 s _ fun v Hv H2 a r1 => (hb.mono a.up) H2 a.inn _ fun ws Hw H3 b r2 => ⟨by rw [r2.len]; exact Nat.le_trans hl (by decide), fun p hp => by
    have e1 : v = .int i := r1
    have e2 := all2_int r2
    subst e1 e2
    refine ⟨p, _, rfl, Or.inr (Or.inl (Or.inl upd_same)), rfl, ints_flat ns, ?_⟩
    refine q _ _ _ ((a.trans b).alloc hp) ?_
    show V.bl (inV (.int i) (ns.map V.int)) = V.bl (ns.any fun n => n == i)
    rw [in_ints]⟩
/-! fields -/
end

/-! ### promises of defs that reckon: of such data they give such data -/
def PF {A B : Type} [Pys A] [Py B] (pre : A → Prop) (f : A → B) : Sp := fun vs H Q _ => ∃ (H0 : Hp) (x : A), Same H0 H ∧ Pys.reps H0 vs x ∧ pre x ∧ ∀ v Hv H2, At H0 H Hv H2 → Py.rep Hv v (f x) → Q v H2
theorem ev_call {A B : Type} [Pys A] [Py B] {pre : A → Prop} {f : A → B} {E : XK} {ta : TA} {st : L2.St} {H : Hp} {x : A} (h : EvA ta st H x) (hp : pre x) : EvR (tCall (PF pre f) [] E ta) st H (f x) := fun H1 s Q q =>
  h H1 s _ fun vs Hv H2 a r => by
    rw [List.append_nil]
    exact ⟨Hv, x, a.inn, r, hp, fun v Hw H3 b r' => q v Hw H3 (a.trans b) r'⟩

/-! ### comprehensions over a list -/
theorem wipe_set1 {st : L2.St} {j : Nat} {x : Option V} : wipe ((wipe st [j]).set j x) [j] = wipe st [j] := by
  show ((st.set j none).set j x).set j none = st.set j none
  rw [List.set_set, List.set_set]
theorem ev_lc {A B : Type} [Py A] [Py B] {st : L2.St} {H : Hp} {K : PySem.W.Frag} {tl te : TE} {tt : TT} {j : Nat} {xs : List A} {f : A → Bool} {g : A → B} (h : EvR tl st H xs) (hz : xs.length ≤ 100000)
    (ht : ∀ v x Hx, x ∈ xs → Same H Hx → Py.rep Hx v x → EvB tt ((wipe st [j]).set j (some v)) Hx (f x)) (he : ∀ v x Hx, x ∈ xs → Same H Hx → Py.rep Hx v x → f x = true → EvR te ((wipe st [j]).set j (some v)) Hx (g x)) :
    EvR (tLc (iList K tl) (gName j) tt te [j]) st H ((xs.filter f).map g) := fun H1 s Q q => h H1 s _ fun v Hv H2 a r => by
  obtain ⟨p, vs, rfl, hp, r1⟩ := r
  refine ⟨p, rfl, ⟨vs, Or.inl (Or.inl (a.inn _ _ hp))⟩, fun D hD => ?_⟩
  refine lc_list (K := K) (a := p) (xs := vs) (fun i H' => ∃ Hs ws, At Hv H2 Hs H' ∧ Hs D = none ∧ H' D = some (.lst ws) ∧ All2 (Py.rep Hs) ws (((xs.take i).filter f).map g)) ?_ ?_ ?_ ?_
  · exact ⟨Hv, [], ⟨same_new (Same.refl _) hD, Same.refl _, same_new a.inn (a.inn.free hD), fun _ e _ => e⟩, a.inn.free hD, upd_same, .nil⟩
  · rintro i H' _ ⟨Hs, ws, b, _⟩
    exact Or.inl (Or.inl (b.all _ _ (a.inn _ _ hp)))
  · rintro i x H' hx ⟨Hs, ws, b, hs, hw, rw'⟩
    refine ⟨wipe_set1, ?_⟩
    obtain ⟨y, hy, ry⟩ := r1.at_v hx
    have ym : y ∈ xs := List.mem_of_getElem? hy
    have ry' : Py.rep Hs x y := Py.mono b.up ry
    have et : xs.take (i + 1) = xs.take i ++ [y] := by
      rw [List.take_add_one, hy]
      rfl
    have hlen : ws.length < sizeLine := by
      have e := rw'.len
      rw [List.length_map] at e
      have q1 := List.length_filter_le f (xs.take i)
      have q2 : (xs.take i).length ≤ xs.length := by rw [List.length_take]; omega
      exact Nat.lt_of_le_of_lt (show ws.length ≤ 100000 by omega) (by decide)
    refine ht x y Hs ym (a.up.trans b.up) ry' H' b.inn _ fun H3 s3 => ?_
    cases e : f y with
    | true =>
      refine he x y Hs ym (a.up.trans b.up) ry' e H3 (b.inn.trans s3) _ fun v' Hw H4 c rv => ?_
      have hD4 : H4 D = some (.lst ws) := c.all _ _ (s3 _ _ hw)
      have hDw : Hw D = none := c.new D hs (by rw [s3 _ _ hw]; simp)
      refine ⟨ws, hD4, hlen, Hw, ws ++ [v'], ⟨same_new ((b.all.trans s3).trans c.all) hD, b.up.trans c.up, same_new c.inn hDw, fun z e1 n => ?_⟩, hDw, upd_same, ?_⟩
      · exact c.new z (b.new z e1 n) fun q0 => n (b.all.free (s3.free q0))
      · rw [et, List.filter_append, List.map_append, List.filter_cons, if_pos e]
        exact (rw'.imp fun _ _ => Py.mono c.up).snoc rv
    | false =>
      refine ⟨Hs, ws, ⟨b.all.trans s3, b.up, b.inn.trans s3, b.new⟩, hs, s3 _ _ hw, ?_⟩
      rw [et, List.filter_append, List.map_append, List.filter_cons, if_neg (by rw [e]; decide)]
      simpa using rw'
  · rintro H' ⟨Hs, ws, b, hs, hw, rw'⟩
    rw [r1.len, List.take_length] at rw'
    refine q _ (upd Hs D (.lst ws)) H' ⟨a.all.trans b.all, same_new (a.up.trans b.up) (a.up.free (a.inn.free hD)), fun z o e => ?_, fun z e n => ?_⟩ ⟨D, ws, rfl, upd_same, rw'.imp fun _ _ => Py.mono (same_new (Same.refl _) hs)⟩
    · by_cases q0 : z = D
      · subst q0
        rw [upd_same] at e
        rw [← e]
        exact hw
      · rw [upd_ne q0] at e
        exact b.inn _ _ e
    · by_cases q0 : z = D
      · subst q0
        exact absurd (a.all.free hD) n
      · rw [upd_ne q0]
        exact b.new z (a.new z e n) fun w => n (a.all.free w)

/-! ### blocks -/
def Own (H : Hp) (M : List (Addr × HO)) (Hs H' : Hp) : Prop := (M.map (·.1)).Nodup ∧ ∀ p ∈ M, Hs p.1 = none ∧ H p.1 = none ∧ H' p.1 = some p.2
theorem Own.nil {H Hs H' : Hp} : Own H [] Hs H' := ⟨List.nodup_nil, fun p h => by cases h⟩
theorem Own.step {H Hs H' Hv H2 : Hp} {M : List (Addr × HO)} (o : Own H M Hs H') (a : At Hs H' Hv H2) : Own H M Hv H2 := ⟨o.1, fun p hp => by
  obtain ⟨h1, h2, h3⟩ := o.2 p hp
  exact ⟨a.new _ h1 (by rw [h3]; simp), h2, a.all _ _ h3⟩⟩
def Go (H0 H : Hp) (M : List (Addr × HO)) (k : L2.St → Hp → Prop) (st : L2.St) (Hs : Hp) : Prop := ∀ H', At H0 H Hs H' → Own H M Hs H' → k st H'
def Nx (H0 H : Hp) (I : L2.St → Hp → List (Addr × HO) → Prop) : L2.St → Hp → Prop := fun st H' => ∃ Hs M, I st Hs M ∧ At H0 H Hs H' ∧ Own H M Hs H'
section
variable {A B : Type} [Py A] [Py B] {st : L2.St} {H0 H Hs : Hp} {M : List (Addr × HO)} {ta tb te : TE} {t u : TT} {x : A} {K : PySem.W.Frag} {D : Ends} {tu tw tz : TS} {k : L2.St → Hp → Prop}
theorem g_nx {I : L2.St → Hp → List (Addr × HO) → Prop} (h : I st Hs M) : Go H0 H M (Nx H0 H I) st Hs := fun H' a o => ⟨Hs, M, h, a, o⟩
theorem g_asg {i : Nat} (h : EvR te st Hs x) (kk : ∀ v Hv, Same Hs Hv → Py.rep Hv v x → Go H0 H M D.nx (st.set i (some v)) Hv) : Go H0 H M (tAsg te (gName i) D) st Hs := fun H' a o =>
  h H' a.inn _ fun v Hv H2 b r => kk v Hv b.up r H2 (a.trans b) (o.step b)
theorem q_asg {i : Nat} (h : EvR te st Hs x) (kk : ∀ v Hv, Same Hs Hv → Py.rep Hv v x → Go H0 H M (tz D) (st.set i (some v)) Hv) : Go H0 H M (tSeq (tAsg te (gName i)) tz D) st Hs := g_asg (D := { D with nx := tz D }) h kk
theorem g_ret (h : EvR te st Hs x) (kk : ∀ v Hv H2, At H0 H Hv H2 → Own H M Hv H2 → Py.rep Hv v x → D.rt v H2) : Go H0 H M (tRet te D) st Hs := fun H' a o =>
  h H' a.inn _ fun v Hv H2 b r => kk v Hv H2 (a.trans b) (o.step b) r
theorem q_ret (h : EvR te st Hs x) (kk : ∀ v Hv H2, At H0 H Hv H2 → Own H M Hv H2 → Py.rep Hv v x → D.rt v H2) : Go H0 H M (tSeq (tRet te) tz D) st Hs := g_ret (D := { D with nx := tz D }) h kk
theorem g_if {b : Bool} (h : EvB t st Hs b) (h1 : b = true → Go H0 H M (tu D) st Hs) (h2 : b = false → Go H0 H M (tw D) st Hs) : Go H0 H M (tIfS t tu tw D) st Hs := fun H' a o =>
  h H' a.inn _ fun H2 s => by
    have a2 : At H0 H Hs H2 := ⟨a.all.trans s, a.up, a.inn.trans s, a.new⟩
    have o2 : Own H M Hs H2 := ⟨o.1, fun p hp => ⟨(o.2 p hp).1, (o.2 p hp).2.1, s _ _ (o.2 p hp).2.2⟩⟩
    cases b with
    | true => exact h1 rfl H2 a2 o2
    | false => exact h2 rfl H2 a2 o2
theorem q_if {b : Bool} (h : EvB t st Hs b) (h1 : b = true → Go H0 H M (tu { D with nx := tz D }) st Hs) (h2 : b = false → Go H0 H M (tw { D with nx := tz D }) st Hs) : Go H0 H M (tSeq (tIfS t tu tw) tz D) st Hs := g_if (D := { D with nx := tz D }) h h1 h2
theorem q_when {b : Bool} (h : EvB t st Hs b) (h1 : b = true → Go H0 H M (tu { D with nx := tz D }) st Hs) (h2 : b = false → Go H0 H M (tz D) st Hs) : Go H0 H M (tSeq (tIfS t tu tNext) tz D) st Hs := g_if (D := { D with nx := tz D }) h h1 h2
theorem g_when {b : Bool} (h : EvB t st Hs b) (h1 : b = true → Go H0 H M (tu D) st Hs) (h2 : b = false → Go H0 H M D.nx st Hs) : Go H0 H M (tIfS t tu tNext D) st Hs := g_if h h1 h2
/-! a list that grows -/
theorem g_new {i : Nat} (kk : ∀ l, Hs l = none → H l = none → l ∉ M.map (·.1) → Go H0 H ((l, .lst []) :: M) D.nx (st.set i (some (.ref l))) Hs) : Go H0 H M (tAsg (tLst tNil) (gName i) D) st Hs := fun H' a o => by
  refine ⟨Nat.zero_le _, fun l hl => ?_⟩
  have nm : l ∉ M.map (·.1) := fun z => by
    obtain ⟨p, hp, e⟩ := List.mem_map.mp z
    have h3 := (o.2 p hp).2.2
    rw [e, hl] at h3
    cases h3
  refine kk l (a.inn.free hl) (a.all.free hl) nm _ ⟨same_new a.all (a.all.free hl), a.up, same_new a.inn (a.inn.free hl), a.new⟩ ⟨List.nodup_cons.mpr ⟨nm, o.1⟩, fun p hp => ?_⟩
  rcases List.mem_cons.mp hp with rfl | hp
  · exact ⟨a.inn.free hl, a.all.free hl, upd_same⟩
  · obtain ⟨h1, h2, h3⟩ := o.2 p hp
    refine ⟨h1, h2, ?_⟩
    rw [upd_ne (ne_of_none h3 hl)]
    exact h3
theorem q_new {i : Nat} (kk : ∀ l, Hs l = none → H l = none → l ∉ M.map (·.1) → Go H0 H ((l, .lst []) :: M) (tz D) (st.set i (some (.ref l))) Hs) : Go H0 H M (tSeq (tAsg (tLst tNil) (gName i)) tz D) st Hs := g_new (D := { D with nx := tz D }) kk
theorem own_set {Hv H2 : Hp} {l : Addr} {o o' : HO} (w : Own H ((l, o) :: M) Hv H2) : Own H ((l, o') :: M) Hv (upd H2 l o') := ⟨w.1, fun p hp => by
  rcases List.mem_cons.mp hp with rfl | hp
  · obtain ⟨h1, h2, h3⟩ := w.2 (l, o) List.mem_cons_self
    exact ⟨h1, h2, upd_same⟩
  · obtain ⟨h1, h2, h3⟩ := w.2 p (List.mem_cons_of_mem _ hp)
    refine ⟨h1, h2, ?_⟩
    have ne : p.1 ≠ l := fun e => (List.nodup_cons.mp w.1).1 (by
      show l ∈ M.map (·.1)
      rw [← e]
      exact List.mem_map.mpr ⟨p, hp, rfl⟩)
    rw [upd_ne ne]
    exact h3⟩
theorem at_set {Hv H2 : Hp} {l : Addr} {o o' : HO} (a : At H0 H Hv H2) (w : Own H ((l, o) :: M) Hv H2) : At H0 H Hv (upd H2 l o') := by
  obtain ⟨h1, h2, h3⟩ := w.2 (l, o) List.mem_cons_self
  exact ⟨same_new a.all h2, a.up, same_new a.inn h1, a.new⟩
theorem g_app {i : Nat} {l : Addr} {vs : List V} (hi : st[i]? = some (some (.ref l))) (h : EvR te st Hs x) (hl : vs.length < 10000000) (kk : ∀ v Hv, Same Hs Hv → Py.rep Hv v x → Go H0 H ((l, .lst (vs ++ [v])) :: M) D.nx st Hv) :
    Go H0 H ((l, .lst vs) :: M) (tDrop (tBM K "list" rAppend (tVar i) (tCons te tNil)) D) st Hs := fun H' a o => by
  have hL := (o.2 (l, .lst vs) List.mem_cons_self).2.2
  refine ⟨_, hi, Or.inl ⟨rfl, vs, Or.inl (Or.inl hL)⟩, h H' a.inn _ fun v Hv H2 b r => ⟨l, vs, v, rfl, rfl, b.all _ _ hL, Nat.lt_trans hl (by decide), ?_⟩⟩
  exact kk v Hv b.up r _ (at_set (a.trans b) (o.step b)) (own_set (o.step b))
theorem q_app {i : Nat} {l : Addr} {vs : List V} (hi : st[i]? = some (some (.ref l))) (h : EvR te st Hs x) (hl : vs.length < 10000000) (kk : ∀ v Hv, Same Hs Hv → Py.rep Hv v x → Go H0 H ((l, .lst (vs ++ [v])) :: M) (tz D) st Hv) :
    Go H0 H ((l, .lst vs) :: M) (tSeq (tDrop (tBM K "list" rAppend (tVar i) (tCons te tNil))) tz D) st Hs := g_app (D := { D with nx := tz D }) hi h hl kk
theorem g_ext {i : Nat} {l : Addr} {vs : List V} {xs : List A} (hi : st[i]? = some (some (.ref l))) (h : EvR te st Hs xs) (hl : vs.length + xs.length ≤ 10000000) (kk : ∀ ws Hv, Same Hs Hv → All2 (Py.rep Hv) ws xs → Go H0 H ((l, .lst (vs ++ ws)) :: M) D.nx st Hv) :
    Go H0 H ((l, .lst vs) :: M) (tDrop (tBM K "list" rExtend (tVar i) (tCons te tNil)) D) st Hs := fun H' a o => by
  have hL := (o.2 (l, .lst vs) List.mem_cons_self).2.2
  refine ⟨_, hi, Or.inl ⟨rfl, vs, Or.inl (Or.inl hL)⟩, h H' a.inn _ fun v Hv H2 b r => ?_⟩
  obtain ⟨p, ws, rfl, hp, r1⟩ := r
  refine ⟨l, p, vs, ws, rfl, rfl, b.all _ _ hL, b.inn _ _ hp, (by rw [r1.len]; exact Nat.le_trans hl (by decide)), ?_⟩
  exact kk ws Hv b.up r1 _ (at_set (a.trans b) (o.step b)) (own_set (o.step b))
theorem q_ext {i : Nat} {l : Addr} {vs : List V} {xs : List A} (hi : st[i]? = some (some (.ref l))) (h : EvR te st Hs xs) (hl : vs.length + xs.length ≤ 10000000) (kk : ∀ ws Hv, Same Hs Hv → All2 (Py.rep Hv) ws xs → Go H0 H ((l, .lst (vs ++ ws)) :: M) (tz D) st Hv) :
    Go H0 H ((l, .lst vs) :: M) (tSeq (tDrop (tBM K "list" rExtend (tVar i) (tCons te tNil))) tz D) st Hs := g_ext (D := { D with nx := tz D }) hi h hl kk
/-- the list is ready: from now on a value -/
theorem g_froz {l : Addr} {o : HO} (h : Hs l = none → H l = none → Go H0 H M k st (upd Hs l o)) : Go H0 H ((l, o) :: M) k st Hs := fun H' a w => by
  obtain ⟨h1, h2, h3⟩ := w.2 (l, o) List.mem_cons_self
  refine h h1 h2 H' ⟨a.all, same_new a.up (a.up.free h1), fun b u e => ?_, fun b e n => ?_⟩ ⟨(List.nodup_cons.mp w.1).2, fun p hp => ?_⟩
  · by_cases q : b = l
    · subst q
      rw [upd_same] at e
      rw [← e]
      exact h3
    · rw [upd_ne q] at e
      exact a.inn _ _ e
  · by_cases q : b = l
    · subst q
      exact absurd h2 n
    · rw [upd_ne q]
      exact a.new b e n
  · obtain ⟨g1, g2, g3⟩ := w.2 p (List.mem_cons_of_mem _ hp)
    have ne : p.1 ≠ l := fun e => (List.nodup_cons.mp w.1).1 (by
      show l ∈ M.map (·.1)
      rw [← e]
      exact List.mem_map.mpr ⟨p, hp, rfl⟩)
    exact ⟨by rw [upd_ne ne]; exact g1, g2, g3⟩
theorem froz_rep {l : Addr} {vs : List V} {xs : List A} (h : Hs l = none) (r : All2 (Py.rep Hs) vs xs) : Py.rep (upd Hs l (.lst vs)) (.ref l) xs := ⟨l, vs, rfl, upd_same, r.imp fun _ _ => Py.mono (same_new (Same.refl _) h)⟩
theorem g_swap {p q : Addr × HO} (h : Go H0 H (p :: q :: M) k st Hs) : Go H0 H (q :: p :: M) k st Hs := fun H' a o => h H' a ⟨by
  have := o.1
  simp only [List.map_cons, List.nodup_cons, List.mem_cons, not_or] at this ⊢
  exact ⟨⟨fun e => this.1.1 e.symm, this.2.1⟩, this.1.2, this.2.2⟩, fun r hr => o.2 r (by
    simp only [List.mem_cons] at hr ⊢
    rcases hr with h | h | h
    · exact Or.inr (Or.inl h)
    · exact Or.inl h
    · exact Or.inr (Or.inr h))⟩
/-! loops -/
theorem g_forR1 {j : Nat} {n : Int} (h : EvR te st Hs n) (hn : -100000 ≤ n ∧ n ≤ 100000) (I : Nat → L2.St → Hp → List (Addr × HO) → Prop) (h0 : ∀ Hv, Same Hs Hv → I 0 st Hv M)
    (hs : ∀ (i : Nat) st' Hs' M', (i : Int) < n → I i st' Hs' M' → Go H0 H M' (tu { D with nx := Nx H0 H (I (i + 1)), ct := Nx H0 H (I (i + 1)), bk := D.nx }) (st'.set j (some (.int (i : Int)))) Hs')
    (hd : ∀ st' Hs' M', I n.toNat st' Hs' M' → Go H0 H M' D.nx st' Hs') : Go H0 H M (tFor (iRng1 (tCons te tNil)) (gName j) tu D) st Hs := fun H' a o =>
  h H' a.inn _ fun v Hv H2 b r => ⟨n, (by have e : v = .int n := r; rw [e]), by omega, by omega,
    for_range (lo := 0) (n := n.toNat) (fun i st' H' => Nx H0 H (I i) st' H') ⟨Hv, M, h0 Hv b.up, a.trans b, o.step b⟩
      (fun i st' H' hi ⟨Hs', M', p, a', o'⟩ => by
        have e0 : (0 : Int) + (i : Int) = (i : Int) := Int.zero_add _
        show tu { D with nx := Nx H0 H (I (i + 1)), ct := Nx H0 H (I (i + 1)), bk := D.nx } (st'.set j (some (.int ((0 : Int) + (i : Int))))) H'
        rw [e0]
        exact hs i st' Hs' M' (by omega) p H' a' o')
      (fun st' H' ⟨Hs', M', p, a', o'⟩ => hd st' Hs' M' p H' a' o')⟩
theorem q_forR1 {j : Nat} {n : Int} (h : EvR te st Hs n) (hn : -100000 ≤ n ∧ n ≤ 100000) (I : Nat → L2.St → Hp → List (Addr × HO) → Prop) (h0 : ∀ Hv, Same Hs Hv → I 0 st Hv M)
    (hs : ∀ (i : Nat) st' Hs' M', (i : Int) < n → I i st' Hs' M' → Go H0 H M' (tu { D with nx := Nx H0 H (I (i + 1)), ct := Nx H0 H (I (i + 1)), bk := tz D }) (st'.set j (some (.int (i : Int)))) Hs')
    (hd : ∀ st' Hs' M', I n.toNat st' Hs' M' → Go H0 H M' (tz D) st' Hs') : Go H0 H M (tSeq (tFor (iRng1 (tCons te tNil)) (gName j) tu) tz D) st Hs := g_forR1 (D := { D with nx := tz D }) h hn I h0 hs hd
theorem g_forR2 {j : Nat} {lo n : Int} {tlo : TE} (hl : EvR tlo st Hs lo) (h : EvR te st Hs n) (hn : -100000 ≤ lo ∧ lo ≤ 100000 ∧ -100000 ≤ n ∧ n ≤ 100000) (I : Nat → L2.St → Hp → List (Addr × HO) → Prop) (h0 : ∀ Hv, Same Hs Hv → I 0 st Hv M)
    (hs : ∀ (i : Nat) st' Hs' M', lo + (i : Int) < n → I i st' Hs' M' → Go H0 H M' (tu { D with nx := Nx H0 H (I (i + 1)), ct := Nx H0 H (I (i + 1)), bk := D.nx }) (st'.set j (some (.int (lo + (i : Int))))) Hs')
    (hd : ∀ st' Hs' M', I (n - lo).toNat st' Hs' M' → Go H0 H M' D.nx st' Hs') : Go H0 H M (tFor (iRng2 (tCons tlo (tCons te tNil))) (gName j) tu D) st Hs := fun H' a o =>
  hl H' a.inn _ fun w Hw H1 c rw' => (h.mono c.up) H1 c.inn _ fun v Hv H2 b r => ⟨lo, n, (by have e : v = .int n := r; have e' : w = .int lo := rw'; rw [e, e']), ⟨by omega, by omega, by omega, by omega⟩,
    for_range (lo := lo) (n := (n - lo).toNat) (fun i st' H' => Nx H0 H (I i) st' H') ⟨Hv, M, h0 Hv (c.up.trans b.up), (a.trans c).trans b, (o.step c).step b⟩
      (fun i st' H' hi ⟨Hs', M', p, a', o'⟩ => hs i st' Hs' M' (by omega) p H' a' o')
      (fun st' H' ⟨Hs', M', p, a', o'⟩ => hd st' Hs' M' p H' a' o')⟩
theorem q_forR2 {j : Nat} {lo n : Int} {tlo : TE} (hl : EvR tlo st Hs lo) (h : EvR te st Hs n) (hn : -100000 ≤ lo ∧ lo ≤ 100000 ∧ -100000 ≤ n ∧ n ≤ 100000) (I : Nat → L2.St → Hp → List (Addr × HO) → Prop) (h0 : ∀ Hv, Same Hs Hv → I 0 st Hv M)
    (hs : ∀ (i : Nat) st' Hs' M', lo + (i : Int) < n → I i st' Hs' M' → Go H0 H M' (tu { D with nx := Nx H0 H (I (i + 1)), ct := Nx H0 H (I (i + 1)), bk := tz D }) (st'.set j (some (.int (lo + (i : Int))))) Hs')
    (hd : ∀ st' Hs' M', I (n - lo).toNat st' Hs' M' → Go H0 H M' (tz D) st' Hs') : Go H0 H M (tSeq (tFor (iRng2 (tCons tlo (tCons te tNil))) (gName j) tu) tz D) st Hs := g_forR2 (D := { D with nx := tz D }) hl h hn I h0 hs hd
theorem g_forL {j : Nat} {xs : List A} {tl : TE} (h : EvR tl st Hs xs) (I : Hp → Nat → L2.St → Hp → List (Addr × HO) → Prop) (h0 : ∀ Hv, Same Hs Hv → I Hv 0 st Hv M) (hu : ∀ Hv i st' Hs' M', I Hv i st' Hs' M' → Same Hv Hs')
    (hs : ∀ Hv (i : Nat) v x st' Hs' M', Same Hs Hv → xs[i]? = some x → Py.rep Hs' v x → I Hv i st' Hs' M' → Go H0 H M' (tu { D with nx := Nx H0 H (I Hv (i + 1)), ct := Nx H0 H (I Hv (i + 1)), bk := D.nx }) (st'.set j (some v)) Hs')
    (hd : ∀ Hv st' Hs' M', Same Hs Hv → I Hv xs.length st' Hs' M' → Go H0 H M' D.nx st' Hs') : Go H0 H M (tFor (iList K tl) (gName j) tu D) st Hs := fun H' a o =>
  h H' a.inn _ fun v Hv H2 b r => by
    obtain ⟨p, vs, rfl, hp, r1⟩ := r
    refine ⟨p, rfl, ⟨vs, Or.inl (Or.inl (b.inn _ _ hp))⟩, for_list (K := K) (a := p) (xs := vs) (fun i st' H' => Nx H0 H (I Hv i) st' H') ⟨Hv, M, h0 Hv b.up, a.trans b, o.step b⟩ ?_ ?_ ?_⟩
    · rintro i st' H3 _ ⟨Hs', M', p1, a', o'⟩
      exact Or.inl (Or.inl (a'.inn _ _ (hu _ _ _ _ _ p1 _ _ hp)))
    · rintro i y st' H3 hy ⟨Hs', M', p1, a', o'⟩
      obtain ⟨x', hx, rx⟩ := r1.at_v hy
      exact hs Hv i y x' st' Hs' M' b.up hx (Py.mono (hu _ _ _ _ _ p1) rx) p1 H3 a' o'
    · rintro st' H3 ⟨Hs', M', p1, a', o'⟩
      rw [r1.len] at p1
      exact hd Hv st' Hs' M' b.up p1 H3 a' o'
theorem q_forL {j : Nat} {xs : List A} {tl : TE} (h : EvR tl st Hs xs) (I : Hp → Nat → L2.St → Hp → List (Addr × HO) → Prop) (h0 : ∀ Hv, Same Hs Hv → I Hv 0 st Hv M) (hu : ∀ Hv i st' Hs' M', I Hv i st' Hs' M' → Same Hv Hs')
    (hs : ∀ Hv (i : Nat) v x st' Hs' M', Same Hs Hv → xs[i]? = some x → Py.rep Hs' v x → I Hv i st' Hs' M' → Go H0 H M' (tu { D with nx := Nx H0 H (I Hv (i + 1)), ct := Nx H0 H (I Hv (i + 1)), bk := tz D }) (st'.set j (some v)) Hs')
    (hd : ∀ Hv st' Hs' M', Same Hs Hv → I Hv xs.length st' Hs' M' → Go H0 H M' (tz D) st' Hs') : Go H0 H M (tSeq (tFor (iList K tl) (gName j) tu) tz D) st Hs := g_forL (D := { D with nx := tz D }) h I h0 hu hs hd
theorem g_while (I : Nat → L2.St → Hp → List (Addr × HO) → Prop) (m0 : Nat) (h0 : I m0 st Hs M)
    (hs : ∀ m st' Hs' M', I m st' Hs' M' → ∃ b, EvB t st' Hs' b ∧ (b = true → Go H0 H M' (tu { D with nx := Nx H0 H (fun s h o => ∃ m', m' < m ∧ I m' s h o), ct := Nx H0 H (fun s h o => ∃ m', m' < m ∧ I m' s h o), bk := D.nx }) st' Hs') ∧ (b = false → Go H0 H M' D.nx st' Hs')) :
    Go H0 H M (tWhile t tu D) st Hs := fun H' a o => ⟨fun m st' H' => Nx H0 H (I m) st' H', ⟨m0, Hs, M, h0, a, o⟩, fun m st' H1 ⟨Hs', M', p, a', o'⟩ => by
    obtain ⟨b, hb, h1, h2⟩ := hs m st' Hs' M' p
    refine hb H1 a'.inn _ fun H2 s => ?_
    have a2 : At H0 H Hs' H2 := ⟨a'.all.trans s, a'.up, a'.inn.trans s, a'.new⟩
    have o2 : Own H M' Hs' H2 := ⟨o'.1, fun p hp => ⟨(o'.2 p hp).1, (o'.2 p hp).2.1, s _ _ (o'.2 p hp).2.2⟩⟩
    cases b with
    | true => exact ⟨_, fun s2 H3 ⟨Hz, Mz, ⟨m', lt, i'⟩, az, oz⟩ => ⟨m', lt, Hz, Mz, i', az, oz⟩, h1 rfl H2 a2 o2⟩
    | false => exact h2 rfl H2 a2 o2⟩
theorem q_while (I : Nat → L2.St → Hp → List (Addr × HO) → Prop) (m0 : Nat) (h0 : I m0 st Hs M)
    (hs : ∀ m st' Hs' M', I m st' Hs' M' → ∃ b, EvB t st' Hs' b ∧ (b = true → Go H0 H M' (tu { D with nx := Nx H0 H (fun s h o => ∃ m', m' < m ∧ I m' s h o), ct := Nx H0 H (fun s h o => ∃ m', m' < m ∧ I m' s h o), bk := tz D }) st' Hs') ∧ (b = false → Go H0 H M' (tz D) st' Hs')) :
    Go H0 H M (tSeq (tWhile t tu) tz D) st Hs := g_while (D := { D with nx := tz D }) I m0 h0 hs
end

/-! ### a def that reckons keeps its promise -/
section
variable {P : Program} {w : World} {K : PySem.W.Frag} {mg : Str → Option Value} {base : Heap}
theorem ok_PF {A B : Type} [Pys A] [Py B] {pre : A → Prop} {g : A → B} {x qual : Str} {s0 : Stmt} {f : Addr} {fd : FuncData} {N ps : List Str} {k : Nat} (F : Fun K x qual s0 f fd) (S : FnScope N ps (defScope s0)) (hl : Pys.len A = ps.length)
    (hb : ∀ (cdv : Value) (Ar : Around) (outer : List Env) (s : Shared) (H : Hp) (vs : List V) (Q : VK) (E : XK), Room k (Ar.deeper (envOfC qual (defScope s0) s.heap.objs.size f cdv)) → ∀ (H0 : Hp) (a : A), Pys.reps H0 vs a → pre a →
      (∀ v Hv H2, At H0 H Hv H2 → Own H [] Hv H2 → Py.rep Hv v (g a) → Q v H2) →
      ∃ t, PSs (cxOf CX0 P w K mg base N qual (defScope s0) f cdv Ar outer s H E).nox (defBody s0) t ∧ Go H0 H [] (t { nx := fun _ H' => Q .non H', rt := Q }) (start N vs) H0) : FnOk P w K mg base CX0 (k + 1) f fd ps (PF pre g) := by
  refine F.ok S (fun vs H Q E ⟨H0, a, _, r, _⟩ => (Pys.hlen r).trans hl) (fun cdv Ar outer s H vs Q E hr ⟨H0, a, sm, r, hp, q⟩ => ?_)
  obtain ⟨t, h1, h2⟩ := hb cdv Ar outer s H vs Q E hr H0 a r hp (fun v Hv H2 at' _ r' => q v Hv H2 at' r')
  exact ⟨t, h1, h2 H (At.refl sm) Own.nil⟩
end

/-! ### defs by their names -/
structure DefAt (K : PySem.W.Frag) (mg : Str → Option Value) (nm : Str) (s0 : Stmt) (ps : List Str) : Prop where
  ex : ∃ (f : Addr) (fd : FuncData), Fun K nm nm s0 f fd ∧ mg nm = some (.ref f) ∧ Binds K fd ps []
def LkF (K : PySem.W.Frag) (f : Addr) (fd : FuncData) : Prop := ∃ (oc : Value) (od : Option Addr) (sl : Array (Option Value)), K.lookup f = some ⟨oc, od, .func fd, sl⟩
theorem lk_of {K : PySem.W.Frag} {x q : Str} {s0 : Stmt} {f : Addr} {fd : FuncData} (F : Fun K x q s0 f fd) : LkF K f fd := by
  obtain ⟨oc, od, kV, doc, pm, an, cdv, ct, osl, _, lk, _⟩ := F.ex
  exact ⟨oc, od, osl, lk⟩
theorem lk_one {K : PySem.W.Frag} {f : Addr} {fd fd' : FuncData} (a : LkF K f fd) (b : LkF K f fd') : fd = fd' := by
  obtain ⟨_, _, _, h⟩ := a
  obtain ⟨_, _, _, g⟩ := b
  rw [h] at g
  cases g
  rfl
structure Has (P : Program) (w : World) (K : PySem.W.Frag) (mg : Str → Option Value) (base : Heap) (nm : Str) (ps : List Str) (k : Nat) (sp : Sp) : Prop where
  ex : ∃ (f : Addr) (fd : FuncData), mg nm = some (.ref f) ∧ PySem.W.keepIn K (.ref f) = true ∧ Binds K fd ps [] ∧ FnOk P w K mg base CX0 k f fd ps sp ∧ LkF K f fd
theorem pe_has {X : Cx} {nm : Str} {ps : List Str} {k : Nat} {sp : Sp} {p pos : Pos} {e : Expr} {es : List Expr} {t : TA} (h : Has X.prog X.w X.K X.mg X.base nm ps k sp) (hr : Room k X.A) (hg : Gl X nm) (ha : PA X (e :: es) t)
    (hdb : (nm == ("__debug__" : Str)) = false := by decide) (he : starEach (e :: es) X.env = (false, eval e X.env) :: starEach es X.env := by rfl) (hpl : (backTo pos (starEach es X.env)).any (·.1) = false := by rfl) :
    PE X (.Call (.Name nm p) (e :: es) [] pos) (tCall sp [] E0 t) := by
  obtain ⟨f, fd, hm, hk, hb, F, _⟩ := h.ex
  exact pe_call F hr hg hm hk hb .nil pass0 ha hdb he hpl
theorem pe_gi {X : Cx} {nm : Str} {n : Int} {pos : Pos} (h : ∃ t, X.mg nm = some (.int n t)) (hg : Gl X nm) (hd : (nm == ("__debug__" : Str)) = false := by decide) : PE X (.Name nm pos) (tC (.int n)) := by
  obtain ⟨t, hm⟩ := h
  exact pe_glob hg hm ⟨_, rfl⟩ hd
theorem pe_gr {X : Cx} {nm : Str} {a : Addr} {pos : Pos} (h : X.mg nm = some (.ref a)) (hg : Gl X nm) (hd : (nm == ("__debug__" : Str)) = false := by decide) : PE X (.Name nm pos) (tC (.ref a)) := pe_glob hg h rfl hd
section
variable {P : Program} {w : World} {K : PySem.W.Frag} {mg : Str → Option Value} {base : Heap}
theorem has_PF {A B : Type} [Pys A] [Py B] {pre : A → Prop} {g : A → B} {nm : Str} {s0 : Stmt} {N ps : List Str} {k : Nat} (D : DefAt K mg nm s0 ps) (S : FnScope N ps (defScope s0)) (hl : Pys.len A = ps.length)
    (hb : ∀ (f : Addr) (cdv : Value) (Ar : Around) (outer : List Env) (s : Shared) (H : Hp) (vs : List V) (Q : VK) (E : XK), Room k (Ar.deeper (envOfC nm (defScope s0) s.heap.objs.size f cdv)) → ∀ (H0 : Hp) (a : A), Pys.reps H0 vs a → pre a →
      (∀ v Hv H2, At H0 H Hv H2 → Own H [] Hv H2 → Py.rep Hv v (g a) → Q v H2) →
      ∃ t, PSs (cxOf CX0 P w K mg base N nm (defScope s0) f cdv Ar outer s H E).nox (defBody s0) t ∧ Go H0 H [] (t { nx := fun _ H' => Q .non H', rt := Q }) (start N vs) H0) : Has P w K mg base nm ps (k + 1) (PF pre g) := by
  obtain ⟨f, fd, F, hm, bd⟩ := D.ex
  exact ⟨f, fd, hm, F.kp, bd, ok_PF F S hl (hb f), lk_of F⟩
end

/-! ### promises by a relation -/
def PG {A B : Type} [Pys A] [Py B] (R : A → B → Prop) : Sp := fun vs H Q _ => ∃ (H0 : Hp) (x : A) (y : B), Same H0 H ∧ Pys.reps H0 vs x ∧ R x y ∧ ∀ v Hv H2, At H0 H Hv H2 → Py.rep Hv v y → Q v H2
theorem ev_callG {A B : Type} [Pys A] [Py B] {R : A → B → Prop} {E : XK} {ta : TA} {st : L2.St} {H : Hp} {x : A} {y : B} (h : EvA ta st H x) (hp : R x y) : EvR (tCall (PG R) [] E ta) st H y := fun H1 s Q q =>
  h H1 s _ fun vs Hv H2 a r => by
    rw [List.append_nil]
    exact ⟨Hv, x, y, a.inn, r, hp, fun v Hw H3 b r' => q v Hw H3 (a.trans b) r'⟩
section
variable {P : Program} {w : World} {K : PySem.W.Frag} {mg : Str → Option Value} {base : Heap}
theorem has_PG {A B : Type} [Pys A] [Py B] {R : A → B → Prop} {nm : Str} {s0 : Stmt} {N ps : List Str} {k : Nat} (D : DefAt K mg nm s0 ps) (S : FnScope N ps (defScope s0)) (hl : Pys.len A = ps.length)
    (hb : ∀ (f : Addr) (cdv : Value) (Ar : Around) (outer : List Env) (s : Shared) (H : Hp) (vs : List V) (Q : VK) (E : XK), Room k (Ar.deeper (envOfC nm (defScope s0) s.heap.objs.size f cdv)) → ∀ (H0 : Hp) (a : A) (y : B), Pys.reps H0 vs a → R a y →
      (∀ v Hv H2, At H0 H Hv H2 → Own H [] Hv H2 → Py.rep Hv v y → Q v H2) →
      ∃ t, PSs (cxOf CX0 P w K mg base N nm (defScope s0) f cdv Ar outer s H E).nox (defBody s0) t ∧ Go H0 H [] (t { nx := fun _ H' => Q .non H', rt := Q }) (start N vs) H0) : Has P w K mg base nm ps (k + 1) (PG R) := by
  obtain ⟨f, fd, F, hm, bd⟩ := D.ex
  refine ⟨f, fd, hm, F.kp, bd, F.ok S (fun vs H Q E ⟨H0, a, y, _, r, _⟩ => (Pys.hlen r).trans hl) (fun cdv Ar outer s H vs Q E hr ⟨H0, a, y, sm, r, hp, q⟩ => ?_), lk_of F⟩
  obtain ⟨t, h1, h2⟩ := hb f cdv Ar outer s H vs Q E hr H0 a y r hp (fun v Hv H2 at' _ r' => q v Hv H2 at' r')
  exact ⟨t, h1, h2 H (At.refl sm) Own.nil⟩
end

/-! ### classes -/
structure NewAt (P : Program) (w : World) (K : PySem.W.Frag) (mg : Str → Option Value) (base : Heap) (nm : Str) (C : Addr) (ps : List Str) (k : Nat) (sp : Sp) : Prop where
  mgC : mg nm = some (.ref C)
  ex : ∃ (f : Addr) (fd : FuncData), Mk K C f ∧ Binds K fd ps [] ∧ FnOk P w K mg base CX0 k f fd ps sp
theorem pe_new {X : Cx} {nm : Str} {C : Addr} {ps : List Str} {k : Nat} {sp : Sp} {p pos : Pos} {e : Expr} {es : List Expr} {t : TA} (h : NewAt X.prog X.w X.K X.mg X.base nm C ps k sp) (hr : Room (k + 1) X.A) (hg : Gl X nm) (ha : PA X (e :: es) t)
    (hdb : (nm == ("__debug__" : Str)) = false := by decide) (he : starEach (e :: es) X.env = (false, eval e X.env) :: starEach es X.env := by rfl) (hpl : (backTo pos (starEach es X.env)).any (·.1) = false := by rfl) :
    PE X (.Call (.Name nm p) (e :: es) [] pos) (tMake C sp [] E0 t) := by
  obtain ⟨f, fd, M, hb, F⟩ := h.ex
  exact pe_make M F hr hg h.mgC hb .nil pass0 ha hdb he hpl
theorem pe_new0 {X : Cx} {nm : Str} {C : Addr} {ps : List Str} {k : Nat} {sp : Sp} {p pos : Pos} (h : NewAt X.prog X.w X.K X.mg X.base nm C ps k sp) (hr : Room (k + 1) X.A) (hg : Gl X nm) (hdb : (nm == ("__debug__" : Str)) = false := by decide) :
    PE X (.Call (.Name nm p) [] [] pos) (tMake C sp [] E0 tNil) := by
  obtain ⟨f, fd, M, hb, F⟩ := h.ex
  exact pe_make0 M F hr hg h.mgC hb .nil pass0 hdb
theorem lk1 {k : Str} {v : V} {r : List (Str × V)} : List.lookup k ((k, v) :: r) = some v := by
  have e : (k == k) = true := beq_self_eq_true k
  simp only [List.lookup, e]
theorem lk2 {k g : Str} {v : V} {r : List (Str × V)} (h : (k == g) = false) : List.lookup k ((g, v) :: r) = List.lookup k r := by
  simp only [List.lookup, h]
theorem pf1 {f : Str} {v x : V} {r : List (Str × V)} : putF f v ((f, x) :: r) = (f, v) :: r := if_pos rfl
theorem pf2 {f g : Str} {v x : V} {r : List (Str × V)} (h : ¬ g = f) : putF f v ((g, x) :: r) = (g, x) :: putF f v r := if_neg h

/-! ### the rules that name the written part, by its letter (within a comprehension's block) -/
def rLen (K : PySem.W.Frag) : List V → Hp → VK → Prop := fun xs H Q => ∃ p ys, xs = [.ref p] ∧ (SqL K H p ys ∨ SqT K H p ys) ∧ Q (.int ys.length) H
section
variable {X : Cx} {K : PySem.W.Frag}
theorem call_lenK (e : X.K = K) : CallR X (.builtin "len") (rLen K) := e ▸ call_len_seq
theorem ix_listK (e : X.K = K) : IxR X (rIxL K) := e ▸ ix_list
theorem ix_tupK (e : X.K = K) : IxR X (rIxT K) := e ▸ ix_tup
theorem sl_listK (e : X.K = K) : SlR X (rSlL K) := e ▸ sl_list
theorem op_inK (e : X.K = K) : OpR X (compareOp .In) (rIn K false) := e ▸ op_in_seq
theorem cr_sumK (e : X.K = K) (hc : X.calm = true) : CallR X (.builtin "sum") (rSum K) := e ▸ cr_sum hc
theorem cr_allK (e : X.K = K) (hc : X.calm = true) : CallR X (.builtin "all") (rAll K) := e ▸ cr_all hc
theorem cr_anyK (e : X.K = K) (hc : X.calm = true) : CallR X (.builtin "any") (rAny K) := e ▸ cr_any hc
theorem pe_fldK {e : Expr} {f : Str} {pos : Pos} {ta : TE} (k : X.K = K) (he : PE X e ta) (hb : attributeBase e f X.env (eval e X.env) = eval e X.env) : PE X (.Attribute e f pos) (tFld K ta f) := k ▸ pe_fld he hb
end

/-! ### an object that is changed: owned, beside what is known -/
def er (H : Hp) (t : Addr) : Hp := fun a => if a = t then none else H a
theorem er_same {H : Hp} {t : Addr} : er H t t = none := if_pos rfl
theorem er_ne {H : Hp} {t a : Addr} (h : a ≠ t) : er H t a = H a := if_neg h
theorem er_le {H : Hp} {t : Addr} : Same (er H t) H := fun a o e => by
  by_cases q : a = t
  · subst q
    rw [er_same] at e
    cases e
  · rw [er_ne q] at e
    exact e
theorem er_in {H H' : Hp} {t : Addr} (s : Same H H') (h : H t = none) : Same H (er H' t) := fun a o e => by
  rw [er_ne (ne_of_none e h)]
  exact s a o e
/-- a promise of a def whose first argument is an object that it may change; S: what the object stands for, by its fields -/
def PM {S A B : Type} [Pys A] [Py B] (C : Addr) (fl : S → List (Str × V)) (R : S → A → S → B → Prop) : Sp := fun vs H Q _ => ∃ (H0 : Hp) (t dx : Addr) (s s' : S) (x : A) (y : B) (r : List V), vs = .ref t :: r ∧ Same H0 H ∧ H0 t = none ∧
  H t = some (.ins C dx (fl s)) ∧ Pys.reps H0 r x ∧ R s x s' y ∧ ∀ v Hv H2, At H0 (er H t) Hv H2 → Hv t = none → H2 t = some (.ins C dx (fl s')) → Py.rep Hv v y → Q v H2
section
variable {S A B : Type} [Pys A] [Py B] {C : Addr} {fl : S → List (Str × V)} {R : S → A → S → B → Prop} {st : L2.St} {H0 H Hs : Hp} {M : List (Addr × HO)} {K : PySem.W.Frag} {D : Ends} {tz : TS} {t dx : Addr}
theorem run_PM {i : Nat} {E : XK} {ta : TA} {s s' : S} {x : A} {y : B} {Q : VK} {H' : Hp} (hi : st[i]? = some (some (.ref t))) (h : EvA ta st Hs x) (hR : R s x s' y) (a : At H0 H Hs H') (o : Own H ((t, .ins C dx (fl s)) :: M) Hs H')
    (kk : ∀ v Hv H2, At H0 H Hv H2 → Same Hs Hv → Own H ((t, .ins C dx (fl s')) :: M) Hv H2 → Py.rep Hv v y → Q v H2) : tCall (PM C fl R) [] E (tCons (tVar i) ta) st H' Q := by
  refine ⟨_, hi, h H' a.inn _ fun vs Hv H2 b r => ?_⟩
  show PM C fl R ((V.ref t :: vs) ++ []) H2 Q E
  rw [List.append_nil]
  have a2 := a.trans b
  have o2 := o.step b
  obtain ⟨h1, h2, h3⟩ := o2.2 (t, .ins C dx (fl s)) List.mem_cons_self
  refine ⟨Hv, t, dx, s, s', x, y, vs, rfl, a2.inn, h1, h3, r, hR, fun v Hw H3 c e1 e2 r' => ?_⟩
  refine kk v Hw H3 ⟨fun p u e => ?_, a2.up.trans c.up, c.inn, fun p e n => ?_⟩ (b.up.trans c.up) ⟨o.1, fun p hp => ?_⟩ r'
  · refine c.all p u ?_
    rw [er_ne (ne_of_none e h2)]
    exact a2.all p u e
  · refine c.new p (a2.new p e n) ?_
    have ne : p ≠ t := fun z => n (by rw [z]; exact h2)
    rw [er_ne ne]
    exact fun z => n (a2.all.free z)
  · rcases List.mem_cons.mp hp with rfl | hp
    · exact ⟨e1, h2, e2⟩
    · obtain ⟨g1, g2, g3⟩ := o2.2 p (List.mem_cons_of_mem _ hp)
      have ne : p.1 ≠ t := fun e => (List.nodup_cons.mp o.1).1 (by
        show t ∈ M.map (·.1)
        rw [← e]
        exact List.mem_map.mpr ⟨p, hp, rfl⟩)
      have g3' : er H2 t p.1 = some p.2 := by rw [er_ne ne]; exact g3
      exact ⟨c.new _ g1 (by rw [g3']; simp), g2, c.all _ _ g3'⟩
theorem g_retM {i : Nat} {E : XK} {ta : TA} {s s' : S} {x : A} {y : B} (hi : st[i]? = some (some (.ref t))) (h : EvA ta st Hs x) (hR : R s x s' y) (kk : ∀ v Hv H2, At H0 H Hv H2 → Own H ((t, .ins C dx (fl s')) :: M) Hv H2 → Py.rep Hv v y → D.rt v H2) :
    Go H0 H ((t, .ins C dx (fl s)) :: M) (tRet (tCall (PM C fl R) [] E (tCons (tVar i) ta)) D) st Hs := fun H' a o => run_PM hi h hR a o fun v Hv H2 a' _ o' r => kk v Hv H2 a' o' r
theorem g_asgM {i j : Nat} {E : XK} {ta : TA} {s s' : S} {x : A} {y : B} (hi : st[i]? = some (some (.ref t))) (h : EvA ta st Hs x) (hR : R s x s' y) (kk : ∀ v Hv, Same Hs Hv → Py.rep Hv v y → Go H0 H ((t, .ins C dx (fl s')) :: M) D.nx (st.set j (some v)) Hv) :
    Go H0 H ((t, .ins C dx (fl s)) :: M) (tAsg (tCall (PM C fl R) [] E (tCons (tVar i) ta)) (gName j) D) st Hs := fun H' a o => run_PM hi h hR a o fun v Hv H2 a' s o' r => kk v Hv s r H2 a' o'
theorem q_asgM {i j : Nat} {E : XK} {ta : TA} {s s' : S} {x : A} {y : B} (hi : st[i]? = some (some (.ref t))) (h : EvA ta st Hs x) (hR : R s x s' y) (kk : ∀ v Hv, Same Hs Hv → Py.rep Hv v y → Go H0 H ((t, .ins C dx (fl s')) :: M) (tz D) (st.set j (some v)) Hv) :
    Go H0 H ((t, .ins C dx (fl s)) :: M) (tSeq (tAsg (tCall (PM C fl R) [] E (tCons (tVar i) ta)) (gName j)) tz D) st Hs := g_asgM (D := { D with nx := tz D }) hi h hR kk
/-- a test that looks at the owned object -/
theorem froz_up {H' : Hp} {o : HO} (a : At H0 H Hs H') (w : Own H ((t, o) :: M) Hs H') : Same (upd Hs t o) H' := fun b u e => by
  obtain ⟨h1, h2, h3⟩ := w.2 (t, o) List.mem_cons_self
  by_cases q : b = t
  · subst q
    rw [upd_same] at e
    rw [← e]
    exact h3
  · rw [upd_ne q] at e
    exact a.inn _ _ e
theorem q_whenO {o : HO} {tt : TT} {tu : TS} {b : Bool} (h : EvB tt st (upd Hs t o) b) (h1 : b = true → Go H0 H ((t, o) :: M) (tu { D with nx := tz D }) st Hs) (h2 : b = false → Go H0 H ((t, o) :: M) (tz D) st Hs) : Go H0 H ((t, o) :: M) (tSeq (tIfS tt tu tNext) tz D) st Hs := fun H' a w =>
  h H' (froz_up a w) _ fun H2 s => by
    have a2 : At H0 H Hs H2 := ⟨a.all.trans s, a.up, a.inn.trans s, a.new⟩
    have o2 : Own H ((t, o) :: M) Hs H2 := ⟨w.1, fun p hp => ⟨(w.2 p hp).1, (w.2 p hp).2.1, s _ _ (w.2 p hp).2.2⟩⟩
    cases b with
    | true => exact h1 rfl H2 a2 o2
    | false => exact h2 rfl H2 a2 o2
/-- a list of ints reckoned from the owned object -/
theorem run_O {te : TE} {fs : List (Str × V)} {y : List Int} {H' : Hp} {Q : VK} (h : EvR te st (upd Hs t (.ins C dx fs)) y) (a : At H0 H Hs H') (w : Own H ((t, .ins C dx fs) :: M) Hs H')
    (kk : ∀ v Hv H2, At H0 H Hv H2 → Same Hs Hv → Own H ((t, .ins C dx fs) :: M) Hv H2 → Py.rep Hv v y → Q v H2) : te st H' Q := by
  refine h H' (froz_up a w) _ fun v Hv H2 b r => ?_
  obtain ⟨h1, h2, h3⟩ := w.2 (t, .ins C dx fs) List.mem_cons_self
  have hvt : Hv t = some (.ins C dx fs) := b.up _ _ upd_same
  obtain ⟨p, vs, rfl, hp, r1⟩ := r
  have ne : p ≠ t := ne_of hp hvt (by intro z; cases z)
  refine kk _ (er Hv t) H2 ⟨a.all.trans b.all, er_in (a.up.trans ((same_new (Same.refl _) h1).trans b.up)) (a.up.free h1), er_le.trans b.inn, fun z e n => ?_⟩ (er_in ((same_new (Same.refl _) h1).trans b.up) h1) ⟨w.1, fun z hz => ?_⟩ ?_
  · by_cases q : z = t
    · subst q
      exact er_same
    · rw [er_ne q]
      refine b.new z ?_ fun q0 => n (a.all.free q0)
      rw [upd_ne q]
      exact a.new z e n
  · rcases List.mem_cons.mp hz with rfl | hz
    · exact ⟨er_same, h2, b.all _ _ h3⟩
    · obtain ⟨g1, g2, g3⟩ := w.2 z (List.mem_cons_of_mem _ hz)
      have nz : z.1 ≠ t := fun e => (List.nodup_cons.mp w.1).1 (by
        show t ∈ M.map (·.1)
        rw [← e]
        exact List.mem_map.mpr ⟨z, hz, rfl⟩)
      refine ⟨?_, g2, b.all _ _ g3⟩
      rw [er_ne nz]
      exact b.new _ (by rw [upd_ne nz]; exact g1) (by rw [g3]; simp)
  · refine ⟨p, vs, rfl, by rw [er_ne ne]; exact hp, ?_⟩
    have e := all2_int r1
    subst e
    exact int_all2 _
theorem g_retO {te : TE} {fs : List (Str × V)} {y : List Int} (h : EvR te st (upd Hs t (.ins C dx fs)) y) (kk : ∀ v Hv H2, At H0 H Hv H2 → Own H ((t, .ins C dx fs) :: M) Hv H2 → Py.rep Hv v y → D.rt v H2) :
    Go H0 H ((t, .ins C dx fs) :: M) (tRet te D) st Hs := fun H' a w => run_O h a w fun v Hv H2 a' _ w' r => kk v Hv H2 a' w' r
/-- an int reckoned from the owned object -/
theorem q_asgO {te : TE} {o : HO} {j : Nat} {y : Int} (h : EvR te st (upd Hs t o) y) (kk : Go H0 H ((t, o) :: M) (tz D) (st.set j (some (.int y))) Hs) : Go H0 H ((t, o) :: M) (tSeq (tAsg te (gName j)) tz D) st Hs := fun H' a w =>
  h H' (froz_up a w) _ fun v Hv H2 b r => by
    have e : v = .int y := r
    subst e
    exact kk H2 ⟨a.all.trans b.all, a.up, a.inn.trans b.all, a.new⟩ ⟨w.1, fun p hp => ⟨(w.2 p hp).1, (w.2 p hp).2.1, b.all _ _ (w.2 p hp).2.2⟩⟩
/-- a field of the owned object is set to an int -/
theorem q_fldO {f : Str} {i : Nat} {te : TE} {fs : List (Str × V)} {y : Int} (cl : Cls K C) (na : NoAttr K C f) (hl : fs.length < 1000) (hi : st[i]? = some (some (.ref t))) (h : EvR te st (upd Hs t (.ins C dx fs)) y)
    (kk : Go H0 H ((t, .ins C dx (putF f (.int y) fs)) :: M) (tz D) st Hs) : Go H0 H ((t, .ins C dx fs) :: M) (tSeq (sFld K (tVar i) te f) tz D) st Hs := fun H' a w =>
  h H' (froz_up a w) _ fun v Hv H2 b r => by
    have e : v = .int y := r
    subst e
    have w2 : Own H ((t, .ins C dx fs) :: M) Hs H2 := ⟨w.1, fun p hp => ⟨(w.2 p hp).1, (w.2 p hp).2.1, b.all _ _ (w.2 p hp).2.2⟩⟩
    obtain ⟨h1, h2, h3⟩ := w2.2 (t, .ins C dx fs) List.mem_cons_self
    have a2 : At H0 H Hs H2 := ⟨a.all.trans b.all, a.up, a.inn.trans b.all, a.new⟩
    exact ⟨_, hi, t, C, dx, fs, rfl, h3, cl, na, hl, kk _ (at_set a2 w2) (own_set w2)⟩
end
section
variable {P : Program} {w : World} {K : PySem.W.Frag} {mg : Str → Option Value} {base : Heap}
theorem has_PM {S A B : Type} [Pys A] [Py B] {C : Addr} {fl : S → List (Str × V)} {R : S → A → S → B → Prop} {nm : Str} {s0 : Stmt} {N ps : List Str} {k : Nat} (D : DefAt K mg nm s0 ps) (Sc : FnScope N ps (defScope s0)) (hl : Pys.len A + 1 = ps.length)
    (hb : ∀ (f : Addr) (cdv : Value) (Ar : Around) (outer : List Env) (s : Shared) (H : Hp) (r : List V) (Q : VK) (E : XK), Room k (Ar.deeper (envOfC nm (defScope s0) s.heap.objs.size f cdv)) → ∀ (H0 : Hp) (t dx : Addr) (z z' : S) (a : A) (y : B), H0 t = none → Pys.reps H0 r a → R z a z' y →
      (∀ v Hv H2, At H0 (er H t) Hv H2 → Own (er H t) [(t, .ins C dx (fl z'))] Hv H2 → Py.rep Hv v y → Q v H2) →
      ∃ tt, PSs (cxOf CX0 P w K mg base N nm (defScope s0) f cdv Ar outer s H E).nox (defBody s0) tt ∧ Go H0 (er H t) [(t, .ins C dx (fl z))] (tt { nx := fun _ H' => Q .non H', rt := Q }) (start N (.ref t :: r)) H0) : Has P w K mg base nm ps (k + 1) (PM C fl R) := by
  obtain ⟨f, fd, F, hm, bd⟩ := D.ex
  refine ⟨f, fd, hm, F.kp, bd, F.ok Sc (fun vs H Q E ⟨H0, t, dx, z, z', a, y, r, e, _, _, _, rr, _⟩ => by rw [e, List.length_cons, Pys.hlen rr]; exact hl) (fun cdv Ar outer s H vs Q E hr h => ?_), lk_of F⟩
  obtain ⟨H0, t, dx, z, z', a, y, r, rfl, sm, ht, htt, rr, hR, q⟩ := h
  obtain ⟨tt, h1, h2⟩ := hb f cdv Ar outer s H r Q E hr H0 t dx z z' a y ht rr hR (fun v Hv H2 at' o r' => q v Hv H2 at' (o.2 _ List.mem_cons_self).1 (o.2 _ List.mem_cons_self).2.2 r')
  refine ⟨tt, h1, h2 H ⟨er_le, Same.refl _, sm, fun _ e _ => e⟩ ⟨List.nodup_cons.mpr ⟨by simp, List.nodup_nil⟩, fun p hp => ?_⟩⟩
  rcases List.mem_cons.mp hp with rfl | hp
  · exact ⟨ht, er_same, htt⟩
  · cases hp
end
end Ft

set_option Elab.async false
set_option linter.all false
set_option maxRecDepth 100000
set_option maxHeartbeats 2000000
/-! The layer, further: None or a value, list(pair), reversed, == of rows. -/
namespace Ft
open PySem PySem.Spec PyProof.Rows L2
/-! ### None, or a value that isn't -/
instance pyOpt {A : Type} [Py A] : Py (Option A) := ⟨fun H v x => match x with
    | none => v = .non
    | some y => Py.rep H v y ∧ v ≠ .non, fun {H H' v x} s h => by
  cases x with
  | none => exact h
  | some y => exact ⟨Py.mono s h.1, h.2⟩⟩
section
variable {A B : Type} [Py A] [Py B] {st : L2.St} {H : Hp} {ta tb te : TE} {K : PySem.W.Frag}
theorem ev_non : EvR (tC .non) st H (none : Option A) := ev_c fun _ => rfl
theorem ev_some {x : A × B} (h : EvR te st H x) : EvR te st H (some x) := fun H1 s Q q => h H1 s Q fun v Hv H2 a r => q v Hv H2 a ⟨r, by
  obtain ⟨p, u, w, rfl, _⟩ := r
  exact fun e => by cases e⟩
theorem rep_some {H : Hp} {v : V} {x : A} (h : Py.rep H v (some x)) : Py.rep H v x := h.1
theorem ev_isN {x : Option A} (h : EvR ta st H x) : EvR (tOp (fun x y H Q => y = .non ∧ Q (.bl (decide (x = .non))) H) ta (tC .non)) st H x.isNone := fun H1 s Q q => h H1 s _ fun v Hv H2 a r => ⟨rfl, q _ Hv H2 a (by
  cases x with
  | none =>
    have e : v = .non := r
    subst e
    show V.bl (decide (V.non = V.non)) = V.bl true
    simp
  | some y =>
    show V.bl (decide (v = V.non)) = V.bl false
    rw [decide_eq_false r.2])⟩
theorem ev_notN {x : Option A} (h : EvR ta st H x) : EvR (tOp (fun x y H Q => y = .non ∧ Q (.bl (!decide (x = .non))) H) ta (tC .non)) st H x.isSome := fun H1 s Q q => h H1 s _ fun v Hv H2 a r => ⟨rfl, q _ Hv H2 a (by
  cases x with
  | none =>
    have e : v = .non := r
    subst e
    show V.bl (!decide (V.non = V.non)) = V.bl false
    simp
  | some y =>
    show V.bl (!decide (v = V.non)) = V.bl true
    rw [decide_eq_false r.2]
    rfl)⟩
/-! list(pair) -/
theorem ev_listT {x : A × A} (h : EvR ta st H x) : EvR (tCB (fun xs H Q => ∃ p ys, xs = [.ref p] ∧ (SqL K H p ys ∨ SqT K H p ys) ∧ ∀ l, H l = none → Q (.ref l) (upd H l (.lst ys))) (tCons ta tNil)) st H [x.1, x.2] := fun H1 s Q q =>
  h H1 s _ fun v Hv H2 a r => by
    obtain ⟨p, u, w, rfl, hp, r1, r2⟩ := r
    refine ⟨p, [u, w], rfl, Or.inr (Or.inl (Or.inl (a.inn _ _ hp))), fun l hl => q _ _ _ (a.alloc hl) ⟨l, _, rfl, upd_same, ?_⟩⟩
    exact .cons (Py.mono (same_new (Same.refl _) (a.inn.free hl)) r1) (.cons (Py.mono (same_new (Same.refl _) (a.inn.free hl)) r2) .nil)
/-! == of rows of ints -/
theorem eqv_ints : ∀ (xs ys : List Int), PyData.eqv (.list (xs.map PyData.int)) (.list (ys.map PyData.int)) = decide (xs = ys)
  | [], [] => rfl
  | [], _ :: _ => rfl
  | _ :: _, [] => rfl
  | x :: xs, y :: ys => by
    have ih := eqv_ints xs ys
    simp only [PyData.eqv, PyData.eqvAll, List.map_cons] at ih ⊢
    rw [ih]
    by_cases c : x = y
    · subst c
      simp
    · simp [c]
theorem dp_ints {H : Hp} : ∀ (xs : List Int), DpAll K H (xs.map V.int) (xs.map PyData.int)
  | [] => .nil
  | x :: xs => .cons (.int x) (dp_ints xs)
theorem lay_ints : ∀ (xs : List Int), PyData.canLayAll0 (xs.map PyData.int) = true
  | [] => rfl
  | x :: xs => by
    rw [List.map_cons, PyData.canLayAll0, lay_ints xs]
    rfl
theorem depth_ints : ∀ (xs : List Int), PyData.depthAll (xs.map PyData.int) = 0
  | [] => rfl
  | x :: xs => by
    rw [List.map_cons, PyData.depthAll, depth_ints xs]
    rfl
theorem shaped_ints (xs : List Int) : SeqAt.shaped (.list (xs.map PyData.int)) = true := by
  unfold SeqAt.shaped
  rw [PyData.canLay0, lay_ints, PyData.depth, depth_ints]
  rfl
theorem ev_neL {xs ys : List Int} (ha : EvR ta st H xs) (hb : EvR tb st H ys) : EvR (tOp (rNeD K) ta tb) st H (!decide (xs = ys)) :=
  ev_op ha hb fun u w Hv H1 _ s r r' Q q => by
    obtain ⟨p, vs, rfl, hp, r1⟩ := r
    obtain ⟨p', vs', rfl, hp', r1'⟩ := r'
    have e := all2_int r1
    have e' := all2_int r1'
    subst e e'
    refine ⟨.list (xs.map PyData.int), .list (ys.map PyData.int), .lst (Or.inl (Or.inl (s _ _ hp))) (dp_ints xs), .lst (Or.inl (Or.inl (s _ _ hp'))) (dp_ints ys), shaped_ints xs, shaped_ints ys, ?_⟩
    rw [eqv_ints]
    exact q _ _ _ (At.refl s) rfl
end
/-! for x in reversed(xs) -/
section
variable {A : Type} [Py A] {st : L2.St} {H0 H Hs : Hp} {M : List (Addr × HO)} {K : PySem.W.Frag} {D : Ends} {tu tz : TS}
theorem g_forV {j : Nat} {xs : List A} {tl : TE} (h : EvR tl st Hs xs) (I : Hp → Nat → L2.St → Hp → List (Addr × HO) → Prop) (h0 : ∀ Hv, Same Hs Hv → I Hv 0 st Hv M) (hu : ∀ Hv i st' Hs' M', I Hv i st' Hs' M' → Same Hv Hs')
    (hs : ∀ Hv (i : Nat) v x st' Hs' M', Same Hs Hv → i < xs.length → xs[xs.length - 1 - i]? = some x → Py.rep Hs' v x → I Hv i st' Hs' M' → Go H0 H M' (tu { D with nx := Nx H0 H (I Hv (i + 1)), ct := Nx H0 H (I Hv (i + 1)), bk := D.nx }) (st'.set j (some v)) Hs')
    (hd : ∀ Hv st' Hs' M', Same Hs Hv → I Hv xs.length st' Hs' M' → Go H0 H M' D.nx st' Hs') : Go H0 H M (tFor (iRev K (tCons tl tNil)) (gName j) tu D) st Hs := fun H' a o =>
  h H' a.inn _ fun v Hv H2 b r => by
    obtain ⟨p, vs, rfl, hp, r1⟩ := r
    have el := r1.len
    refine ⟨p, vs, rfl, Or.inl (Or.inl (b.inn _ _ hp)), RT.for_Itv (K := K) (a := p) (xs := vs) (fun i st' H' => Nx H0 H (I Hv i) st' H') ⟨Hv, M, h0 Hv b.up, a.trans b, o.step b⟩ ?_ ?_ ?_⟩
    · rintro i st' H3 ⟨Hs', M', p1, a', o'⟩
      exact Or.inl (Or.inl (a'.inn _ _ (hu _ _ _ _ _ p1 _ _ hp)))
    · rintro i y st' H3 hi hy ⟨Hs', M', p1, a', o'⟩
      obtain ⟨x', hx, rx⟩ := r1.at_v hy
      rw [el] at hx hi
      exact hs Hv i y x' st' Hs' M' b.up hi hx (Py.mono (hu _ _ _ _ _ p1) rx) p1 H3 a' o'
    · rintro st' H3 ⟨Hs', M', p1, a', o'⟩
      rw [el] at p1
      exact hd Hv st' Hs' M' b.up p1 H3 a' o'
theorem q_forV {j : Nat} {xs : List A} {tl : TE} (h : EvR tl st Hs xs) (I : Hp → Nat → L2.St → Hp → List (Addr × HO) → Prop) (h0 : ∀ Hv, Same Hs Hv → I Hv 0 st Hv M) (hu : ∀ Hv i st' Hs' M', I Hv i st' Hs' M' → Same Hv Hs')
    (hs : ∀ Hv (i : Nat) v x st' Hs' M', Same Hs Hv → i < xs.length → xs[xs.length - 1 - i]? = some x → Py.rep Hs' v x → I Hv i st' Hs' M' → Go H0 H M' (tu { D with nx := Nx H0 H (I Hv (i + 1)), ct := Nx H0 H (I Hv (i + 1)), bk := tz D }) (st'.set j (some v)) Hs')
    (hd : ∀ Hv st' Hs' M', Same Hs Hv → I Hv xs.length st' Hs' M' → Go H0 H M' (tz D) st' Hs') : Go H0 H M (tSeq (tFor (iRev K (tCons tl tNil)) (gName j) tu) tz D) st Hs := g_forV (D := { D with nx := tz D }) h I h0 hu hs hd
end
end Ft

set_option Elab.async false
set_option linter.all false
set_option maxRecDepth 100000
set_option maxHeartbeats 2000000
namespace Ft
open PySem PySem.Spec PyProof.Rows L2
def top (i : Nat) : Stmt := PySem.Challenge.pw_foldedtent_s01_answers.main.body.getD i (.Pass ⟨0, 0, 0, 0⟩)
section
variable {P : Program} {w : World} {K : PySem.W.Frag} {mg : Str → Option Value} {base : Heap}
abbrev s_common_divisor : Stmt := top 22
theorem sc_common_divisor : FnScope ["first", "second", "great", "small", "rest"] ["first", "second"] (defScope s_common_divisor) := ⟨rfl, rfl, rfl, by decide +kernel, rfl, by decide +kernel, by decide +kernel⟩
def sp_common_divisor : Sp := PF (fun (x : Int × Int × Unit) => 0 ≤ x.1 ∧ 0 ≤ x.2.1) fun x => gcdI x.1 x.2.1
theorem gcd_step {g s : Int} (h1 : 0 ≤ g) (h2 : 0 < s) : gcdI s (g % s) = gcdI g s := by
  obtain ⟨a, rfl⟩ := Int.eq_ofNat_of_zero_le h1
  obtain ⟨b, rfl⟩ := Int.eq_ofNat_of_zero_le (Int.le_of_lt h2)
  unfold gcdI
  have e : ((a : Int) % (b : Int)).natAbs = a % b := by omega
  rw [e, Int.natAbs_natCast, Int.natAbs_natCast, Nat.gcd_comm, ← Nat.gcd_rec, Nat.gcd_comm]
theorem ok_common_divisor (D : DefAt K mg "common_divisor" s_common_divisor ["first", "second"]) : Has P w K mg base "common_divisor" ["first", "second"] 1 sp_common_divisor := by
  refine has_PF D sc_common_divisor rfl fun f cdv Ar outer s H vs Q E hr H0 a r hp q => ?_
  obtain ⟨v1, r1, rfl, (rfl : v1 = _), v2, r2, rfl, (rfl : v2 = _), rfl⟩ := r
  obtain ⟨i, j, u⟩ := a
  refine ⟨_, (pss_cons (ps_set (i := 2) sc_common_divisor.nd rfl (Or.inl rfl) (pv 0))
      (pss_cons (ps_set (i := 3) sc_common_divisor.nd rfl (Or.inl rfl) (pv 1))
      (pss_cons (ps_while PassesOwn.never (pt_cmpR op_gt (pv 3) pe_int (nomark _)) (pss_cons (ps_set (i := 4) sc_common_divisor.nd rfl (Or.inl rfl) (pe_op op_mod (pv 2) (pv 3)))
      (pss_cons (ps_set (i := 2) sc_common_divisor.nd rfl (Or.inl rfl) (pv 3))
      (pss_one (ps_set (i := 3) sc_common_divisor.nd rfl (Or.inl rfl) (pv 4))))))
      (pss_one (ps_ret (pv 2)))))), ?_⟩
  refine q_asg (x := i) (ev_v rfl rfl) ?_
  rintro v Hv s1 (rfl : v = _)
  refine q_asg (x := j) (ev_v rfl rfl) ?_
  rintro v Hv2 s2 (rfl : v = _)
  refine q_while (fun m st Hs M => ∃ (g s : Int) (c : Option V), st = [some (.int i), some (.int j), some (.int g), some (.int s), c] ∧ 0 ≤ g ∧ 0 ≤ s ∧ gcdI g s = gcdI i j ∧ m = s.toNat ∧ M = []) j.toNat ⟨i, j, none, rfl, hp.1, hp.2, rfl, rfl, rfl⟩ ?_
  rintro m st Hs M ⟨g, s, c, rfl, hg, hs, eg, rfl, rfl⟩
  refine ⟨_, eb_test (ev_B0 (g := fun i j => decide (j < i)) (i := s) (j := 0) (ev_v rfl rfl) ev_i), fun hb => ?_, fun hb => ?_⟩
  · have hs' : 0 < s := of_decide_eq_true hb
    refine q_asg (x := g % s) (ev_I (ev_v rfl rfl) (ev_v rfl rfl) hs') ?_
    rintro v Hv s1 (rfl : v = _)
    refine q_asg (x := s) (ev_v rfl rfl) ?_
    rintro v Hv2 s2 (rfl : v = _)
    refine g_asg (x := g % s) (ev_v rfl rfl) ?_
    rintro v Hv3 s3 (rfl : v = _)
    have e1 := Int.emod_lt_of_pos g hs'
    have e2 := Int.emod_nonneg g (by omega : s ≠ 0)
    exact g_nx ⟨(g % s).toNat, by omega, s, g % s, _, rfl, by omega, e2, by rw [gcd_step hg hs']; exact eg, rfl, rfl⟩
  · have hs' : ¬ 0 < s := of_decide_eq_false hb
    have e : s = 0 := by omega
    subst e
    refine g_ret (x := g) (ev_v rfl rfl) ?_
    intro v Hv H2 a o r
    refine q v Hv H2 a o ?_
    have e2 : gcdI g 0 = g := by
      unfold gcdI
      show ((Nat.gcd g.natAbs 0 : Nat) : Int) = g
      rw [Nat.gcd_zero_right]
      omega
    show v = V.int (gcdI i j)
    rw [← eg, e2]
    exact r

/-! sizes -/
def Sm (n : Nat) (i : Int) : Prop := i.natAbs < 2 ^ n
theorem Sm.up {n m : Nat} {i : Int} (h : Sm n i) (le : n ≤ m) : Sm m i := Nat.lt_of_lt_of_le h (Nat.pow_le_pow_right (by decide) le)
theorem Sm.mul {n m : Nat} {i j : Int} (h : Sm n i) (g : Sm m j) : Sm (n + m) (i * j) := wide_lt h g
theorem Sm.sub {n : Nat} {i j : Int} (h : Sm n i) (g : Sm n j) : Sm (n + 1) (i - j) := by
  unfold Sm at *
  rw [Nat.pow_succ]
  omega
theorem Sm.add {n : Nat} {i j : Int} (h : Sm n i) (g : Sm n j) : Sm (n + 1) (i + j) := by
  unfold Sm at *
  rw [Nat.pow_succ]
  omega
theorem Sm.cmul {n m : Nat} {i j : Int} (h : Sm n i) (g : Sm m j) (h1 : n + m + 2 ≤ 1000000) : CMulW i j := wide_mul (h.up (Nat.le_succ n)) (g.up (Nat.le_succ m)) (Nat.succ_pos _) (Nat.succ_pos _) (by omega)
theorem sm_two : Sm 2 2 := by unfold Sm; decide
def Sm2 (n : Nat) (x : Int × Int) : Prop := Sm n x.1 ∧ Sm n x.2
theorem Sm2.up {n m : Nat} {x : Int × Int} (h : Sm2 n x) (le : n ≤ m) : Sm2 m x := ⟨h.1.up le, h.2.up le⟩
theorem sm_put {n m : Nat} {a b : Int} {x : Int × Int} (h : Sm2 n x) (ha : Sm m a) (hb : Sm m b) : Sm2 (n + 1 + m) (putP a b x) := by
  refine ⟨Sm.mul ?_ ha, (h.2.up (Nat.le_succ n)).mul hb⟩
  by_cases c : 2 * x.1 ≤ x.2
  · rw [if_pos c]
    exact h.1.up (Nat.le_succ n)
  · rw [if_neg c]
    exact h.2.sub h.1
theorem sm_iter {n m : Nat} {a b : Int} {x : Int × Int} (h : Sm2 n x) (ha : Sm m a) (hb : Sm m b) : ∀ k, Sm2 (n + (1 + m) * k) (iterP a b x k)
  | 0 => by
    show Sm2 (n + (1 + m) * 0) x
    simpa using h
  | k + 1 => by
    have e := sm_put (sm_iter h ha hb k) ha hb
    refine e.up ?_
    rw [Nat.mul_add]
    omega
theorem gcd_pos {p q : Int} (h : 0 < q) : 0 < gcdI p q := by
  unfold gcdI
  have := Nat.gcd_pos_of_pos_right p.natAbs (show 0 < q.natAbs by omega)
  omega
theorem gcd_le {p q : Int} (h : 0 < q) : (gcdI p q).natAbs ≤ q.natAbs := by
  unfold gcdI
  rw [Int.natAbs_natCast]
  exact Nat.gcd_le_right _ (by omega)
abbrev s_shortened : Stmt := top 23
theorem sc_shortened : FnScope ["place", "common"] ["place"] (defScope s_shortened) := ⟨rfl, rfl, rfl, by decide +kernel, rfl, by decide +kernel, by decide +kernel⟩
def sp_shortened : Sp := PF (fun (x : (Int × Int) × Unit) => 0 ≤ x.1.1 ∧ 0 < x.1.2 ∧ Sm 8999 x.1.2) fun x => shortP x.1
theorem ok_shortened (D : DefAt K mg "shortened" s_shortened ["place"]) (h_common_divisor : Has P w K mg base "common_divisor" ["first", "second"] 1 sp_common_divisor) : Has P w K mg base "shortened" ["place"] 2 sp_shortened := by
  refine has_PF D sc_shortened rfl fun f cdv Ar outer s H vs Q E hr H0 a r hp q => ?_
  obtain ⟨v1, r1, rfl, hr1, rfl⟩ := r
  obtain ⟨x, u⟩ := a
  refine ⟨_, (pss_cons (ps_set (i := 1) sc_shortened.nd rfl (Or.inl rfl) (pe_has h_common_divisor (hr.mono (by decide)) (by rfl) (pa_cons (pe_ix ix_tup (pv 0) pe_int (fun _ _ => rfl)) (pa_cons (pe_ix ix_tup (pv 0) pe_int (fun _ _ => rfl)) pa_nil))))
      (pss_one (ps_ret (pe_tup (pa_cons (pe_op op_fdivW (pe_ix ix_tup (pv 0) pe_int (fun _ _ => rfl)) (pv 1)) (pa_cons (pe_op op_fdivW (pe_ix ix_tup (pv 0) pe_int (fun _ _ => rfl)) (pv 1)) pa_nil)))))), ?_⟩
  refine q_asg (ev_call (x := (x.1, x.2, ())) (ea_cons (ev_fst (x := x) (ev_v rfl hr1)) (ea_cons (ev_snd (x := x) (ev_v rfl hr1)) ea_nil)) ⟨hp.1, Int.le_of_lt hp.2.1⟩) ?_
  rintro v Hv s1 (rfl : v = _)
  have hr2 := Py.mono s1 hr1
  have hc : ∀ i : Int, CDivW i (gcdI x.1 x.2) := fun i => wide_div (b := 8999) (gcd_pos hp.2.1) (Nat.lt_of_le_of_lt (gcd_le hp.2.1) hp.2.2) (by decide) (by decide)
  exact g_ret (ev_pair (ev_I (ev_fst (x := x) (ev_v rfl hr2)) (ev_v rfl rfl) (hc _)) (ev_I (ev_snd (x := x) (ev_v rfl hr2)) (ev_v rfl rfl) (hc _))) q
abbrev s_put_once : Stmt := top 24
theorem sc_put_once : FnScope ["a", "b", "place", "p", "q", "from_the_end"] ["a", "b", "place"] (defScope s_put_once) := ⟨rfl, rfl, rfl, by decide +kernel, rfl, by decide +kernel, by decide +kernel⟩
def sp_put_once : Sp := PF (fun (x : Int × Int × (Int × Int) × Unit) => Sm 1000 x.1 ∧ Sm 1000 x.2.1 ∧ Sm2 100000 x.2.2.1) fun x => putP x.1 x.2.1 x.2.2.1
theorem ok_put_once (D : DefAt K mg "put_once" s_put_once ["a", "b", "place"]) : Has P w K mg base "put_once" ["a", "b", "place"] 1 sp_put_once := by
  refine has_PF D sc_put_once rfl fun f cdv Ar outer s H vs Q E hr H0 a r hp q => ?_
  obtain ⟨v1, r1, rfl, (rfl : v1 = _), v2, r2, rfl, (rfl : v2 = _), v3, r3, rfl, h3, rfl⟩ := r
  obtain ⟨a, b, x, u⟩ := a
  obtain ⟨ha, hb, hx⟩ := hp
  refine ⟨_, (pss_cons (ps_set (i := 3) sc_put_once.nd rfl (Or.inl rfl) (pe_ix ix_tup (pv 2) pe_int (fun _ _ => rfl)))
      (pss_cons (ps_set (i := 4) sc_put_once.nd rfl (Or.inl rfl) (pe_ix ix_tup (pv 2) pe_int (fun _ _ => rfl)))
      (pss_cons (ps_set (i := 5) sc_put_once.nd rfl (Or.inl rfl) (pe_ifExp (pt_cmpR op_le (pe_op op_mulW pe_int (pv 3)) (pv 4) (nomark _)) (pv 3) (pe_op op_sub (pv 4) (pv 3))))
      (pss_one (ps_ret (pe_tup (pa_cons (pe_op op_mulW (pv 5) (pv 0)) (pa_cons (pe_op op_mulW (pv 4) (pv 1)) pa_nil)))))))), ?_⟩
  refine q_asg (ev_fst (x := x) (ev_v rfl h3)) ?_
  rintro v Hv s1 (rfl : v = _)
  refine q_asg (ev_snd (x := x) (ev_v rfl (Py.mono s1 h3))) ?_
  rintro v Hv2 s2 (rfl : v = _)
  have hx1 : Sm 100000 x.1 := hx.1
  have hx2 : Sm 100000 x.2 := hx.2
  refine q_asg (x := if 2 * x.1 ≤ x.2 then x.1 else x.2 - x.1) (ev_if (eb_test (ev_B0 (g := fun i j => decide (i ≤ j)) (ev_I (i := 2) ev_i (ev_v (x := x.1) rfl rfl) (sm_two.cmul hx1 (by decide))) (ev_v (x := x.2) rfl rfl))) (fun e => ?_) (fun e => ?_)) ?_
  · rw [if_pos (of_decide_eq_true e)]
    exact ev_v rfl rfl
  · rw [if_neg (of_decide_eq_false e)]
    exact ev_I0 (ev_v rfl rfl) (ev_v rfl rfl)
  rintro v Hv3 s3 (rfl : v = _)
  have hf : Sm 100001 (if 2 * x.1 ≤ x.2 then x.1 else x.2 - x.1) := by
    split
    · exact hx1.up (by decide)
    · exact hx2.sub hx1
  exact g_ret (ev_pair (ev_I (ev_v rfl rfl) (ev_v rfl rfl) (hf.cmul ha (by decide))) (ev_I (ev_v rfl rfl) (ev_v rfl rfl) (hx2.cmul hb (by decide)))) q
abbrev s_letter_of : Stmt := top 25
theorem sc_letter_of : FnScope ["place", "doubled"] ["place"] (defScope s_letter_of) := ⟨rfl, rfl, rfl, by decide +kernel, rfl, by decide +kernel, by decide +kernel⟩
def sp_letter_of : Sp := PF (fun (x : (Int × Int) × Unit) => Sm2 100000 x.1) fun x => ltrI x.1
theorem ok_letter_of (D : DefAt K mg "letter_of" s_letter_of ["place"]) : Has P w K mg base "letter_of" ["place"] 1 sp_letter_of := by
  refine has_PF D sc_letter_of rfl fun f cdv Ar outer s H vs Q E hr H0 a r hp q => ?_
  obtain ⟨v1, r1, rfl, h1, rfl⟩ := r
  obtain ⟨x, u⟩ := a
  refine ⟨_, (pss_cons (ps_set (i := 1) sc_letter_of.nd rfl (Or.inl rfl) (pe_op op_mulW pe_int (pe_ix ix_tup (pv 0) pe_int (fun _ _ => rfl))))
      (pss_cons (ps_if (pt_cmpR op_lt (pv 1) (pe_ix ix_tup (pv 0) pe_int (fun _ _ => rfl)) (nomark _)) (pss_one (ps_ret pe_int)) pss_nil)
      (pss_cons (ps_if (pt_cmpR op_eq (pv 1) (pe_ix ix_tup (pv 0) pe_int (fun _ _ => rfl)) (nomark _)) (pss_one (ps_ret pe_int)) pss_nil)
      (pss_one (ps_ret pe_int))))), ?_⟩
  refine q_asg (ev_I (i := 2) ev_i (ev_fst (x := x) (ev_v rfl h1)) (sm_two.cmul hp.1 (by decide))) ?_
  rintro v Hv s1 (rfl : v = _)
  have h2 := Py.mono s1 h1
  refine q_when (eb_test (ev_B0 (g := fun i j => decide (i < j)) (ev_v (x := 2 * x.1) rfl rfl) (ev_snd (x := x) (ev_v rfl h2)))) (fun e => ?_) (fun e => ?_)
  · refine g_ret (x := ltrI x) ?_ q
    unfold ltrI
    rw [if_pos (of_decide_eq_true e)]
    exact ev_i
  have e1 := of_decide_eq_false e
  refine q_when (eb_test (ev_eqI (ev_v (x := 2 * x.1) rfl rfl) (ev_snd (x := x) (ev_v rfl h2)))) (fun e => ?_) (fun e => ?_)
  · refine g_ret (x := ltrI x) ?_ q
    unfold ltrI
    rw [if_neg e1, if_pos (of_decide_eq_true e)]
    exact ev_i
  · refine g_ret (x := ltrI x) ?_ q
    unfold ltrI
    rw [if_neg e1, if_neg (of_decide_eq_false e)]
    exact ev_i
abbrev s_row_of : Stmt := top 26
theorem sc_row_of : FnScope ["a", "b", "place", "k", "letters", "reached", "step"] ["a", "b", "place", "k"] (defScope s_row_of) := ⟨rfl, rfl, rfl, by decide +kernel, rfl, by decide +kernel, by decide +kernel⟩
def pre_row (a b : Int) (x : Int × Int) (k : Int) : Prop := Sm 1000 a ∧ Sm 1000 b ∧ Sm2 50000 x ∧ -100000 ≤ k ∧ k ≤ 40
def sp_row_of : Sp := PF (fun (x : Int × Int × (Int × Int) × Int × Unit) => pre_row x.1 x.2.1 x.2.2.1 x.2.2.2.1) fun x => rowI x.1 x.2.1 x.2.2.1 x.2.2.2.1.toNat
theorem ok_row_of (b_range : mg "range" = none) (D : DefAt K mg "row_of" s_row_of ["a", "b", "place", "k"]) (h_letter_of : Has P w K mg base "letter_of" ["place"] 1 sp_letter_of) (h_put_once : Has P w K mg base "put_once" ["a", "b", "place"] 1 sp_put_once) :
    Has P w K mg base "row_of" ["a", "b", "place", "k"] 2 sp_row_of := by
  refine has_PF D sc_row_of rfl fun f cdv Ar outer s H vs Q E hr H0 a r hp q => ?_
  obtain ⟨v1, r1, rfl, (rfl : v1 = _), v2, r2, rfl, (rfl : v2 = _), v3, r3, rfl, h3, v4, r4, rfl, (rfl : v4 = _), rfl⟩ := r
  obtain ⟨a, b, x, k, u⟩ := a
  obtain ⟨ha, hb, hx, hk1, hk2⟩ := (show pre_row a b x k from hp)
  refine ⟨_, (pss_cons (ps_set (i := 4) sc_row_of.nd rfl (Or.inl rfl) (pe_lst pa_nil))
      (pss_cons (ps_set (i := 5) sc_row_of.nd rfl (Or.inl rfl) (pv 2))
      (pss_cons (ps_for PassesOwn.never rfl (pi_range1 rfl b_range (pa_cons (pv 3) pa_nil)) (pg_name (i := 6) sc_row_of.nd rfl (Or.inl rfl)) (pss_cons (ps_expr (pe_bm PySem.F.plainAttrs_list PySem.F.slot_list_append PySem.F.type_list_append mt_append (pv 4) (pa_cons (pe_has h_letter_of (hr.mono (by decide)) (by rfl) (pa_cons (pv 5) pa_nil)) pa_nil)))
      (pss_one (ps_set (i := 5) sc_row_of.nd rfl (Or.inl rfl) (pe_has h_put_once (hr.mono (by decide)) (by rfl) (pa_cons (pv 0) (pa_cons (pv 1) (pa_cons (pv 5) pa_nil))))))))
      (pss_one (ps_ret (pv 4)))))), ?_⟩
  refine q_new fun l h0l hl _ => ?_
  refine q_asg (x := x) (ev_v rfl h3) ?_
  intro v Hv s1 hv
  refine q_forR1 (n := k) (ev_v rfl rfl) ⟨hk1, by omega⟩ (fun i st Hs M => ∃ (u : V) (ws : List V) (c : Option V), st = [some (.int a), some (.int b), some v3, some (.int k), some (.ref l), some u, c] ∧ M = [(l, .lst ws)] ∧ Py.rep Hs u (iterP a b x i) ∧ All2 (Py.rep Hs) ws (rowI a b x i) ∧ ws.length = i) ?_ ?_ ?_
  · intro Hv' s2
    exact ⟨v, [], none, rfl, rfl, Py.mono s2 hv, .nil, rfl⟩
  · rintro i st Hs M hi ⟨u, ws, c, rfl, rfl, hu, hw, lw⟩
    have hs : Sm2 100000 (iterP a b x i) := (sm_iter hx ha hb i).up (by
      have h1 : i ≤ 40 := by omega
      omega)
    refine q_app rfl (ev_call (x := (iterP a b x i, ())) (ea_cons (ev_v rfl hu) ea_nil) hs) (by omega) ?_
    intro v' Hv' s3 hv'
    refine g_asg (ev_call (x := (a, b, iterP a b x i, ())) (ea_cons (ev_v rfl rfl) (ea_cons (ev_v rfl rfl) (ea_cons (ev_v rfl (Py.mono s3 hu)) ea_nil))) ⟨ha, hb, hs⟩) ?_
    intro v'' Hv'' s4 hv''
    exact g_nx ⟨v'', _, _, rfl, rfl, hv'', ((hw.imp fun _ _ => Py.mono s3).snoc hv').imp fun _ _ => Py.mono s4, by rw [List.length_append, lw]; rfl⟩
  · rintro st Hs M ⟨u, ws, c, rfl, rfl, hu, hw, lw⟩
    refine g_froz fun h1 h2 => ?_
    exact g_ret (x := rowI a b x k.toNat) (ev_v rfl (froz_rep h1 hw)) q
abbrev s_lead_of : Stmt := top 27
theorem sc_lead_of : FnScope ["a", "b", "k"] ["a", "b", "k"] (defScope s_lead_of) := ⟨rfl, rfl, rfl, by decide +kernel, rfl, by decide +kernel, by decide +kernel⟩
def sp_lead_of : Sp := PF (fun (x : Int × Int × Int × Unit) => Sm 1000 x.1 ∧ Sm 1000 x.2.1 ∧ -100000 ≤ x.2.2.1 ∧ x.2.2.1 ≤ 40) fun x => leadI x.1 x.2.1 x.2.2.1
theorem sm_12 : Sm2 2 (1, 2) := by unfold Sm2 Sm; decide
theorem ok_lead_of (D : DefAt K mg "lead_of" s_lead_of ["a", "b", "k"]) (h_row_of : Has P w K mg base "row_of" ["a", "b", "place", "k"] 2 sp_row_of) (h_put_once : Has P w K mg base "put_once" ["a", "b", "place"] 1 sp_put_once) :
    Has P w K mg base "lead_of" ["a", "b", "k"] 3 sp_lead_of := by
  refine has_PF D sc_lead_of rfl fun f cdv Ar outer s H vs Q E hr H0 a r hp q => ?_
  obtain ⟨v1, r1, rfl, (rfl : v1 = _), v2, r2, rfl, (rfl : v2 = _), v3, r3, rfl, (rfl : v3 = _), rfl⟩ := r
  obtain ⟨a, b, k, u⟩ := a
  obtain ⟨ha, hb, hk1, hk2⟩ := hp
  refine ⟨_, (pss_one (ps_ret (pe_has h_row_of (hr.mono (by decide)) (by rfl) (pa_cons (pv 0) (pa_cons (pv 1) (pa_cons (pe_has h_put_once (hr.mono (by decide)) (by rfl) (pa_cons (pv 0) (pa_cons (pv 1) (pa_cons (pe_tup (pa_cons pe_int (pa_cons pe_int pa_nil))) pa_nil)))) (pa_cons (pv 2) pa_nil))))))), ?_⟩
  refine g_ret (ev_call (x := (a, b, putP a b (1, 2), k, ())) (ea_cons (ev_v rfl rfl) (ea_cons (ev_v rfl rfl) (ea_cons (ev_call (x := (a, b, (1, 2), ())) (ea_cons (ev_v rfl rfl) (ea_cons (ev_v rfl rfl) (ea_cons (ev_pair (x := (1 : Int)) (y := (2 : Int)) ev_i ev_i) ea_nil))) ⟨ha, hb, sm_12.up (by decide)⟩) (ea_cons (ev_v rfl rfl) ea_nil)))) ⟨ha, hb, (sm_put sm_12 ha hb).up (by decide), hk1, hk2⟩) q
end
end Ft

set_option Elab.async false
set_option linter.all false
namespace Ft
open PySem PySem.Spec PyProof.Rows L2
structure Tp (mg : Str → Option Value) : Prop where
  b_len : mg "len" = none
  b_min : mg "min" = none
  b_range : mg "range" = none
  b_sum : mg "sum" = none
  b_all : mg "all" = none
  b_list : mg "list" = none
  b_reversed : mg "reversed" = none
  c_LESS : ∃ t, mg "LESS" = some (.int 0 t)
  c_ALIKE : ∃ t, mg "ALIKE" = some (.int 1 t)
  c_GREATER : ∃ t, mg "GREATER" = some (.int 2 t)
  c_LEFT : ∃ t, mg "LEFT" = some (.int 0 t)
  c_RIGHT : ∃ t, mg "RIGHT" = some (.int 2 t)
  c_NOT_BEGUN : ∃ t, mg "NOT_BEGUN" = some (.int (-11) t)
  c_NOT_AS_TOLD : ∃ t, mg "NOT_AS_TOLD" = some (.int (-22) t)
  c_MOST_B : ∃ t, mg "MOST_B" = some (.int 400 t)
  c_MOST_Q : ∃ t, mg "MOST_Q" = some (.int 1000 t)
  c_MOST_LETTERS : ∃ t, mg "MOST_LETTERS" = some (.int 16 t)
  c_MOST_STEPS : ∃ t, mg "MOST_STEPS" = some (.int 9 t)
  c_TOO_MANY : ∃ t, mg "TOO_MANY" = some (.int (-28) t)
  c_THERE_IS_NONE : ∃ t, mg "THERE_IS_NONE" = some (.int (-33) t)
end Ft

set_option Elab.async false
set_option linter.all false
set_option maxRecDepth 100000
set_option maxHeartbeats 2000000
namespace Ft
open PySem PySem.Spec PyProof.Rows L2
section
variable {P : Program} {w : World} {K : PySem.W.Frag} {mg : Str → Option Value} {base : Heap}
abbrev s_compare : Stmt := top 34
theorem sc_compare : FnScope ["row", "other", "turned", "at", "lesser_letter"] ["row", "other"] (defScope s_compare) := ⟨rfl, rfl, rfl, by decide +kernel, rfl, by decide +kernel, by decide +kernel⟩
def sp_compare : Sp := PF (fun (x : List Int × List Int × Unit) => x.1.length ≤ 1000) fun x => cmpI x.1 x.2.1 false
theorem cmp_at {l m : List Int} {i : Nat} {x y : Int} {o : Bool} (h1 : l[i]? = some x) (h2 : m[i]? = some y) : cmpI (l.drop i) (m.drop i) o = if x = y then cmpI (l.drop (i + 1)) (m.drop (i + 1)) (o != (x == 2)) else if (decide (x < y)) != o then 0 else 2 := by
  obtain ⟨a1, rfl⟩ := List.getElem?_eq_some_iff.mp h1
  obtain ⟨a2, rfl⟩ := List.getElem?_eq_some_iff.mp h2
  rw [List.drop_eq_getElem_cons a1, List.drop_eq_getElem_cons a2]
  rfl
theorem cmp_end {l m : List Int} {i : Nat} {o : Bool} (h : l.length ≤ i ∨ m.length ≤ i) : cmpI (l.drop i) (m.drop i) o = 1 := by
  rcases h with h | h
  · rw [List.drop_eq_nil_of_le h]
    unfold cmpI
    rfl
  · rw [List.drop_eq_nil_of_le h]
    cases l.drop i <;> rfl
theorem ok_compare (T : Tp mg) (D : DefAt K mg "compare" s_compare ["row", "other"]) : Has P w K mg base "compare" ["row", "other"] 1 sp_compare := by
  refine has_PF D sc_compare rfl fun f cdv Ar outer s H vs Q E hr H0 a r hp q => ?_
  obtain ⟨v1, r1, rfl, h1, v2, r2, rfl, h2, rfl⟩ := r
  obtain ⟨l, m, u⟩ := a
  have hp : l.length ≤ 1000 := hp
  refine ⟨_, (pss_cons (ps_set (i := 2) sc_compare.nd rfl (Or.inl rfl) pe_bl)
      (pss_cons (ps_for PassesOwn.never rfl (pi_range1 rfl T.b_range (pa_cons (pe_callB (call_min2 rfl) (by rfl) T.b_min (by decide +kernel) (pa_cons (pe_callB call_len_seq (by rfl) T.b_len (by decide +kernel) (pa_cons (pv 0) pa_nil)) (pa_cons (pe_callB call_len_seq (by rfl) T.b_len (by decide +kernel) (pa_cons (pv 1) pa_nil)) pa_nil))) pa_nil)) (pg_name (i := 3) sc_compare.nd rfl (Or.inl rfl)) (pss_cons (ps_if (pt_cmpR op_ne (pe_ix ix_list (pv 0) (pv 3) (fun _ _ => rfl)) (pe_ix ix_list (pv 1) (pv 3) (fun _ _ => rfl)) (nomark _)) (pss_cons (ps_set (i := 4) sc_compare.nd rfl (Or.inl rfl) (pe_cmpR op_lt (pe_ix ix_list (pv 0) (pv 3) (fun _ _ => rfl)) (pe_ix ix_list (pv 1) (pv 3) (fun _ _ => rfl)) (nomark _)))
      (pss_one (ps_ret (pe_ifExp (pt_cmpR op_ne (pv 4) (pv 2) (nomark _)) (pe_gi T.c_LESS (by rfl)) (pe_gi T.c_GREATER (by rfl)))))) pss_nil)
      (pss_one (ps_if (pt_cmpR op_eq (pe_ix ix_list (pv 0) (pv 3) (fun _ _ => rfl)) (pe_gi T.c_RIGHT (by rfl)) (nomark _)) (pss_one (ps_set (i := 2) sc_compare.nd rfl (Or.inl rfl) (pe_not (pv 2)))) pss_nil))))
      (pss_one (ps_ret (pe_gi T.c_ALIKE (by rfl)))))), ?_⟩
  refine q_asg (x := false) ev_b ?_
  rintro v Hv s1 (rfl : v = _)
  have h1 := Py.mono s1 h1
  have h2 := Py.mono s1 h2
  refine q_forR1 (ev_min2 (ev_len (xs := l) (ev_v rfl h1)) (ev_len (xs := m) (ev_v rfl h2))) ⟨by split <;> omega, by split <;> omega⟩ (fun i st Hs M => ∃ (o : Bool) (c d : Option V), st = [some v1, some v2, some (.bl o), c, d] ∧ M = [] ∧ Same Hv Hs ∧ cmpI (l.drop i) (m.drop i) o = cmpI l m false) ?_ ?_ ?_
  · intro Hv' s2
    exact ⟨false, none, none, rfl, rfl, s2, rfl⟩
  · rintro i st Hs M hi ⟨o, c, d, rfl, rfl, sm, e⟩
    have h1 := Py.mono sm h1
    have h2 := Py.mono sm h2
    have i1 : i < l.length := by split at hi <;> omega
    have i2 : i < m.length := by split at hi <;> omega
    obtain ⟨x, hx⟩ : ∃ x, l[i]? = some x := ⟨l[i], List.getElem?_eq_getElem i1⟩
    obtain ⟨y, hy⟩ : ∃ y, m[i]? = some y := ⟨m[i], List.getElem?_eq_getElem i2⟩
    rw [cmp_at hx hy] at e
    have ei : ∀ {st : L2.St} {H' : Hp}, st[3]? = some (some (.int (i : Int))) → EvR (tVar 3) st H' (i : Int) := fun h => ev_v h rfl
    refine q_when (eb_test (ev_neI (ev_ixL (ev_v rfl h1) (ei rfl) (by omega) hx) (ev_ixL (ev_v rfl h2) (ei rfl) (by omega) hy))) (fun b => ?_) (fun b => ?_)
    · have b : ¬ x = y := by simpa using b
      rw [if_neg b] at e
      refine q_asg (x := decide (x < y)) (ev_B0 (g := fun i j => decide (i < j)) (ev_ixL (ev_v rfl h1) (ei rfl) (by omega) hx) (ev_ixL (ev_v rfl h2) (ei rfl) (by omega) hy)) ?_
      rintro v Hv3 s3 (rfl : v = _)
      refine g_ret (x := cmpI l m false) (ev_if (eb_test (ev_neB (i := decide (x < y)) (j := o) (ev_v rfl rfl) (ev_v rfl rfl))) (fun b2 => ?_) (fun b2 => ?_)) q
      · rw [if_pos b2] at e
        rw [← e]
        exact ev_i
      · rw [if_neg (by rw [b2]; decide)] at e
        rw [← e]
        exact ev_i
    · have b : x = y := by simpa using b
      rw [if_pos b] at e
      refine g_when (eb_test (ev_eqI (ev_ixL (ev_v rfl h1) (ei rfl) (by omega) hx) (ev_i (i := 2)))) (fun b2 => ?_) (fun b2 => ?_)
      · have b2 : x = 2 := of_decide_eq_true b2
        refine g_asg (x := !o) (ev_not (ev_v rfl rfl)) ?_
        rintro v Hv3 s3 (rfl : v = _)
        refine g_nx ⟨!o, _, _, rfl, rfl, sm.trans s3, ?_⟩
        rw [← e, b2]
        cases o <;> rfl
      · have b2 : ¬ x = 2 := of_decide_eq_false b2
        refine g_nx ⟨o, _, _, rfl, rfl, sm, ?_⟩
        have e2 : (x == 2) = false := by simpa using b2
        rw [e2] at e
        rw [← e]
        cases o <;> rfl
  · rintro st Hs M ⟨o, c, d, rfl, rfl, sm, e⟩
    rw [cmp_end (by split <;> omega)] at e
    refine g_ret (x := cmpI l m false) ?_ q
    rw [← e]
    exact ev_i
abbrev s_row_fits : Stmt := top 35
theorem sc_row_fits : FnScope ["row", "lead", "start"] ["row", "lead"] (defScope s_row_fits) := ⟨rfl, rfl, rfl, by decide +kernel, rfl, by decide +kernel, by decide +kernel⟩
def sp_row_fits : Sp := PF (fun (x : List Int × List Int × Unit) => x.1.length ≤ 1000) fun x => fitsI x.1 x.2.1
theorem ok_row_fits (T : Tp mg) (D : DefAt K mg "row_fits" s_row_fits ["row", "lead"]) (h_compare : Has P w K mg base "compare" ["row", "other"] 1 sp_compare) : Has P w K mg base "row_fits" ["row", "lead"] 2 sp_row_fits := by
  refine has_PF D sc_row_fits rfl fun f cdv Ar outer s H vs Q E hr H0 a r hp q => ?_
  obtain ⟨v1, r1, rfl, h1, v2, r2, rfl, h2, rfl⟩ := r
  obtain ⟨l, m, u⟩ := a
  have hp : l.length ≤ 1000 := hp
  refine ⟨_, (pss_cons (ps_for PassesOwn.never rfl (pi_range2 rfl T.b_range (pa_cons pe_int (pa_cons (pe_callB call_len_seq (by rfl) T.b_len (by decide +kernel) (pa_cons (pv 0) pa_nil)) pa_nil))) (pg_name (i := 2) sc_row_fits.nd rfl (Or.inl rfl)) (pss_one (ps_if (pt_cmpR op_eq (pe_has h_compare (hr.mono (by decide)) (by rfl) (pa_cons (pe_slice sl_list (pv 0) (po_some (pv 2)) po_none) (pa_cons (pv 1) pa_nil))) (pe_gi T.c_GREATER (by rfl)) (nomark _)) (pss_one (ps_ret pe_bl)) pss_nil)))
      (pss_one (ps_ret pe_bl))), ?_⟩
  refine q_forR2 (lo := 1) ev_i (ev_len (xs := l) (ev_v rfl h1)) ⟨by omega, by omega, by omega, by omega⟩ (fun i st Hs M => ∃ (c : Option V), st = [some v1, some v2, c] ∧ M = [] ∧ Same H0 Hs ∧ (List.range i).all (fun i => decide (¬ cmpI (l.drop (1 + i)) m false = 2)) = true) ?_ ?_ ?_
  · intro Hv s2
    exact ⟨none, rfl, rfl, s2, rfl⟩
  · rintro i st Hs M hi ⟨c, rfl, rfl, sm, e⟩
    have h1 := Py.mono sm h1
    have h2 := Py.mono sm h2
    have ec : cut l (some (1 + (i : Int))) none = l.drop (1 + i) := by
      rw [cut_from l (by omega), show (1 + (i : Int)).toNat = 1 + i by omega]
    refine g_when (eb_test (ev_eqI (ev_call (x := (cut l (some (1 + (i : Int))) none, m, ())) (ea_cons (ev_sl (ev_v rfl h1) (eo_some (ev_v rfl rfl)) eo_none) (ea_cons (ev_v rfl h2) ea_nil)) (by
      show (cut l (some (1 + (i : Int))) none).length ≤ 1000
      rw [ec, List.length_drop]
      omega)) (ev_i (i := 2)))) (fun b => ?_) (fun b => ?_)
    · have b := of_decide_eq_true b
      dsimp only at b
      rw [ec] at b
      refine g_ret (x := fitsI l m) ?_ q
      have e2 : fitsI l m = false := by
        unfold fitsI
        rw [List.all_eq_false]
        exact ⟨i, List.mem_range.mpr (by omega), by simp [b]⟩
      rw [e2]
      exact ev_b
    · have b := of_decide_eq_false b
      dsimp only at b
      rw [ec] at b
      refine g_nx ⟨_, rfl, rfl, sm, ?_⟩
      rw [List.range_succ, List.all_append, e]
      simp [b]
  · rintro st Hs M ⟨c, rfl, rfl, sm, e⟩
    refine g_ret (x := fitsI l m) ?_ q
    have e2 : fitsI l m = true := by
      unfold fitsI
      have e3 : ((l.length : Int) - 1).toNat = l.length - 1 := by omega
      rw [e3] at e
      exact e
    rw [e2]
    exact ev_b
theorem ahead_len : ∀ rs : List (List Int), (aheadI rs).length = 2 * rs.length
  | [] => rfl
  | r :: rs => by
    have e := ahead_len rs
    unfold aheadI at e ⊢
    rw [List.flatMap_cons, List.length_append, e, List.length_cons]
    show 2 + 2 * rs.length = 2 * (rs.length + 1)
    omega
abbrev s_with_a_letter_ahead : Stmt := top 36
theorem sc_with_a_letter_ahead : FnScope ["rows", "longer", "row"] ["rows"] (defScope s_with_a_letter_ahead) := ⟨rfl, rfl, rfl, by decide +kernel, rfl, by decide +kernel, by decide +kernel⟩
def sp_with_a_letter_ahead : Sp := PF (fun (x : List (List Int) × Unit) => x.1.length ≤ 10000 ∧ ∀ r ∈ x.1, r.length ≤ 1000) fun x => aheadI x.1
theorem ok_with_a_letter_ahead (T : Tp mg) (D : DefAt K mg "with_a_letter_ahead" s_with_a_letter_ahead ["rows"]) : Has P w K mg base "with_a_letter_ahead" ["rows"] 1 sp_with_a_letter_ahead := by
  refine has_PF D sc_with_a_letter_ahead rfl fun f cdv Ar outer s H vs Q E hr H0 a r hp q => ?_
  obtain ⟨v1, r1, rfl, h1, rfl⟩ := r
  obtain ⟨rs, u⟩ := a
  obtain ⟨hp1, hp2⟩ := (show rs.length ≤ 10000 ∧ ∀ r ∈ rs, r.length ≤ 1000 from hp)
  refine ⟨_, (pss_cons (ps_set (i := 1) sc_with_a_letter_ahead.nd rfl (Or.inl rfl) (pe_lst pa_nil))
      (pss_cons (ps_for PassesOwn.never rfl (pi_list (pv 0)) (pg_name (i := 2) sc_with_a_letter_ahead.nd rfl (Or.inl rfl)) (pss_cons (ps_expr (pe_bm PySem.F.plainAttrs_list PySem.F.slot_list_append PySem.F.type_list_append mt_append (pv 1) (pa_cons (pe_op op_cat (pe_lst (pa_cons (pe_gi T.c_LEFT (by rfl)) pa_nil)) (pv 2)) pa_nil)))
      (pss_one (ps_expr (pe_bm PySem.F.plainAttrs_list PySem.F.slot_list_append PySem.F.type_list_append mt_append (pv 1) (pa_cons (pe_op op_cat (pe_lst (pa_cons (pe_gi T.c_RIGHT (by rfl)) pa_nil)) (pv 2)) pa_nil))))))
      (pss_one (ps_ret (pv 1))))), ?_⟩
  refine q_new fun l h0l hl _ => ?_
  refine q_forL (xs := rs) (ev_v rfl h1) (fun Hv i st Hs M => ∃ (ws : List V) (c : Option V), st = [some v1, some (.ref l), c] ∧ M = [(l, .lst ws)] ∧ Same Hv Hs ∧ All2 (Py.rep Hs) ws (aheadI (rs.take i)) ∧ ws.length = 2 * i) ?_ ?_ ?_ ?_
  · intro Hv s2
    exact ⟨[], none, rfl, rfl, Same.refl _, .nil, rfl⟩
  · rintro Hv i st Hs M ⟨ws, c, _, _, sm, _⟩
    exact sm
  · rintro Hv i v r st Hs M s2 hi hv ⟨ws, c, rfl, rfl, sm, hw, lw⟩
    have hm : r ∈ rs := List.mem_of_getElem? hi
    have hi' : i < rs.length := (List.getElem?_eq_some_iff.mp hi).1
    have hrl := hp2 r hm
    refine q_app rfl (ev_cat (xs := [0]) (ys := r) (ev_lst (el_cons ev_i el_nil) (by decide)) (ev_v rfl hv) (by simp; omega)) (by omega) ?_
    intro v' Hv' s3 hv'
    refine g_app rfl (ev_cat (xs := [2]) (ys := r) (ev_lst (el_cons ev_i el_nil) (by decide)) (ev_v rfl (Py.mono s3 hv)) (by simp; omega)) (by simp; omega) ?_
    intro v'' Hv'' s4 hv''
    refine g_nx ⟨_, _, rfl, rfl, (sm.trans s3).trans s4, ?_, by simp; omega⟩
    have e : rs.take (i + 1) = rs.take i ++ [r] := by
      rw [List.take_add_one, hi]
      rfl
    have e2 : aheadI (rs.take (i + 1)) = (aheadI (rs.take i) ++ [[0] ++ r]) ++ [[2] ++ r] := by
      rw [e]
      unfold aheadI
      rw [List.flatMap_append, List.append_assoc]
      rfl
    rw [e2]
    exact (((hw.imp fun _ _ => Py.mono s3).snoc hv').imp fun _ _ => Py.mono s4).snoc hv''
  · rintro Hv st Hs M s2 ⟨ws, c, rfl, rfl, sm, hw, lw⟩
    rw [List.take_length] at hw
    refine g_froz fun h1 h2 => ?_
    exact g_ret (x := aheadI rs) (ev_v rfl (froz_rep h1 hw)) q
theorem kept_len (lead : List Int) : ∀ n, (keptI lead n).length ≤ 2 ^ n
  | 0 => Nat.le_refl _
  | n + 1 => by
    have e := kept_len lead n
    have e2 := List.length_filter_le (fun r => !decide (cmpI r lead false = 2)) (aheadI (keptI lead n))
    rw [ahead_len] at e2
    show ((aheadI (keptI lead n)).filter _).length ≤ 2 ^ (n + 1)
    rw [Nat.pow_succ]
    omega
theorem ahead_row {n : Nat} {rs : List (List Int)} (h : ∀ r ∈ rs, r.length = n) : ∀ r ∈ aheadI rs, r.length = n + 1 := by
  intro r hr
  unfold aheadI at hr
  obtain ⟨x, hx, hm⟩ := List.mem_flatMap.mp hr
  have e := h x hx
  simp only [List.mem_cons, List.not_mem_nil, or_false] at hm
  rcases hm with rfl | rfl <;> rw [List.length_cons, e]
theorem kept_row (lead : List Int) : ∀ n, ∀ r ∈ keptI lead n, r.length = n
  | 0 => by
    intro r hr
    simp only [keptI, List.mem_cons, List.not_mem_nil, or_false] at hr
    rw [hr]
    rfl
  | n + 1 => by
    intro r hr
    exact ahead_row (kept_row lead n) r (List.mem_filter.mp hr).1
abbrev s_count_fitting : Stmt := top 38
theorem sc_count_fitting : FnScope ["lead", "k", "kept", "step", "longer", "row"] ["lead", "k"] (defScope s_count_fitting) := ⟨rfl, rfl, rfl, by decide +kernel, rfl, by decide +kernel, by decide +kernel⟩
def sp_count_fitting : Sp := PF (fun (x : List Int × Int × Unit) => 1 ≤ x.2.1 ∧ x.2.1 ≤ 12) fun x => ((aheadI (keptI x.1 (x.2.1 - 1).toNat)).length : Int)
theorem ok_count_fitting (T : Tp mg) (D : DefAt K mg "count_fitting" s_count_fitting ["lead", "k"]) (h_compare : Has P w K mg base "compare" ["row", "other"] 1 sp_compare) (h_with_a_letter_ahead : Has P w K mg base "with_a_letter_ahead" ["rows"] 1 sp_with_a_letter_ahead) :
    Has P w K mg base "count_fitting" ["lead", "k"] 2 sp_count_fitting := by
  refine has_PF D sc_count_fitting rfl fun f cdv Ar outer s H vs Q E hr H0 a r hp q => ?_
  obtain ⟨v1, r1, rfl, h1, v2, r2, rfl, (rfl : v2 = _), rfl⟩ := r
  obtain ⟨lead, k, u⟩ := a
  obtain ⟨hk1, hk2⟩ := (show 1 ≤ k ∧ k ≤ 12 from hp)
  refine ⟨_, (pss_cons (ps_set (i := 2) sc_count_fitting.nd rfl (Or.inl rfl) (pe_lst (pa_cons (pe_lst pa_nil) pa_nil)))
      (pss_cons (ps_for PassesOwn.never rfl (pi_range1 rfl T.b_range (pa_cons (pe_op op_sub (pv 1) pe_int) pa_nil)) (pg_name (i := 3) sc_count_fitting.nd rfl (Or.inl rfl)) (pss_cons (ps_set (i := 4) sc_count_fitting.nd rfl (Or.inl rfl) (pe_has h_with_a_letter_ahead (hr.mono (by decide)) (by rfl) (pa_cons (pv 2) pa_nil)))
      (pss_one (ps_setLc (i := 2) (own := [("row", 5)]) (g := gName 5) (by rfl) sc_count_fitting.nd rfl rfl (sw_true rfl rfl rfl (by decide +kernel)) (pi_list (pv 4)) (blkOk_by (own := [("row", 5)]) (N := ["lead", "k", "kept", "step", "longer", "row"]) (sc := defScope s_count_fitting) (by decide +kernel)) (fun _ _ _ _ _ => pg_name (i := 5) sc_count_fitting.nd rfl (Or.inl rfl)) (fun _ _ _ _ _ => pts_one (pt_cmpR op_ne (pe_has h_compare (hr.mono (by decide)) (by rfl) (pa_cons (pv 5) (pa_cons (pv 0) pa_nil))) (pe_gi T.c_GREATER (by rfl)) (nomark _))) (fun _ _ _ _ _ => (pv 5))))))
      (pss_one (ps_ret (pe_callB call_len_seq (by rfl) T.b_len (by decide +kernel) (pa_cons (pe_has h_with_a_letter_ahead (hr.mono (by decide)) (by rfl) (pa_cons (pv 2) pa_nil)) pa_nil)))))), ?_⟩
  have hpre : ∀ n : Nat, n ≤ 12 → (keptI lead n).length ≤ 10000 ∧ ∀ r ∈ keptI lead n, r.length ≤ 1000 := fun n hn => ⟨Nat.le_trans (kept_len lead n) (Nat.le_trans (Nat.pow_le_pow_right (by decide) hn) (by decide)), fun r hr => by rw [kept_row lead n r hr]; omega⟩
  refine q_asg (x := [([] : List Int)]) (ev_lst (el_cons (ev_lst el_nil (by decide)) el_nil) (by decide)) ?_
  intro v Hv s1 hv
  refine q_forR1 (n := k - 1) (ev_I0 (g := fun i j => i - j) (ev_v rfl rfl) ev_i) ⟨by omega, by omega⟩ (fun i st Hs M => ∃ (u : V) (c d : Option V), st = [some v1, some (.int k), some u, c, d, none] ∧ M = [] ∧ Same Hv Hs ∧ Py.rep Hs u (keptI lead i)) ?_ ?_ ?_
  · intro Hv' s2
    exact ⟨v, none, none, rfl, rfl, s2, Py.mono s2 hv⟩
  · rintro i st Hs M hi ⟨u, c, d, rfl, rfl, sm, hu⟩
    refine q_asg (ev_call (x := (keptI lead i, ())) (ea_cons (ev_v rfl hu) ea_nil) (hpre i (by omega))) ?_
    intro v' Hv' s3 hv'
    have hl := Py.mono ((s1.trans sm).trans s3) h1
    refine g_asg (ev_lc (xs := aheadI (keptI lead i)) (f := fun r => !decide (cmpI r lead false = 2)) (g := fun r => r) (ev_v rfl hv') (by
        rw [ahead_len]
        have := (hpre i (by omega)).1
        omega) ?_ ?_) ?_
    · intro z y Hx hy sx hz
      refine (eb_test (ev_neI (ev_call (x := (y, lead, ())) (ea_cons (ev_v rfl hz) (ea_cons (ev_v rfl (Py.mono sx hl)) ea_nil)) (by
        show y.length ≤ 1000
        rw [ahead_row (kept_row lead i) y hy]
        omega)) (ev_i (i := 2))))
    · intro z y Hx hy sx hz _
      exact ev_v rfl hz
    intro v'' Hv'' s4 hv''
    refine g_nx ⟨v'', _, _, rfl, rfl, (sm.trans s3).trans s4, ?_⟩
    rw [List.map_id'] at hv''
    exact hv''
  · rintro st Hs M ⟨u, c, d, rfl, rfl, sm, hu⟩
    exact g_ret (ev_len (ev_call (x := (keptI lead (k - 1).toNat, ())) (ea_cons (ev_v rfl hu) ea_nil) (hpre _ (by omega)))) q
end
end Ft

set_option Elab.async false
set_option linter.all false
set_option maxRecDepth 100000
set_option maxHeartbeats 2000000
namespace Ft
open PySem PySem.Spec PyProof.Rows L2
section
variable {P : Program} {w : World} {K : PySem.W.Frag} {mg : Str → Option Value} {base : Heap}
/-! ### all rows -/
theorem all_len : ∀ n, (allI n).length = 2 ^ n
  | 0 => rfl
  | n + 1 => by
    show (aheadI (allI n)).length = _
    rw [ahead_len, all_len n, Nat.pow_succ, Nat.mul_comm]
theorem all_row : ∀ n, ∀ r ∈ allI n, r.length = n
  | 0 => by
    intro r hr
    simp only [allI, List.mem_cons, List.not_mem_nil, or_false] at hr
    rw [hr]
    rfl
  | n + 1 => fun r hr => ahead_row (all_row n) r hr
theorem all_pre (n : Nat) (hn : n ≤ 12) : (allI n).length ≤ 10000 ∧ ∀ r ∈ allI n, r.length ≤ 1000 := ⟨by
  rw [all_len]
  exact Nat.le_trans (Nat.pow_le_pow_right (by decide) hn) (by decide), fun r hr => by
  rw [all_row n r hr]
  omega⟩
abbrev s_all_rows : Stmt := top 37
theorem sc_all_rows : FnScope ["k", "rows", "step"] ["k"] (defScope s_all_rows) := ⟨rfl, rfl, rfl, by decide +kernel, rfl, by decide +kernel, by decide +kernel⟩
def sp_all_rows : Sp := PF (fun (x : Int × Unit) => 0 ≤ x.1 ∧ x.1 ≤ 12) fun x => allI x.1.toNat
theorem ok_all_rows (T : Tp mg) (D : DefAt K mg "all_rows" s_all_rows ["k"]) (h_with_a_letter_ahead : Has P w K mg base "with_a_letter_ahead" ["rows"] 1 sp_with_a_letter_ahead) : Has P w K mg base "all_rows" ["k"] 2 sp_all_rows := by
  refine has_PF D sc_all_rows rfl fun f cdv Ar outer s H vs Q E hr H0 a r hp q => ?_
  obtain ⟨v1, r1, rfl, (rfl : v1 = _), rfl⟩ := r
  obtain ⟨k, u⟩ := a
  obtain ⟨hk1, hk2⟩ := (show 0 ≤ k ∧ k ≤ 12 from hp)
  refine ⟨_, (pss_cons (ps_set (i := 1) sc_all_rows.nd rfl (Or.inl rfl) (pe_lst (pa_cons (pe_lst pa_nil) pa_nil)))
      (pss_cons (ps_for PassesOwn.never rfl (pi_range1 rfl T.b_range (pa_cons (pv 0) pa_nil)) (pg_name (i := 2) sc_all_rows.nd rfl (Or.inl rfl)) (pss_one (ps_set (i := 1) sc_all_rows.nd rfl (Or.inl rfl) (pe_has h_with_a_letter_ahead (hr.mono (by decide)) (by rfl) (pa_cons (pv 1) pa_nil)))))
      (pss_one (ps_ret (pv 1))))), ?_⟩
  refine q_asg (x := [([] : List Int)]) (ev_lst (el_cons (ev_lst el_nil (by decide)) el_nil) (by decide)) ?_
  intro v Hv s1 hv
  refine q_forR1 (n := k) (ev_v rfl rfl) ⟨by omega, by omega⟩ (fun i st Hs M => ∃ (u : V) (c : Option V), st = [some (.int k), some u, c] ∧ M = [] ∧ Same Hv Hs ∧ Py.rep Hs u (allI i)) ?_ ?_ ?_
  · intro Hv' s2
    exact ⟨v, none, rfl, rfl, s2, Py.mono s2 hv⟩
  · rintro i st Hs M hi ⟨u, c, rfl, rfl, sm, hu⟩
    refine g_asg (ev_call (x := (allI i, ())) (ea_cons (ev_v rfl hu) ea_nil) (all_pre i (by omega))) ?_
    intro v' Hv' s3 hv'
    exact g_nx ⟨v', _, rfl, rfl, sm.trans s3, hv'⟩
  · rintro st Hs M ⟨u, c, rfl, rfl, sm, hu⟩
    exact g_ret (x := allI k.toNat) (ev_v rfl hu) q
/-! ### the place that is put onto itself -/
structure Sz (n : Nat) (z : Int × Int × Int) : Prop where
  s1 : Sm n z.1
  s2 : Sm n z.2.1
  s3 : Sm n z.2.2
theorem Sm.neg {n : Nat} {i : Int} (h : Sm n i) : Sm n (-i) := by
  unfold Sm at *
  omega
theorem sz_step {n m : Nat} {a b c : Int} {z : Int × Int × Int} (h : Sz n z) (ha : Sm m a) (hb : Sm m b) : Sz (n + 1 + m) (alongStep a b z c) := by
  obtain ⟨s1, s2, s3⟩ := h
  unfold alongStep
  split
  · exact ⟨(s1.neg.up (Nat.le_succ n)).mul ha, (s3.sub s2).mul ha, (s3.up (Nat.le_succ n)).mul hb⟩
  · exact ⟨(s1.up (Nat.le_succ n)).mul ha, (s2.up (Nat.le_succ n)).mul ha, (s3.up (Nat.le_succ n)).mul hb⟩
theorem Sz.up {n m : Nat} {z : Int × Int × Int} (h : Sz n z) (le : n ≤ m) : Sz m z := ⟨h.s1.up le, h.s2.up le, h.s3.up le⟩
theorem sz_along {a b : Int} (ha : Sm 100 a) (hb : Sm 100 b) : ∀ (l : List Int) {n : Nat} {z : Int × Int × Int}, Sz n z → Sz (n + 101 * l.length) (alongI a b l z)
  | [], n, z, h => h
  | c :: l, n, z, h => by
    have e := sz_along ha hb l (sz_step (c := c) h ha hb)
    refine e.up ?_
    rw [List.length_cons]
    omega
theorem sz_one : Sz 1 (1, 0, 1) := ⟨by unfold Sm; decide, by unfold Sm; decide, by unfold Sm; decide⟩
theorem sz_take {a b : Int} (ha : Sm 100 a) (hb : Sm 100 b) (l : List Int) (hl : l.length ≤ 20) (i : Nat) : Sz 3000 (alongI a b (l.take i) (1, 0, 1)) := by
  refine (sz_along ha hb (l.take i) sz_one).up ?_
  rw [List.length_take]
  omega
theorem along_take {a b : Int} {l : List Int} {i : Nat} {x : Int} (h : l[i]? = some x) : alongI a b (l.take (i + 1)) (1, 0, 1) = alongStep a b (alongI a b (l.take i) (1, 0, 1)) x := by
  rw [List.take_add_one, h]
  unfold alongI
  rw [List.foldl_append]
  rfl
abbrev s_place_put_onto_itself : Stmt := top 40
theorem sc_place_put_onto_itself : FnScope ["a", "b", "row", "slope", "start", "over", "letter"] ["a", "b", "row"] (defScope s_place_put_onto_itself) := ⟨rfl, rfl, rfl, by decide +kernel, rfl, by decide +kernel, by decide +kernel⟩
def pre_fix (a b : Int) (l : List Int) : Prop := Sm 100 a ∧ Sm 100 b ∧ l.length ≤ 20
def sp_place_put_onto_itself : Sp := PF (fun (x : Int × Int × List Int × Unit) => pre_fix x.1 x.2.1 x.2.2.1) fun x => fixI x.1 x.2.1 x.2.2.1
theorem ok_place_put_onto_itself (T : Tp mg) (D : DefAt K mg "place_put_onto_itself" s_place_put_onto_itself ["a", "b", "row"]) : Has P w K mg base "place_put_onto_itself" ["a", "b", "row"] 1 sp_place_put_onto_itself := by
  refine has_PF D sc_place_put_onto_itself rfl fun f cdv Ar outer s H vs Q E hr H0 a r hp q => ?_
  obtain ⟨v1, r1, rfl, (rfl : v1 = _), v2, r2, rfl, (rfl : v2 = _), v3, r3, rfl, h3, rfl⟩ := r
  obtain ⟨a, b, l, u⟩ := a
  obtain ⟨ha, hb, hl⟩ := (show pre_fix a b l from hp)
  refine ⟨_, (pss_cons (ps_set (i := 3) sc_place_put_onto_itself.nd rfl (Or.inl rfl) pe_int)
      (pss_cons (ps_set (i := 4) sc_place_put_onto_itself.nd rfl (Or.inl rfl) pe_int)
      (pss_cons (ps_set (i := 5) sc_place_put_onto_itself.nd rfl (Or.inl rfl) pe_int)
      (pss_cons (ps_for PassesOwn.never rfl (pi_list (pv 2)) (pg_name (i := 6) sc_place_put_onto_itself.nd rfl (Or.inl rfl)) (pss_cons (ps_if (pt_cmpR op_eq (pv 6) (pe_gi T.c_RIGHT (by rfl)) (nomark _)) (pss_cons (ps_set (i := 3) sc_place_put_onto_itself.nd rfl (Or.inl rfl) (pe_un un_neg (pv 3)))
      (pss_one (ps_set (i := 4) sc_place_put_onto_itself.nd rfl (Or.inl rfl) (pe_op op_sub (pv 5) (pv 4))))) pss_nil)
      (pss_cons (ps_set (i := 3) sc_place_put_onto_itself.nd rfl (Or.inl rfl) (pe_op op_mulW (pv 3) (pv 0)))
      (pss_cons (ps_set (i := 4) sc_place_put_onto_itself.nd rfl (Or.inl rfl) (pe_op op_mulW (pv 4) (pv 0)))
      (pss_one (ps_set (i := 5) sc_place_put_onto_itself.nd rfl (Or.inl rfl) (pe_op op_mulW (pv 5) (pv 1))))))))
      (pss_cons (ps_if (pt_cmpR op_lt (pv 3) pe_int (nomark _)) (pss_one (ps_ret (pe_tup (pa_cons (pv 4) (pa_cons (pe_op op_sub (pv 5) (pv 3)) pa_nil))))) pss_nil)
      (pss_one (ps_ret (pe_tup (pa_cons (pe_un un_neg (pv 4)) (pa_cons (pe_op op_sub (pv 3) (pv 5)) pa_nil)))))))))), ?_⟩
  refine q_asg (x := (1 : Int)) ev_i ?_
  rintro v Hv1 s1 (rfl : v = _)
  refine q_asg (x := (0 : Int)) ev_i ?_
  rintro v Hv2 s2 (rfl : v = _)
  refine q_asg (x := (1 : Int)) ev_i ?_
  rintro v Hv3 s3 (rfl : v = _)
  have h3 := Py.mono ((s1.trans s2).trans s3) h3
  refine q_forL (xs := l) (ev_v rfl h3) (fun Hv i st Hs M => ∃ (c : Option V), st = [some (.int a), some (.int b), some v3, some (.int (alongI a b (l.take i) (1, 0, 1)).1), some (.int (alongI a b (l.take i) (1, 0, 1)).2.1), some (.int (alongI a b (l.take i) (1, 0, 1)).2.2), c] ∧ M = [] ∧ Same Hv Hs) ?_ ?_ ?_ ?_
  · intro Hv s4
    exact ⟨none, rfl, rfl, Same.refl _⟩
  · rintro Hv i st Hs M ⟨c, _, _, sm⟩
    exact sm
  · rintro Hv i v x st Hs M s4 hi hv ⟨c, rfl, rfl, sm⟩
    have hv : v = .int x := hv
    subst hv
    have ez := along_take (a := a) (b := b) hi
    obtain ⟨z1, z2, z3⟩ := sz_take ha hb l hl i
    generalize hz : alongI a b (l.take i) (1, 0, 1) = z at *
    refine q_when (eb_test (ev_eqI (ev_v (x := x) rfl rfl) (ev_i (i := 2)))) (fun e => ?_) (fun e => ?_)
    · have e := of_decide_eq_true e
      refine q_asg (x := -z.1) (ev_neg (ev_v rfl rfl)) ?_
      rintro v Hv4 s5 (rfl : v = _)
      refine g_asg (x := z.2.2 - z.2.1) (ev_I0 (g := fun i j => i - j) (ev_v rfl rfl) (ev_v rfl rfl)) ?_
      rintro v Hv5 s6 (rfl : v = _)
      refine q_asg (x := -z.1 * a) (ev_I (g := fun i j => i * j) (ev_v rfl rfl) (ev_v rfl rfl) (z1.neg.cmul ha (by decide))) ?_
      rintro v Hv6 s7 (rfl : v = _)
      refine q_asg (x := (z.2.2 - z.2.1) * a) (ev_I (g := fun i j => i * j) (ev_v rfl rfl) (ev_v rfl rfl) ((z3.sub z2).cmul ha (by decide))) ?_
      rintro v Hv7 s8 (rfl : v = _)
      refine g_asg (x := z.2.2 * b) (ev_I (g := fun i j => i * j) (ev_v rfl rfl) (ev_v rfl rfl) (z3.cmul hb (by decide))) ?_
      rintro v Hv8 s9 (rfl : v = _)
      refine g_nx ⟨some (.int x), ?_, rfl, ((((sm.trans s5).trans s6).trans s7).trans s8).trans s9⟩
      unfold alongStep at ez
      rw [if_pos e] at ez
      rw [ez]
      rfl
    · have e := of_decide_eq_false e
      refine q_asg (x := z.1 * a) (ev_I (g := fun i j => i * j) (ev_v rfl rfl) (ev_v rfl rfl) (z1.cmul ha (by decide))) ?_
      rintro v Hv6 s7 (rfl : v = _)
      refine q_asg (x := z.2.1 * a) (ev_I (g := fun i j => i * j) (ev_v rfl rfl) (ev_v rfl rfl) (z2.cmul ha (by decide))) ?_
      rintro v Hv7 s8 (rfl : v = _)
      refine g_asg (x := z.2.2 * b) (ev_I (g := fun i j => i * j) (ev_v rfl rfl) (ev_v rfl rfl) (z3.cmul hb (by decide))) ?_
      rintro v Hv8 s9 (rfl : v = _)
      refine g_nx ⟨some (.int x), ?_, rfl, ((sm.trans s7).trans s8).trans s9⟩
      unfold alongStep at ez
      rw [if_neg e] at ez
      rw [ez]
      rfl
  · rintro Hv st Hs M s4 ⟨c, rfl, rfl, sm⟩
    rw [List.take_length]
    have ef : fixI a b l = fixOf (alongI a b l (1, 0, 1)) := rfl
    generalize alongI a b l (1, 0, 1) = z at *
    refine q_when (eb_test (ev_B0 (g := fun i j => decide (i < j)) (ev_v (x := z.1) rfl rfl) (ev_i (i := 0)))) (fun e => ?_) (fun e => ?_)
    · refine g_ret (x := fixI a b l) ?_ q
      rw [ef]
      unfold fixOf
      rw [if_pos (of_decide_eq_true e)]
      exact ev_pair (ev_v rfl rfl) (ev_I0 (g := fun i j => i - j) (ev_v rfl rfl) (ev_v rfl rfl))
    · refine g_ret (x := fixI a b l) ?_ q
      rw [ef]
      unfold fixOf
      rw [if_neg (of_decide_eq_false e)]
      exact ev_pair (ev_neg (ev_v rfl rfl)) (ev_I0 (g := fun i j => i - j) (ev_v rfl rfl) (ev_v rfl rfl))
/-! ### the place that comes back -/
theorem sz_fix {a b : Int} (ha : Sm 100 a) (hb : Sm 100 b) (l : List Int) (hl : l.length ≤ 20) : Sm2 3001 (fixI a b l) := by
  have h := sz_take ha hb l hl l.length
  rw [List.take_length] at h
  unfold fixI fixOf
  generalize alongI a b l (1, 0, 1) = z at *
  split
  · exact ⟨h.s2.up (by decide), h.s3.sub h.s1⟩
  · exact ⟨h.s2.neg.up (by decide), h.s1.sub h.s3⟩
structure pre_back (a b : Int) (l : List Int) : Prop where
  sz : pre_fix a b l
  hb : 0 < b
  hab : b < a
  ne : l ≠ []
  sd : ∀ c ∈ l, c = 0 ∨ c = 2
abbrev s_place_back_along : Stmt := top 41
theorem sc_place_back_along : FnScope ["a", "b", "row", "place"] ["a", "b", "row"] (defScope s_place_back_along) := ⟨rfl, rfl, rfl, by decide +kernel, rfl, by decide +kernel, by decide +kernel⟩
def sp_place_back_along : Sp := PF (fun (x : Int × Int × List Int × Unit) => pre_back x.1 x.2.1 x.2.2.1) fun x => comesI x.1 x.2.1 x.2.2.1
theorem ok_place_back_along (T : Tp mg) (D : DefAt K mg "place_back_along" s_place_back_along ["a", "b", "row"]) (h_place_put_onto_itself : Has P w K mg base "place_put_onto_itself" ["a", "b", "row"] 1 sp_place_put_onto_itself)
    (h_row_of : Has P w K mg base "row_of" ["a", "b", "place", "k"] 2 sp_row_of) (h_shortened : Has P w K mg base "shortened" ["place"] 2 sp_shortened) : Has P w K mg base "place_back_along" ["a", "b", "row"] 3 sp_place_back_along := by
  refine has_PF D sc_place_back_along rfl fun f cdv Ar outer s H vs Q E hr H0 a r hp q => ?_
  obtain ⟨v1, r1, rfl, (rfl : v1 = _), v2, r2, rfl, (rfl : v2 = _), v3, r3, rfl, h3, rfl⟩ := r
  obtain ⟨a, b, l, u⟩ := a
  obtain ⟨⟨ha, hb, hl⟩, b0, hab, ne, sd⟩ := (show pre_back a b l from hp)
  refine ⟨_, (pss_cons (ps_set (i := 3) sc_place_back_along.nd rfl (Or.inl rfl) (pe_has h_place_put_onto_itself (hr.mono (by decide)) (by rfl) (pa_cons (pv 0) (pa_cons (pv 1) (pa_cons (pv 2) pa_nil)))))
      (pss_cons (ps_if (pt_cmpR (op_neD hr.units) (pe_has h_row_of (hr.mono (by decide)) (by rfl) (pa_cons (pv 0) (pa_cons (pv 1) (pa_cons (pv 3) (pa_cons (pe_callB call_len_seq (by rfl) T.b_len (by decide +kernel) (pa_cons (pv 2) pa_nil)) pa_nil))))) (pv 2) (nomark _)) (pss_one (ps_ret pe_non)) pss_nil)
      (pss_one (ps_ret (pe_has h_shortened (hr.mono (by decide)) (by rfl) (pa_cons (pv 3) pa_nil)))))), ?_⟩
  refine q_asg (ev_call (x := (a, b, l, ())) (ea_cons (ev_v rfl rfl) (ea_cons (ev_v rfl rfl) (ea_cons (ev_v rfl h3) ea_nil))) ⟨ha, hb, hl⟩) ?_
  intro v Hv s1 hv
  have hv : Py.rep Hv v (fixI a b l) := hv
  have hs := sz_fix ha hb l hl
  have h3 := Py.mono s1 h3
  refine q_when (eb_test (ev_neL (ev_call (x := (a, b, fixI a b l, (l.length : Int), ())) (ea_cons (ev_v rfl rfl) (ea_cons (ev_v rfl rfl) (ea_cons (ev_v rfl hv) (ea_cons (ev_len (xs := l) (ev_v rfl h3)) ea_nil)))) ⟨ha.up (by decide), hb.up (by decide), hs.up (by decide), by show -100000 ≤ (l.length : Int); omega, by show (l.length : Int) ≤ 40; omega⟩) (ev_v rfl h3))) (fun e => ?_) (fun e => ?_)
  · have e : ¬ rowI a b (fixI a b l) l.length = l := by simpa using e
    refine g_ret (x := comesI a b l) ?_ q
    unfold comesI
    rw [if_neg e]
    exact ev_non
  · have e : rowI a b (fixI a b l) l.length = l := by simpa using e
    refine g_ret (x := comesI a b l) ?_ q
    unfold comesI
    rw [if_pos e]
    obtain ⟨o1, o2⟩ := along_okL b0 hab l (1, 0, 1) ok_one
    exact ev_some (ev_call (x := (fixI a b l, ())) (ea_cons (ev_v rfl hv) ea_nil) ⟨(fix_in b0 hab ne sd e).1, fix_pos o1 (o2 ne), hs.2.up (by decide)⟩)
/-! ### rounds -/
abbrev s_is_above_its_turnings : Stmt := top 42
theorem sc_is_above_its_turnings : FnScope ["row", "taken"] ["row"] (defScope s_is_above_its_turnings) := ⟨rfl, rfl, rfl, by decide +kernel, rfl, by decide +kernel, by decide +kernel⟩
def sp_is_above_its_turnings : Sp := PF (fun (x : List Int × Unit) => x.1.length ≤ 1000) fun x => aboveI x.1
theorem ok_is_above_its_turnings (T : Tp mg) (D : DefAt K mg "is_above_its_turnings" s_is_above_its_turnings ["row"]) (h_compare : Has P w K mg base "compare" ["row", "other"] 1 sp_compare) : Has P w K mg base "is_above_its_turnings" ["row"] 2 sp_is_above_its_turnings := by
  refine has_PF D sc_is_above_its_turnings rfl fun f cdv Ar outer s H vs Q E hr H0 a r hp q => ?_
  obtain ⟨v1, r1, rfl, h1, rfl⟩ := r
  obtain ⟨l, u⟩ := a
  have hp : l.length ≤ 1000 := hp
  refine ⟨_, (pss_cons (ps_for PassesOwn.never rfl (pi_range2 rfl T.b_range (pa_cons pe_int (pa_cons (pe_callB call_len_seq (by rfl) T.b_len (by decide +kernel) (pa_cons (pv 0) pa_nil)) pa_nil))) (pg_name (i := 1) sc_is_above_its_turnings.nd rfl (Or.inl rfl)) (pss_one (ps_if (pt_cmpR op_ne (pe_has h_compare (hr.mono (by decide)) (by rfl) (pa_cons (pv 0) (pa_cons (pe_op op_cat (pe_slice sl_list (pv 0) (po_some (pv 1)) po_none) (pe_slice sl_list (pv 0) po_none (po_some (pv 1)))) pa_nil))) (pe_gi T.c_GREATER (by rfl)) (nomark _)) (pss_one (ps_ret pe_bl)) pss_nil)))
      (pss_one (ps_ret pe_bl))), ?_⟩
  refine q_forR2 (lo := 1) ev_i (ev_len (xs := l) (ev_v rfl h1)) ⟨by omega, by omega, by omega, by omega⟩ (fun i st Hs M => ∃ (c : Option V), st = [some v1, c] ∧ M = [] ∧ Same H0 Hs ∧ (List.range i).all (fun i => decide (cmpI l (l.drop (1 + i) ++ l.take (1 + i)) false = 2)) = true) ?_ ?_ ?_
  · intro Hv s2
    exact ⟨none, rfl, rfl, s2, rfl⟩
  · rintro i st Hs M hi ⟨c, rfl, rfl, sm, e⟩
    have h1 := Py.mono sm h1
    have ec : cut l (some (1 + (i : Int))) none = l.drop (1 + i) := by
      rw [cut_from l (by omega), show (1 + (i : Int)).toNat = 1 + i by omega]
    have et : cut l none (some (1 + (i : Int))) = l.take (1 + i) := by
      rw [cut_to l (by omega), show (1 + (i : Int)).toNat = 1 + i by omega]
    refine g_when (eb_test (ev_neI (ev_call (x := (l, cut l (some (1 + (i : Int))) none ++ cut l none (some (1 + (i : Int))), ())) (ea_cons (ev_v rfl h1) (ea_cons (ev_cat (ev_sl (ev_v rfl h1) (eo_some (ev_v rfl rfl)) eo_none) (ev_sl (ev_v rfl h1) eo_none (eo_some (ev_v rfl rfl))) (by
      rw [ec, et, List.length_drop, List.length_take]
      omega)) ea_nil)) (by
      show l.length ≤ 1000
      exact hp)) (ev_i (i := 2)))) (fun b => ?_) (fun b => ?_)
    · have b : ¬ cmpI l (cut l (some (1 + (i : Int))) none ++ cut l none (some (1 + (i : Int)))) false = 2 := by simpa using b
      rw [ec, et] at b
      refine g_ret (x := aboveI l) ?_ q
      have e2 : aboveI l = false := by
        unfold aboveI
        rw [List.all_eq_false]
        exact ⟨i, List.mem_range.mpr (by omega), by simp [b]⟩
      rw [e2]
      exact ev_b
    · have b : cmpI l (cut l (some (1 + (i : Int))) none ++ cut l none (some (1 + (i : Int)))) false = 2 := by simpa using b
      rw [ec, et] at b
      refine g_nx ⟨_, rfl, rfl, sm, ?_⟩
      rw [List.range_succ, List.all_append, e]
      simp [b]
  · rintro st Hs M ⟨c, rfl, rfl, sm, e⟩
    refine g_ret (x := aboveI l) ?_ q
    have e2 : aboveI l = true := by
      unfold aboveI
      have e3 : ((l.length : Int) - 1).toNat = l.length - 1 := by omega
      rw [e3] at e
      exact e
    rw [e2]
    exact ev_b
theorem all_sides (k : Nat) : ∀ r ∈ allI k, ∀ c ∈ r, c = 0 ∨ c = 2 := by
  intro r hr
  rw [all_I] at hr
  obtain ⟨v, hv, rfl⟩ := List.mem_map.mp hr
  exact ofN_sides (words_sides k v hv)
abbrev s_rounds_of : Stmt := top 43
theorem sc_rounds_of : FnScope ["a", "b", "k", "rows", "row"] ["a", "b", "k"] (defScope s_rounds_of) := ⟨rfl, rfl, rfl, by decide +kernel, rfl, by decide +kernel, by decide +kernel⟩
def pre_rounds (a b k : Int) : Prop := Sm 100 a ∧ Sm 100 b ∧ 0 < b ∧ b < a ∧ 1 ≤ k ∧ k ≤ 12
def sp_rounds_of : Sp := PF (fun (x : Int × Int × Int × Unit) => pre_rounds x.1 x.2.1 x.2.2.1) fun x => roundsI x.1 x.2.1 x.2.2.1.toNat
theorem ok_rounds_of (T : Tp mg) (D : DefAt K mg "rounds_of" s_rounds_of ["a", "b", "k"]) (h_all_rows : Has P w K mg base "all_rows" ["k"] 2 sp_all_rows) (h_is_above_its_turnings : Has P w K mg base "is_above_its_turnings" ["row"] 2 sp_is_above_its_turnings)
    (h_place_back_along : Has P w K mg base "place_back_along" ["a", "b", "row"] 3 sp_place_back_along) : Has P w K mg base "rounds_of" ["a", "b", "k"] 4 sp_rounds_of := by
  refine has_PF D sc_rounds_of rfl fun f cdv Ar outer s H vs Q E hr H0 a r hp q => ?_
  obtain ⟨v1, r1, rfl, (rfl : v1 = _), v2, r2, rfl, (rfl : v2 = _), v3, r3, rfl, (rfl : v3 = _), rfl⟩ := r
  obtain ⟨a, b, k, u⟩ := a
  obtain ⟨ha, hb, b0, hab, hk1, hk2⟩ := (show pre_rounds a b k from hp)
  refine ⟨_, (pss_cons (ps_setLc (i := 3) (own := [("row", 4)]) (g := gName 4) (by rfl) sc_rounds_of.nd rfl rfl (sw_true rfl rfl rfl (by decide +kernel)) (pi_list (pe_has h_all_rows (hr.mono (by decide)) (by rfl) (pa_cons (pv 2) pa_nil))) (blkOk_by (own := [("row", 4)]) (N := ["a", "b", "k", "rows", "row"]) (sc := defScope s_rounds_of) (by decide +kernel)) (fun _ _ _ _ _ => pg_name (i := 4) sc_rounds_of.nd rfl (Or.inl rfl)) (fun _ _ _ _ _ => pts_one (pt_val (pe_has h_is_above_its_turnings (hr.mono (by decide)) (by rfl) (pa_cons (pv 4) pa_nil)))) (fun _ _ _ _ _ => (pv 4)))
      (pss_one (ps_ret (pe_lc (own := [("row", 4)]) (g := gName 4) (by rfl) sc_rounds_of.nd (pi_list (pv 3)) (blkOk_by (own := [("row", 4)]) (N := ["a", "b", "k", "rows", "row"]) (sc := defScope s_rounds_of) (by decide +kernel)) (fun _ _ _ _ _ => pg_name (i := 4) sc_rounds_of.nd rfl (Or.inl rfl)) (fun _ _ _ _ _ => pts_one (pt_cmpR op_notN (pe_has h_place_back_along (hr.mono (by decide)) (by rfl) (pa_cons (pv 0) (pa_cons (pv 1) (pa_cons (pv 4) pa_nil)))) pe_non (nomark _))) (fun _ _ _ _ _ => (pv 4)))))), ?_⟩
  have hall := all_pre k.toNat (by omega)
  refine q_asg (ev_lc (xs := allI k.toNat) (f := aboveI) (g := fun r => r) (ev_call (x := (k, ())) (ea_cons (ev_v rfl rfl) ea_nil) ⟨by show 0 ≤ k; omega, hk2⟩) (by omega) ?_ ?_) ?_
  · intro z y Hx hy sx hz
    exact eb_B (ev_call (x := (y, ())) (ea_cons (ev_v rfl hz) ea_nil) (hall.2 y hy))
  · intro z y Hx hy sx hz _
    exact ev_v rfl hz
  intro v Hv s1 hv
  rw [List.map_id'] at hv
  refine g_ret (EvR.eq (ev_lc (xs := (allI k.toNat).filter aboveI) (f := fun r => (comesI a b r).isSome) (g := fun r => r) (ev_v rfl hv) (by
      have := List.length_filter_le aboveI (allI k.toNat)
      omega) ?_ ?_) ?_) q
  · intro z y Hx hy sx hz
    have hy := (List.mem_filter.mp hy).1
    have hl := all_row k.toNat y hy
    exact eb_test (ev_notN (ev_call (x := (a, b, y, ())) (ea_cons (ev_v rfl rfl) (ea_cons (ev_v rfl rfl) (ea_cons (ev_v rfl hz) ea_nil))) ⟨⟨ha, hb, by show y.length ≤ 20; omega⟩, b0, hab, by
      intro z
      have z : y = [] := z
      rw [z] at hl
      simp at hl
      omega, all_sides k.toNat y hy⟩))
  · intro z y Hx hy sx hz _
    exact ev_v rfl hz
  · rw [List.map_id']
    rfl
end
end Ft

set_option Elab.async false
set_option linter.all false
set_option maxRecDepth 100000
set_option maxHeartbeats 2000000
namespace Ft
open PySem PySem.Spec PyProof.Rows L2
section
variable {P : Program} {w : World} {K : PySem.W.Frag} {mg : Str → Option Value} {base : Heap}
/-! ### the stretch of a row -/
theorem str_app (a b : Int) (v : List Int) (h : strI a b v = none) : ∀ u : List Int, strI a b (u ++ v) = none
  | [] => h
  | c :: u => by
    show (strI a b (u ++ v)).bind (strStep a b c) = none
    rw [str_app a b v h u]
    rfl
theorem str_size {a b : Int} (ha : Sm 100 a) : ∀ (l : List Int) {z : Int × Int × Int}, strI a b l = some z → Sm (2 + 100 * l.length) z.2.2
  | [], z, e => by
    cases e
    exact sm_two
  | c :: l, z, e => by
    unfold strI at e
    cases e2 : strI a b l with
    | none =>
      rw [e2] at e
      cases e
    | some y =>
      rw [e2] at e
      have ih := str_size ha l e2
      have e3 : z.2.2 = y.2.2 * a := by
        have e : strStep a b c y = some z := e
        unfold strStep at e
        generalize (if (y.2.2 * a) / 2 < y.2.1 * b then (y.2.2 * a) / 2 else y.2.1 * b) = far at e
        by_cases n : far ≤ y.1 * b
        · rw [if_pos n] at e
          cases e
        · rw [if_neg n] at e
          rw [← Option.some.inj e]
      rw [e3, List.length_cons]
      exact (ih.mul ha).up (by omega)
theorem sm_le {n : Nat} {i j : Int} (h : Sm n j) (h0 : 0 ≤ i) (h1 : i ≤ j) : Sm n i := by
  unfold Sm at *
  omega
abbrev s_stretch_of : Stmt := top 45
theorem sc_stretch_of : FnScope ["a", "b", "row", "low", "high", "q", "letter", "near", "far"] ["a", "b", "row"] (defScope s_stretch_of) := ⟨rfl, rfl, rfl, by decide +kernel, rfl, by decide +kernel, by decide +kernel⟩
def pre_str (a b : Int) (l : List Int) : Prop := Sm 100 a ∧ Sm 100 b ∧ 0 < a ∧ 0 < b ∧ l.length ≤ 20
def sp_stretch_of : Sp := PF (fun (x : Int × Int × List Int × Unit) => pre_str x.1 x.2.1 x.2.2.1) fun x => stretchI x.1 x.2.1 x.2.2.1
theorem ok_stretch_of (T : Tp mg) (D : DefAt K mg "stretch_of" s_stretch_of ["a", "b", "row"]) (h_shortened : Has P w K mg base "shortened" ["place"] 2 sp_shortened) : Has P w K mg base "stretch_of" ["a", "b", "row"] 3 sp_stretch_of := by
  refine has_PF D sc_stretch_of rfl fun f cdv Ar outer s H vs Q E hr H0 a r hp q => ?_
  obtain ⟨v1, r1, rfl, (rfl : v1 = _), v2, r2, rfl, (rfl : v2 = _), v3, r3, rfl, h3, rfl⟩ := r
  obtain ⟨a, b, l, u⟩ := a
  obtain ⟨ha, hb, a0, b0, hl⟩ := (show pre_str a b l from hp)
  refine ⟨_, (pss_cons (ps_set (i := 3) sc_stretch_of.nd rfl (Or.inl rfl) pe_int)
      (pss_cons (ps_set (i := 4) sc_stretch_of.nd rfl (Or.inl rfl) pe_int)
      (pss_cons (ps_set (i := 5) sc_stretch_of.nd rfl (Or.inl rfl) pe_int)
      (pss_cons (ps_for PassesOwn.never rfl (pi_reversed (by rfl) T.b_reversed (pa_cons (pv 2) pa_nil)) (pg_name (i := 6) sc_stretch_of.nd rfl (Or.inl rfl)) (pss_cons (ps_set (i := 5) sc_stretch_of.nd rfl (Or.inl rfl) (pe_op op_mulW (pv 5) (pv 0)))
      (pss_cons (ps_set (i := 7) sc_stretch_of.nd rfl (Or.inl rfl) (pe_op op_mulW (pv 3) (pv 1)))
      (pss_cons (ps_set (i := 8) sc_stretch_of.nd rfl (Or.inl rfl) (pe_callB (call_min2 rfl) (by rfl) T.b_min (by decide +kernel) (pa_cons (pe_op op_mulW (pv 4) (pv 1)) (pa_cons (pe_op op_fdivW (pv 5) pe_int) pa_nil))))
      (pss_cons (ps_if (pt_cmpR op_ge (pv 7) (pv 8) (nomark _)) (pss_one (ps_ret pe_non)) pss_nil)
      (pss_cons (ps_set (i := 3) sc_stretch_of.nd rfl (Or.inl rfl) (pe_ifExp (pt_cmpR op_eq (pv 6) (pe_gi T.c_LEFT (by rfl)) (nomark _)) (pv 7) (pe_op op_sub (pv 5) (pv 8))))
      (pss_one (ps_set (i := 4) sc_stretch_of.nd rfl (Or.inl rfl) (pe_ifExp (pt_cmpR op_eq (pv 6) (pe_gi T.c_LEFT (by rfl)) (nomark _)) (pv 8) (pe_op op_sub (pv 5) (pv 7)))))))))))
      (pss_one (ps_ret (pe_tup (pa_cons (pe_has h_shortened (hr.mono (by decide)) (by rfl) (pa_cons (pe_tup (pa_cons (pv 3) (pa_cons (pv 5) pa_nil))) pa_nil)) (pa_cons (pe_has h_shortened (hr.mono (by decide)) (by rfl) (pa_cons (pe_tup (pa_cons (pv 4) (pa_cons (pv 5) pa_nil))) pa_nil)) pa_nil))))))))), ?_⟩
  refine q_asg (x := (0 : Int)) ev_i ?_
  rintro v Hv1 s1 (rfl : v = _)
  refine q_asg (x := (2 : Int)) ev_i ?_
  rintro v Hv2 s2 (rfl : v = _)
  refine q_asg (x := (2 : Int)) ev_i ?_
  rintro v Hv3 s3 (rfl : v = _)
  have h3 := Py.mono ((s1.trans s2).trans s3) h3
  refine q_forV (xs := l) (ev_v rfl h3) (fun Hv i st Hs M => ∃ (z : Int × Int × Int) (c d e : Option V), strI a b (l.drop (l.length - i)) = some z ∧ st = [some (.int a), some (.int b), some v3, some (.int z.1), some (.int z.2.1), some (.int z.2.2), c, d, e] ∧ M = [] ∧ Same Hv Hs) ?_ ?_ ?_ ?_
  · intro Hv s4
    refine ⟨(0, 2, 2), none, none, none, ?_, rfl, rfl, Same.refl _⟩
    rw [Nat.sub_zero, List.drop_eq_nil_of_le (Nat.le_refl _)]
    rfl
  · rintro Hv i st Hs M ⟨z, c, d, e, _, _, _, sm⟩
    exact sm
  · rintro Hv i v x st Hs M s4 hi hx hv ⟨z, c, d, e, ez, rfl, rfl, sm⟩
    have hv : v = .int x := hv
    subst hv
    have el : l.drop (l.length - (i + 1)) = x :: l.drop (l.length - i) := by
      have hx' : l[l.length - (i + 1)]? = some x := by
        rw [show l.length - (i + 1) = l.length - 1 - i by omega]
        exact hx
      obtain ⟨h1, h2⟩ := List.getElem?_eq_some_iff.mp hx'
      rw [List.drop_eq_getElem_cons h1, h2, show l.length - (i + 1) + 1 = l.length - i by omega]
    have es : strI a b (l.drop (l.length - (i + 1))) = strStep a b x z := by
      rw [el]
      show (strI a b (l.drop (l.length - i))).bind (strStep a b x) = _
      rw [ez]
      rfl
    have ok := ok_str a0 b0 _ ez
    have z3 : Sm 3000 z.2.2 := (str_size ha _ ez).up (by rw [List.length_drop]; omega)
    have z1 : Sm 3000 z.1 := sm_le z3 ok.lo (by have := ok.lt; have := ok.hi; omega)
    have z2 : Sm 3000 z.2.1 := sm_le z3 (by have := ok.lt; have := ok.lo; omega) ok.hi
    refine q_asg (x := z.2.2 * a) (ev_I (g := fun i j => i * j) (ev_v rfl rfl) (ev_v rfl rfl) (z3.cmul ha (by decide))) ?_
    rintro v Hv4 s5 (rfl : v = _)
    refine q_asg (x := z.1 * b) (ev_I (g := fun i j => i * j) (ev_v rfl rfl) (ev_v rfl rfl) (z1.cmul hb (by decide))) ?_
    rintro v Hv5 s6 (rfl : v = _)
    have hc : CDivW (z.2.2 * a) 2 := wide_div (b := 2) (by decide) (by decide) (by decide) (by decide)
    refine q_asg (x := if (z.2.2 * a) / 2 < z.2.1 * b then (z.2.2 * a) / 2 else z.2.1 * b) (ev_min2 (ev_I (g := fun i j => i * j) (ev_v rfl rfl) (ev_v rfl rfl) (z2.cmul hb (by decide))) (ev_I (g := fun i j => i / j) (ev_v rfl rfl) ev_i hc)) ?_
    rintro v Hv6 s7 (rfl : v = _)
    unfold strStep at es
    generalize (if (z.2.2 * a) / 2 < z.2.1 * b then (z.2.2 * a) / 2 else z.2.1 * b) = far at *
    refine q_when (eb_test (ev_B0 (g := fun i j => decide (j ≤ i)) (ev_v (x := z.1 * b) rfl rfl) (ev_v (x := far) rfl rfl))) (fun e => ?_) (fun e => ?_)
    · rw [if_pos (of_decide_eq_true e)] at es
      refine g_ret (x := stretchI a b l) ?_ q
      have e2 : stretchI a b l = none := by
        unfold stretchI
        have e3 := str_app a b _ es (l.take (l.length - (i + 1)))
        rw [List.take_append_drop] at e3
        rw [e3]
        rfl
      rw [e2]
      exact ev_non
    · rw [if_neg (of_decide_eq_false e)] at es
      refine q_asg (x := if x = 0 then z.1 * b else z.2.2 * a - far) (ev_if (eb_test (ev_eqI (ev_v (x := x) rfl rfl) (ev_i (i := 0)))) (fun e => ?_) (fun e => ?_)) ?_
      · rw [if_pos (of_decide_eq_true e)]
        exact ev_v rfl rfl
      · rw [if_neg (of_decide_eq_false e)]
        exact ev_I0 (g := fun i j => i - j) (ev_v rfl rfl) (ev_v rfl rfl)
      rintro v Hv7 s8 (rfl : v = _)
      refine g_asg (x := if x = 0 then far else z.2.2 * a - z.1 * b) (ev_if (eb_test (ev_eqI (ev_v (x := x) rfl rfl) (ev_i (i := 0)))) (fun e => ?_) (fun e => ?_)) ?_
      · exact EvR.eq (ev_v (x := far) rfl rfl) (if_pos (of_decide_eq_true e)).symm
      · exact EvR.eq (ev_I0 (g := fun i j => i - j) (i := z.2.2 * a) (j := z.1 * b) (ev_v rfl rfl) (ev_v rfl rfl)) (if_neg (of_decide_eq_false e)).symm
      rintro v Hv8 s9 (rfl : v = _)
      exact g_nx ⟨_, _, _, _, es, rfl, rfl, ((((sm.trans s5).trans s6).trans s7).trans s8).trans s9⟩
  · rintro Hv st Hs M s4 ⟨z, c, d, e, ez, rfl, rfl, sm⟩
    rw [Nat.sub_self, List.drop_zero] at ez
    have ok := ok_str a0 b0 _ ez
    have z3 : Sm 3000 z.2.2 := (str_size ha _ ez).up (by omega)
    have hz : 0 < z.2.2 := by have := ok.lo; have := ok.lt; have := ok.hi; omega
    refine g_ret (x := stretchI a b l) ?_ q
    unfold stretchI
    rw [ez]
    exact ev_some (ev_pair (ev_call (x := ((z.1, z.2.2), ())) (ea_cons (ev_pair (ev_v rfl rfl) (ev_v rfl rfl)) ea_nil) ⟨ok.lo, hz, z3.up (by decide)⟩) (ev_call (x := ((z.2.1, z.2.2), ())) (ea_cons (ev_pair (ev_v rfl rfl) (ev_v rfl rfl)) ea_nil) ⟨by show 0 ≤ z.2.1; have := ok.lo; have := ok.lt; omega, hz, z3.up (by decide)⟩))
/-! ### laps -/
theorem before_len {a b : Int} : ∀ l : List (Int × Int), (beforeI a b l).length ≤ 2 * l.length
  | [] => Nat.le_refl _
  | x :: l => by
    have ih := before_len (a := a) (b := b) l
    unfold beforeI at ih ⊢
    rw [List.flatMap_cons, List.length_append, List.length_cons]
    have e : (before1 a b x).length ≤ 2 := by
      unfold before1
      split
      · exact Nat.le_refl _
      · exact Nat.zero_le _
    omega
theorem before_size {a b : Int} {n : Nat} (ha : Sm 100 a) (hb : Sm 100 b) {l : List (Int × Int)} (h : ∀ x ∈ l, Sm2 n x) : ∀ x ∈ beforeI a b l, Sm2 (n + 101) x := by
  intro x hx
  obtain ⟨y, hy, hm⟩ := List.mem_flatMap.mp hx
  obtain ⟨y1, y2⟩ := h y hy
  unfold before1 at hm
  split at hm
  · simp only [List.mem_cons, List.not_mem_nil, or_false] at hm
    rcases hm with rfl | rfl
    · exact ⟨(y1.mul hb).up (by omega), (y2.mul ha).up (by omega)⟩
    · exact ⟨(y2.mul ha).sub (y1.mul hb), (y2.mul ha).up (by omega)⟩
  · cases hm
abbrev s_places_before : Stmt := top 46
theorem sc_places_before : FnScope ["a", "b", "places", "before", "place", "p", "q"] ["a", "b", "places"] (defScope s_places_before) := ⟨rfl, rfl, rfl, by decide +kernel, rfl, by decide +kernel, by decide +kernel⟩
def pre_before (a b : Int) (l : List (Int × Int)) : Prop := Sm 100 a ∧ Sm 100 b ∧ l.length ≤ 10000 ∧ ∀ x ∈ l, Sm2 5000 x
def sp_places_before : Sp := PF (fun (x : Int × Int × List (Int × Int) × Unit) => pre_before x.1 x.2.1 x.2.2.1) fun x => beforeI x.1 x.2.1 x.2.2.1
theorem ok_places_before (D : DefAt K mg "places_before" s_places_before ["a", "b", "places"]) : Has P w K mg base "places_before" ["a", "b", "places"] 1 sp_places_before := by
  refine has_PF D sc_places_before rfl fun f cdv Ar outer s H vs Q E hr H0 a r hp q => ?_
  obtain ⟨v1, r1, rfl, (rfl : v1 = _), v2, r2, rfl, (rfl : v2 = _), v3, r3, rfl, h3, rfl⟩ := r
  obtain ⟨a, b, ps, u⟩ := a
  obtain ⟨ha, hb, hl, hz⟩ := (show pre_before a b ps from hp)
  refine ⟨_, (pss_cons (ps_set (i := 3) sc_places_before.nd rfl (Or.inl rfl) (pe_lst pa_nil))
      (pss_cons (ps_for PassesOwn.never rfl (pi_list (pv 2)) (pg_name (i := 4) sc_places_before.nd rfl (Or.inl rfl)) (pss_cons (ps_set (i := 5) sc_places_before.nd rfl (Or.inl rfl) (pe_op op_mulW (pe_ix ix_tup (pv 4) pe_int (fun _ _ => rfl)) (pv 1)))
      (pss_cons (ps_set (i := 6) sc_places_before.nd rfl (Or.inl rfl) (pe_op op_mulW (pe_ix ix_tup (pv 4) pe_int (fun _ _ => rfl)) (pv 0)))
      (pss_one (ps_if (pt_cmpR op_lt (pe_op op_mulW pe_int (pv 5)) (pv 6) (nomark _)) (pss_cons (ps_expr (pe_bm PySem.F.plainAttrs_list PySem.F.slot_list_append PySem.F.type_list_append mt_append (pv 3) (pa_cons (pe_tup (pa_cons (pv 5) (pa_cons (pv 6) pa_nil))) pa_nil)))
      (pss_one (ps_expr (pe_bm PySem.F.plainAttrs_list PySem.F.slot_list_append PySem.F.type_list_append mt_append (pv 3) (pa_cons (pe_tup (pa_cons (pe_op op_sub (pv 6) (pv 5)) (pa_cons (pv 6) pa_nil))) pa_nil))))) pss_nil)))))
      (pss_one (ps_ret (pv 3))))), ?_⟩
  refine q_new fun l h0l hl' _ => ?_
  refine q_forL (xs := ps) (ev_v rfl h3) (fun Hv i st Hs M => ∃ (ws : List V) (c d e : Option V), st = [some (.int a), some (.int b), some v3, some (.ref l), c, d, e] ∧ M = [(l, .lst ws)] ∧ Same Hv Hs ∧ All2 (Py.rep Hs) ws (beforeI a b (ps.take i))) ?_ ?_ ?_ ?_
  · intro Hv s2
    exact ⟨[], none, none, none, rfl, rfl, Same.refl _, .nil⟩
  · rintro Hv i st Hs M ⟨ws, c, d, e, _, _, sm, _⟩
    exact sm
  · rintro Hv i v x st Hs M s2 hi hv ⟨ws, c, d, e, rfl, rfl, sm, hw⟩
    have hm : x ∈ ps := List.mem_of_getElem? hi
    have hi' : i < ps.length := (List.getElem?_eq_some_iff.mp hi).1
    obtain ⟨x1, x2⟩ := hz x hm
    have hwl : ws.length ≤ 2 * i := by
      rw [hw.len]
      refine Nat.le_trans (before_len _) ?_
      rw [List.length_take]
      omega
    have et : beforeI a b (ps.take (i + 1)) = beforeI a b (ps.take i) ++ before1 a b x := by
      rw [List.take_add_one, hi]
      unfold beforeI
      rw [List.flatMap_append]
      simp
    refine q_asg (x := x.1 * b) (ev_I (g := fun i j => i * j) (ev_fst (x := x) (ev_v rfl hv)) (ev_v rfl rfl) (x1.cmul hb (by decide))) ?_
    rintro v' Hv4 s5 (rfl : v' = _)
    refine q_asg (x := x.2 * a) (ev_I (g := fun i j => i * j) (ev_snd (x := x) (ev_v rfl (Py.mono s5 hv))) (ev_v rfl rfl) (x2.cmul ha (by decide))) ?_
    rintro v' Hv5 s6 (rfl : v' = _)
    refine g_when (eb_test (ev_B0 (g := fun i j => decide (i < j)) (ev_I (g := fun i j => i * j) (i := 2) ev_i (ev_v (x := x.1 * b) rfl rfl) (sm_two.cmul (x1.mul hb) (by decide))) (ev_v (x := x.2 * a) rfl rfl))) (fun e => ?_) (fun e => ?_)
    · refine q_app rfl (ev_pair (x := x.1 * b) (y := x.2 * a) (ev_v rfl rfl) (ev_v rfl rfl)) (by omega) ?_
      intro v2 Hv6 s7 hv2
      refine g_app rfl (ev_pair (x := x.2 * a - x.1 * b) (y := x.2 * a) (ev_I0 (g := fun i j => i - j) (ev_v rfl rfl) (ev_v rfl rfl)) (ev_v rfl rfl)) (by simp; omega) ?_
      intro v3 Hv7 s8 hv3
      refine g_nx ⟨_, _, _, _, rfl, rfl, (((sm.trans s5).trans s6).trans s7).trans s8, ?_⟩
      have e2 : before1 a b x = [(x.1 * b, x.2 * a)] ++ [(x.2 * a - x.1 * b, x.2 * a)] := by
        unfold before1
        rw [if_pos (of_decide_eq_true e)]
        rfl
      rw [et, e2, ← List.append_assoc]
      exact (((hw.imp fun _ _ => Py.mono ((s5.trans s6).trans s7)).snoc hv2).imp fun _ _ => Py.mono s8).snoc hv3
    · refine g_nx ⟨_, _, _, _, rfl, rfl, (sm.trans s5).trans s6, ?_⟩
      have e2 : before1 a b x = [] := by
        unfold before1
        rw [if_neg (of_decide_eq_false e)]
      rw [et, e2, List.append_nil]
      exact hw.imp fun _ _ => Py.mono (s5.trans s6)
  · rintro Hv st Hs M s2 ⟨ws, c, d, e, rfl, rfl, sm, hw⟩
    rw [List.take_length] at hw
    refine g_froz fun h1 h2 => ?_
    exact g_ret (x := beforeI a b ps) (ev_v rfl (froz_rep h1 hw)) q
theorem reach_sz {a b : Int} (ha : Sm 100 a) (hb : Sm 100 b) : ∀ k, (reachI a b k).length ≤ 2 ^ k ∧ ∀ x ∈ reachI a b k, Sm2 (2 + 101 * k) x
  | 0 => ⟨Nat.le_refl _, fun x hx => by
    have e : x = (1, 2) := by simpa [reachI] using hx
    rw [e]
    exact sm_12⟩
  | k + 1 => by
    obtain ⟨h1, h2⟩ := reach_sz ha hb k
    refine ⟨?_, fun x hx => ?_⟩
    · have := before_len (a := a) (b := b) (reachI a b k)
      show (beforeI a b (reachI a b k)).length ≤ _
      rw [Nat.pow_succ]
      omega
    · exact (before_size ha hb h2 x hx).up (by omega)
abbrev s_count_laps : Stmt := top 47
theorem sc_count_laps : FnScope ["a", "b", "k", "reached", "folds", "step"] ["a", "b", "k"] (defScope s_count_laps) := ⟨rfl, rfl, rfl, by decide +kernel, rfl, by decide +kernel, by decide +kernel⟩
def pre_laps (a b k : Int) : Prop := Sm 100 a ∧ Sm 100 b ∧ 1 ≤ k ∧ k ≤ 12
def sp_count_laps : Sp := PF (fun (x : Int × Int × Int × Unit) => pre_laps x.1 x.2.1 x.2.2.1) fun x => ((foldsI x.1 x.2.1 (x.2.2.1 - 1).toNat : Nat) : Int) + 1
theorem ok_count_laps (T : Tp mg) (D : DefAt K mg "count_laps" s_count_laps ["a", "b", "k"]) (h_places_before : Has P w K mg base "places_before" ["a", "b", "places"] 1 sp_places_before) : Has P w K mg base "count_laps" ["a", "b", "k"] 2 sp_count_laps := by
  refine has_PF D sc_count_laps rfl fun f cdv Ar outer s H vs Q E hr H0 a r hp q => ?_
  obtain ⟨v1, r1, rfl, (rfl : v1 = _), v2, r2, rfl, (rfl : v2 = _), v3, r3, rfl, (rfl : v3 = _), rfl⟩ := r
  obtain ⟨a, b, k, u⟩ := a
  obtain ⟨ha, hb, hk1, hk2⟩ := (show pre_laps a b k from hp)
  refine ⟨_, (pss_cons (ps_set (i := 3) sc_count_laps.nd rfl (Or.inl rfl) (pe_lst (pa_cons (pe_tup (pa_cons pe_int (pa_cons pe_int pa_nil))) pa_nil)))
      (pss_cons (ps_set (i := 4) sc_count_laps.nd rfl (Or.inl rfl) pe_int)
      (pss_cons (ps_for PassesOwn.never rfl (pi_range1 rfl T.b_range (pa_cons (pe_op op_sub (pv 2) pe_int) pa_nil)) (pg_name (i := 5) sc_count_laps.nd rfl (Or.inl rfl)) (pss_cons (ps_set (i := 3) sc_count_laps.nd rfl (Or.inl rfl) (pe_has h_places_before (hr.mono (by decide)) (by rfl) (pa_cons (pv 0) (pa_cons (pv 1) (pa_cons (pv 3) pa_nil)))))
      (pss_one (ps_set (i := 4) sc_count_laps.nd rfl (Or.inl rfl) (pe_op op_add (pv 4) (pe_callB call_len_seq (by rfl) T.b_len (by decide +kernel) (pa_cons (pv 3) pa_nil)))))))
      (pss_one (ps_ret (pe_op op_add (pv 4) pe_int)))))), ?_⟩
  refine q_asg (x := [((1 : Int), (2 : Int))]) (ev_lst (el_cons (ev_pair ev_i ev_i) el_nil) (by decide)) ?_
  intro v Hv s1 hv
  refine q_asg (x := (1 : Int)) ev_i ?_
  rintro v' Hv2 s2 (rfl : v' = _)
  refine q_forR1 (n := k - 1) (ev_I0 (g := fun i j => i - j) (ev_v rfl rfl) ev_i) ⟨by omega, by omega⟩ (fun i st Hs M => ∃ (u : V) (c : Option V), st = [some (.int a), some (.int b), some (.int k), some u, some (.int ((foldsI a b i : Nat) : Int)), c] ∧ M = [] ∧ Py.rep Hs u (reachI a b i)) ?_ ?_ ?_
  · intro Hv' s3
    exact ⟨v, none, rfl, rfl, Py.mono (s2.trans s3) hv⟩
  · rintro i st Hs M hi ⟨u, c, rfl, rfl, hu⟩
    obtain ⟨g1, g2⟩ := reach_sz ha hb i
    have g3 : (reachI a b i).length ≤ 10000 := Nat.le_trans g1 (Nat.le_trans (Nat.pow_le_pow_right (by decide) (show i ≤ 12 by omega)) (by decide))
    refine q_asg (ev_call (x := (a, b, reachI a b i, ())) (ea_cons (ev_v rfl rfl) (ea_cons (ev_v rfl rfl) (ea_cons (ev_v rfl hu) ea_nil))) ⟨ha, hb, g3, fun x hx => (g2 x hx).up (by omega)⟩) ?_
    intro v' Hv' s3 hv'
    have hv' : Py.rep Hv' v' (reachI a b (i + 1)) := hv'
    refine g_asg (x := ((foldsI a b (i + 1) : Nat) : Int)) (EvR.eq (ev_I0 (g := fun i j => i + j) (i := ((foldsI a b i : Nat) : Int)) (j := ((reachI a b (i + 1)).length : Int)) (ev_v rfl rfl) (ev_len (ev_v rfl hv'))) ?_) ?_
    · show _ = ((foldsI a b i + (reachI a b (i + 1)).length : Nat) : Int)
      rw [Int.natCast_add]
    rintro v'' Hv'' s4 (rfl : v'' = _)
    exact g_nx ⟨v', _, rfl, rfl, Py.mono s4 hv'⟩
  · rintro st Hs M ⟨u, c, rfl, rfl, hu⟩
    exact g_ret (ev_I0 (g := fun i j => i + j) (i := ((foldsI a b (k - 1).toNat : Nat) : Int)) (j := 1) (ev_v rfl rfl) ev_i) q
end
end Ft

set_option Elab.async false
set_option linter.all false
set_option maxRecDepth 100000
set_option maxHeartbeats 2000000
namespace Ft
open PySem PySem.Spec PyProof.Rows L2
/-- a call, cut out of the list -/
structure CallD (C : Addr) where
  number : Int
  numbers : List Int
  rows : List (List Int)
def callF (n : Int) (u w : V) : List (Str × V) := [("number", .int n), ("numbers", u), ("rows", w)]
instance pyCall {C : Addr} : Py (CallD C) := ⟨fun H v x => ∃ p dx u w, v = .ref p ∧ H p = some (.ins C dx (callF x.number u w)) ∧ Py.rep H u x.numbers ∧ Py.rep H w x.rows,
  fun s ⟨p, dx, u, w, e, h, r1, r2⟩ => ⟨p, dx, u, w, e, s _ _ h, Py.mono s r1, Py.mono s r2⟩⟩
structure ClsCall (K : PySem.W.Frag) (C : Addr) : Prop where
  cl : Cls K C
  n1 : NoAttr K C "number"
  n2 : NoAttr K C "numbers"
  n3 : NoAttr K C "rows"
section
variable {K : PySem.W.Frag} {C : Addr} {st : L2.St} {H : Hp} {ta : TE} {c : CallD C}
theorem ev_number (T : ClsCall K C) (h : EvR ta st H c) : EvR (tFld K ta "number") st H c.number := fun H1 s Q q => h H1 s _ fun v Hv H2 a r => by
  obtain ⟨p, dx, u, w, rfl, hp, r1, r2⟩ := r
  exact ⟨p, C, dx, _, _, rfl, a.inn _ _ hp, T.cl, T.n1, lk1, q _ Hv H2 a rfl⟩
theorem ev_numbers (T : ClsCall K C) (h : EvR ta st H c) : EvR (tFld K ta "numbers") st H c.numbers := fun H1 s Q q => h H1 s _ fun v Hv H2 a r => by
  obtain ⟨p, dx, u, w, rfl, hp, r1, r2⟩ := r
  exact ⟨p, C, dx, _, _, rfl, a.inn _ _ hp, T.cl, T.n2, (lk2 (by decide +kernel)).trans lk1, q _ Hv H2 a r1⟩
theorem ev_rows (T : ClsCall K C) (h : EvR ta st H c) : EvR (tFld K ta "rows") st H c.rows := fun H1 s Q q => h H1 s _ fun v Hv H2 a r => by
  obtain ⟨p, dx, u, w, rfl, hp, r1, r2⟩ := r
  exact ⟨p, C, dx, _, _, rfl, a.inn _ _ hp, T.cl, T.n3, (lk2 (by decide +kernel)).trans ((lk2 (by decide +kernel)).trans lk1), q _ Hv H2 a r2⟩
end
def sp_Call_init (C : Addr) : Sp := fun vs H Q _ => ∃ (p dx : Addr) (n : Int) (u w : V), vs = [.ref p, .int n, u, w] ∧ H p = some (.ins C dx []) ∧ Q .non (upd H p (.ins C dx (callF n u w)))
section
variable {P : Program} {w : World} {K : PySem.W.Frag} {mg : Str → Option Value} {base : Heap} {C : Addr}
theorem callF_put (n : Int) (u w : V) : putF "rows" w (putF "numbers" u (putF "number" (.int n) [])) = callF n u w := by
  have e1 : putF "number" (.int n) [] = ([("number", V.int n)] : List (Str × V)) := rfl
  have e2 : putF "numbers" u ([("number", V.int n)] : List (Str × V)) = ([("number", V.int n), ("numbers", u)] : List (Str × V)) := (pf2 (by decide +kernel)).trans rfl
  have e3 : putF "rows" w ([("number", V.int n), ("numbers", u)] : List (Str × V)) = callF n u w := (pf2 (by decide +kernel)).trans (congrArg _ ((pf2 (by decide +kernel)).trans rfl))
  rw [e1, e2, e3]
abbrev s_Call_init : Stmt := inClass (top 16) 0
theorem sc_Call_init : FnScope ["self", "number", "numbers", "rows"] ["self", "number", "numbers", "rows"] (defScope s_Call_init) := ⟨rfl, rfl, rfl, by decide +kernel, rfl, by decide +kernel, by decide +kernel⟩
theorem ok_Call_init {f : Addr} {fd : FuncData} (F : Fun K "__init__" "Call.__init__" s_Call_init f fd) (T : ClsCall K C) : FnOk P w K mg base CX0 1 f fd ["self", "number", "numbers", "rows"] (sp_Call_init C) := by
  refine F.ok sc_Call_init (fun vs H Q E ⟨p, dx, n, u, w', e, _⟩ => by rw [e]; rfl) (fun cdv A outer s H vs Q E hr h => ?_)
  obtain ⟨p, dx, n, u, w', rfl, hp, k⟩ := h
  refine ⟨_, (pss_cons (ps_fld (pv 0) (pv 1) rfl) (pss_cons (ps_fld (pv 0) (pv 2) rfl) (pss_one (ps_fld (pv 0) (pv 3) rfl)))), ?_⟩
  refine ⟨_, rfl, _, rfl, p, C, dx, [], rfl, hp, T.cl, T.n1, (by show 0 < 1000; decide), ?_⟩
  refine ⟨_, rfl, _, rfl, p, C, dx, _, rfl, upd_same, T.cl, T.n2, (by show 1 < 1000; decide), ?_⟩
  refine ⟨_, rfl, _, rfl, p, C, dx, _, rfl, upd_same, T.cl, T.n3, (by
    rw [show putF "numbers" u (putF "number" (.int n) []) = ([("number", V.int n), ("numbers", u)] : List (Str × V)) from (pf2 (by decide +kernel)).trans rfl]
    show 2 < 1000
    decide), ?_⟩
  show Q .non (upd (upd (upd H p _) p _) p _)
  rw [upd_upd, upd_upd, callF_put]
  exact k
theorem ev_newCall {st : L2.St} {H : Hp} {E : XK} {ta : TA} {n : Int} {ns : List Int} {rs : List (List Int)} (h : EvA ta st H (n, ns, rs, ())) : EvR (tMake C (sp_Call_init C) [] E ta) st H (⟨n, ns, rs⟩ : CallD C) := fun H1 s Q q =>
  h H1 s _ fun vs Hv H2 a r => by
    intro x dx hx hd ne
    obtain ⟨v1, r1, rfl, (rfl : v1 = _), v2, r2, rfl, h2, v3, r3, rfl, h3, rfl⟩ := r
    refine ⟨x, dx, n, v2, v3, rfl, upd_same, rfl, ?_⟩
    rw [upd_upd]
    have a1 := a.alloc (o := .own x) hd
    have hx1 : (upd H2 dx (.own x)) x = none := by
      rw [upd_ne ne.symm]
      exact hx
    have a2 := a1.alloc (o := .ins C dx (callF n v2 v3)) hx1
    have sm : Same Hv (upd (upd Hv dx (.own x)) x (.ins C dx (callF n v2 v3))) := same_new (same_new (Same.refl _) (a.inn.free hd)) (a.inn.free hx)
    exact q _ _ _ a2 ⟨x, dx, v2, v3, rfl, upd_same, Py.mono sm h2, Py.mono sm h3⟩
/-! cut_rows -/
abbrev s_cut_rows : Stmt := top 17
theorem sc_cut_rows : FnScope ["calls", "start", "how_many", "rows", "at", "turn", "end"] ["calls", "start", "how_many"] (defScope s_cut_rows) := ⟨rfl, rfl, rfl, by decide +kernel, rfl, by decide +kernel, by decide +kernel⟩
def R_cut_rows (K : PySem.W.Frag) (x : Scr K × Int × Int × Unit) (xs : List (List Int)) : Prop := 0 ≤ x.2.1 ∧ (∃ rest, x.1.l.drop x.2.1.toNat = PyFlat.putRows xs ++ rest) ∧ x.2.2.1 = (xs.length : Int) ∧ xs.length ≤ 10
theorem drop_row {l : List Int} {i : Nat} {x : List Int} {r : List Int} (h : l.drop i = PyFlat.putRow x ++ r) : l[i]? = some (x.length : Int) ∧ (l.drop (i + 1)).take x.length = x ∧ l.drop (i + 1 + x.length) = r ∧ i + 1 + x.length ≤ l.length := by
  have h' : l.drop i = (x.length : Int) :: (x ++ r) := h
  have e1 : l.drop (i + 1) = x ++ r := by
    rw [← List.drop_drop, h', List.drop_succ_cons, List.drop_zero]
  have hi : i < l.length := by
    rcases Nat.lt_or_ge i l.length with z | z
    · exact z
    · rw [List.drop_eq_nil_of_le z] at h'
      cases h'
  have e2 : l.drop (i + 1 + x.length) = r := by
    rw [← List.drop_drop, e1, PyFlat.drop_len]
  refine ⟨?_, by rw [e1, PyFlat.take_len], e2, ?_⟩
  · have e : l[i]? = (l.drop i)[0]? := by rw [List.getElem?_drop, Nat.add_zero]
    rw [e, h']
    rfl
  · have e3 := congrArg List.length e1
    rw [List.length_drop, List.length_append] at e3
    omega
theorem ok_cut_rows (T : Tp mg) (D : DefAt K mg "cut_rows" s_cut_rows ["calls", "start", "how_many"]) : Has P w K mg base "cut_rows" ["calls", "start", "how_many"] 1 (PG (R_cut_rows K)) := by
  refine has_PG D sc_cut_rows rfl fun f cdv Ar outer s H vs Q E hr H0 a xs r hp q => ?_
  obtain ⟨v1, r1, rfl, h1, v2, r2, rfl, (rfl : v2 = _), v3, r3, rfl, (rfl : v3 = _), rfl⟩ := r
  obtain ⟨scr, b, n, u⟩ := a
  obtain ⟨hb, ⟨rest, he⟩, hn, hlen⟩ := (show 0 ≤ b ∧ (∃ rest, scr.l.drop b.toNat = PyFlat.putRows xs ++ rest) ∧ n = (xs.length : Int) ∧ xs.length ≤ 10 from hp)
  subst hn
  refine ⟨_, (pss_cons (ps_set (i := 3) sc_cut_rows.nd rfl (Or.inl rfl) (pe_lst pa_nil))
      (pss_cons (ps_set (i := 4) sc_cut_rows.nd rfl (Or.inl rfl) (pv 1))
      (pss_cons (ps_for PassesOwn.never rfl (pi_range1 rfl T.b_range (pa_cons (pv 2) pa_nil)) (pg_name (i := 5) sc_cut_rows.nd rfl (Or.inl rfl)) (pss_cons (ps_set (i := 6) sc_cut_rows.nd rfl (Or.inl rfl) (pe_op op_add (pe_op op_add (pv 4) pe_int) (pe_ix ix_list (pv 0) (pv 4) (fun _ _ => rfl))))
      (pss_cons (ps_expr (pe_bm PySem.F.plainAttrs_list PySem.F.slot_list_append PySem.F.type_list_append mt_append (pv 3) (pa_cons (pe_slice sl_list (pv 0) (po_some (pe_op op_add (pv 4) pe_int)) (po_some (pv 6))) pa_nil)))
      (pss_one (ps_set (i := 4) sc_cut_rows.nd rfl (Or.inl rfl) (pv 6))))))
      (pss_one (ps_ret (pv 3)))))), ?_⟩
  refine q_new fun l h0l hl _ => ?_
  refine q_asg (x := b) (ev_v rfl rfl) ?_
  rintro v Hv s1 (rfl : v = _)
  have h1 := Py.mono s1 h1
  refine q_forR1 (n := (xs.length : Int)) (ev_v rfl rfl) ⟨by omega, by omega⟩ (fun i st Hs M => ∃ (at' : Nat) (ws : List V) (c d : Option V), st = [some v1, some (.int b), some (.int (xs.length : Int)), some (.ref l), some (.int (at' : Int)), c, d] ∧ M = [(l, .lst ws)] ∧ Same Hv Hs ∧ All2 (Py.rep Hs) ws (xs.take i) ∧ scr.l.drop at' = PyFlat.putRows (xs.drop i) ++ rest) ?_ ?_ ?_
  · intro Hv' s2
    refine ⟨b.toNat, [], none, none, ?_, rfl, s2, by simpa using All2.nil, by rw [List.drop_zero]; exact he⟩
    have e : ((b.toNat : Nat) : Int) = b := by omega
    rw [e]
    rfl
  · rintro i st Hs M hi ⟨at', ws, c, d, rfl, rfl, sm, hw, he⟩
    have hi' : i < xs.length := by omega
    obtain ⟨x, hx⟩ : ∃ x, xs[i]? = some x := ⟨xs[i], List.getElem?_eq_getElem hi'⟩
    have ed : xs.drop i = x :: xs.drop (i + 1) := by
      obtain ⟨a1, rfl⟩ := List.getElem?_eq_some_iff.mp hx
      exact List.drop_eq_getElem_cons a1
    have he2 : scr.l.drop at' = PyFlat.putRow x ++ (PyFlat.putRows (xs.drop (i + 1)) ++ rest) := by
      rw [he, ed]
      exact List.append_assoc _ _ _
    obtain ⟨g1, g2, g3, g4⟩ := drop_row he2
    have h1 := Py.mono sm h1
    refine q_asg (x := (at' : Int) + 1 + (x.length : Int)) (ev_I0 (ev_I0 (ev_v rfl rfl) ev_i) (ev_ixS (xs := scr) (i := (at' : Int)) (ev_v rfl h1) (ev_v rfl rfl) (by omega) (by simpa using g1))) ?_
    rintro v Hv2 s2 (rfl : v = _)
    refine q_app (x := x) rfl (EvR.eq (ev_slS (xs := scr) (ev_v rfl (Py.mono s2 h1)) (eo_some (i := (at' : Int) + 1) (ev_I0 (g := fun i j => i + j) (ev_v rfl rfl) ev_i)) (eo_some (i := (at' : Int) + 1 + (x.length : Int)) (ev_v rfl rfl))) (by
      rw [cut_nat _ (by omega) (by omega) (by omega), show ((at' : Int) + 1).toNat = at' + 1 by omega, show ((at' : Int) + 1 + (x.length : Int) - ((at' : Int) + 1)).toNat = x.length by omega]
      exact g2)) (by have e := hw.len; rw [List.length_take] at e; omega) ?_
    intro v' Hv3 s3 hv'
    refine g_asg (x := (at' : Int) + 1 + (x.length : Int)) (ev_v rfl rfl) ?_
    rintro v'' Hv4 s4 (rfl : v'' = _)
    refine g_nx ⟨at' + 1 + x.length, _, some (.int (i : Int)), some (.int ((at' : Int) + 1 + (x.length : Int))), rfl, rfl, ((sm.trans s2).trans s3).trans s4, ?_, g3⟩
    · have e : xs.take (i + 1) = xs.take i ++ [x] := by
        rw [List.take_add_one, hx]
        rfl
      rw [e]
      exact ((hw.imp fun _ _ => Py.mono (s2.trans s3)).snoc hv').imp fun _ _ => Py.mono s4
  · rintro st Hs M ⟨at', ws, c, d, rfl, rfl, sm, hw, he⟩
    rw [Int.toNat_natCast, List.take_length] at hw
    refine g_froz fun h1 h2 => ?_
    exact g_ret (x := xs) (ev_v rfl (froz_rep h1 hw)) q

/-! cut_call -/
def numsI : List Int := [2, 2, 3, 1, 0, 0, 1, 0, 1, 0, 1, 2, 0, 0]
def rowsI : List Int := [0, 0, 0, 0, 2, 1, 0, 1, 0, 1, 0, 0, 0, 0]
structure TopTup (K : PySem.W.Frag) (mg : Str → Option Value) (nm : Str) (ns : List Int) : Prop where
  ex : ∃ p : Addr, mg nm = some (.ref p) ∧ ∀ H : Hp, SqT K H p (ns.map V.int)
theorem shape_at {p : Int} {n k : Nat} (h : PySu185.shape p = some (n, k)) : 0 ≤ p ∧ numsI[p.toNat]? = some (n : Int) ∧ rowsI[p.toNat]? = some (k : Int) ∧ n ≤ 3 ∧ k ≤ 2 := by
  by_cases e0 : p = 0
  · subst e0
    cases (show some (2, 0) = some (n, k) from h)
    exact ⟨by decide, rfl, rfl, by decide, by decide⟩
  by_cases e1 : p = 1
  · subst e1
    cases (show some (2, 0) = some (n, k) from h)
    exact ⟨by decide, rfl, rfl, by decide, by decide⟩
  by_cases e2 : p = 2
  · subst e2
    cases (show some (3, 0) = some (n, k) from h)
    exact ⟨by decide, rfl, rfl, by decide, by decide⟩
  by_cases e3 : p = 3
  · subst e3
    cases (show some (1, 0) = some (n, k) from h)
    exact ⟨by decide, rfl, rfl, by decide, by decide⟩
  by_cases e4 : p = 4
  · subst e4
    cases (show some (0, 2) = some (n, k) from h)
    exact ⟨by decide, rfl, rfl, by decide, by decide⟩
  by_cases e5 : p = 5
  · subst e5
    cases (show some (0, 1) = some (n, k) from h)
    exact ⟨by decide, rfl, rfl, by decide, by decide⟩
  by_cases e6 : p = 6
  · subst e6
    cases (show some (1, 0) = some (n, k) from h)
    exact ⟨by decide, rfl, rfl, by decide, by decide⟩
  by_cases e7 : p = 7
  · subst e7
    cases (show some (0, 1) = some (n, k) from h)
    exact ⟨by decide, rfl, rfl, by decide, by decide⟩
  by_cases e8 : p = 8
  · subst e8
    cases (show some (1, 0) = some (n, k) from h)
    exact ⟨by decide, rfl, rfl, by decide, by decide⟩
  by_cases e9 : p = 9
  · subst e9
    cases (show some (0, 1) = some (n, k) from h)
    exact ⟨by decide, rfl, rfl, by decide, by decide⟩
  by_cases e10 : p = 10
  · subst e10
    cases (show some (1, 0) = some (n, k) from h)
    exact ⟨by decide, rfl, rfl, by decide, by decide⟩
  by_cases e11 : p = 11
  · subst e11
    cases (show some (2, 0) = some (n, k) from h)
    exact ⟨by decide, rfl, rfl, by decide, by decide⟩
  by_cases e12 : p = 12
  · subst e12
    cases (show some (0, 0) = some (n, k) from h)
    exact ⟨by decide, rfl, rfl, by decide, by decide⟩
  by_cases e13 : p = 13
  · subst e13
    cases (show some (0, 0) = some (n, k) from h)
    exact ⟨by decide, rfl, rfl, by decide, by decide⟩
  unfold PySu185.shape at h
  simp only [if_neg e0, if_neg e1, if_neg e2, if_neg e3, if_neg e4, if_neg e5, if_neg e6, if_neg e7, if_neg e8, if_neg e9, if_neg e10, if_neg e11, if_neg e12, if_neg e13] at h
  cases h
abbrev s_cut_call : Stmt := top 18
theorem sc_cut_call : FnScope ["calls", "start", "number", "end", "rows"] ["calls", "start"] (defScope s_cut_call) := ⟨rfl, rfl, rfl, by decide +kernel, rfl, by decide +kernel, by decide +kernel⟩
def R_cut_call (K : PySem.W.Frag) (C : Addr) (x : Scr K × Int × Unit) (c : CallD C) : Prop := 0 ≤ x.2.1 ∧ (∃ rest, x.1.l.drop x.2.1.toNat = PyFlat.put1 ((c.number :: c.numbers) :: c.rows) ++ rest) ∧ PySu185.shape c.number = some (c.numbers.length, c.rows.length)
theorem ok_cut_call (tN : TopTup K mg "HOW_MANY_NUMBERS" numsI) (tR : TopTup K mg "HOW_MANY_ROWS" rowsI) (D : DefAt K mg "cut_call" s_cut_call ["calls", "start"]) (h_cut_rows : Has P w K mg base "cut_rows" ["calls", "start", "how_many"] 1 (PG (R_cut_rows K)))
    (h_Call : NewAt P w K mg base "Call" C ["self", "number", "numbers", "rows"] 1 (sp_Call_init C)) : Has P w K mg base "cut_call" ["calls", "start"] 3 (PG (R_cut_call K C)) := by
  refine has_PG D sc_cut_call rfl fun f cdv Ar outer s H vs Q E hr H0 a c r hp q => ?_
  obtain ⟨v1, r1, rfl, h1, v2, r2, rfl, (rfl : v2 = _), rfl⟩ := r
  obtain ⟨scr, b, u⟩ := a
  obtain ⟨hb, ⟨rest, he⟩, hsh⟩ := (show 0 ≤ b ∧ (∃ rest, scr.l.drop b.toNat = PyFlat.put1 ((c.number :: c.numbers) :: c.rows) ++ rest) ∧ PySu185.shape c.number = some (c.numbers.length, c.rows.length) from hp)
  obtain ⟨pN, mN, qN⟩ := tN.ex
  obtain ⟨pR, mR, qR⟩ := tR.ex
  obtain ⟨g0, g1, g2, g3, g4⟩ := shape_at hsh
  obtain ⟨p, ns, rs⟩ := c
  dsimp only at he hsh g0 g1 g2 g3 g4
  have he1 : scr.l.drop b.toNat = p :: (ns ++ (PyFlat.putRows rs ++ rest)) := by
    rw [he]
    exact List.append_assoc (p :: ns) _ _
  have he2 : scr.l.drop (b.toNat + 1) = ns ++ (PyFlat.putRows rs ++ rest) := by
    rw [← List.drop_drop, he1, List.drop_succ_cons, List.drop_zero]
  have he3 : scr.l.drop (b.toNat + 1 + ns.length) = PyFlat.putRows rs ++ rest := by
    rw [← List.drop_drop, he2, PyFlat.drop_len]
  have hat : scr.l[b.toNat]? = some p := by
    have e : scr.l[b.toNat]? = (scr.l.drop b.toNat)[0]? := by rw [List.getElem?_drop, Nat.add_zero]
    rw [e, he1]
    rfl
  have hlt : b.toNat < scr.l.length := (List.getElem?_eq_some_iff.mp hat).1
  have hle : b.toNat + 1 + ns.length ≤ scr.l.length := by
    have e3 := congrArg List.length he2
    rw [List.length_drop, List.length_append] at e3
    omega
  refine ⟨_, (pss_cons (ps_set (i := 2) sc_cut_call.nd rfl (Or.inl rfl) (pe_ix ix_list (pv 0) (pv 1) (fun _ _ => rfl)))
      (pss_cons (ps_set (i := 3) sc_cut_call.nd rfl (Or.inl rfl) (pe_op op_add (pe_op op_add (pv 1) pe_int) (pe_ix ix_tup (pe_gr mN (by rfl)) (pv 2) (fun _ _ => rfl))))
      (pss_cons (ps_set (i := 4) sc_cut_call.nd rfl (Or.inl rfl) (pe_has h_cut_rows (hr.mono (by decide)) (by rfl) (pa_cons (pv 0) (pa_cons (pv 3) (pa_cons (pe_ix ix_tup (pe_gr mR (by rfl)) (pv 2) (fun _ _ => rfl)) pa_nil)))))
      (pss_one (ps_ret (pe_new h_Call (hr.mono (by decide)) (by rfl) (pa_cons (pv 2) (pa_cons (pe_slice sl_list (pv 0) (po_some (pe_op op_add (pv 1) pe_int)) (po_some (pv 3))) (pa_cons (pv 4) pa_nil))))))))), ?_⟩
  refine q_asg (x := p) (ev_ixS (xs := scr) (i := b) (ev_v rfl h1) (ev_v rfl rfl) hb hat) ?_
  rintro v Hv s1 (rfl : v = _)
  have h1 := Py.mono s1 h1
  refine q_asg (x := b + 1 + (ns.length : Int)) (ev_I0 (ev_I0 (ev_v rfl rfl) ev_i) (ev_ixK qN (i := p) (ev_v rfl rfl) g0 g1)) ?_
  rintro v Hv2 s2 (rfl : v = _)
  have h1 := Py.mono s2 h1
  refine q_asg (x := rs) (ev_callG (x := (scr, b + 1 + (ns.length : Int), (rs.length : Int), ())) (ea_cons (ev_v rfl h1) (ea_cons (ev_v rfl rfl) (ea_cons (ev_ixK qR (i := p) (ev_v rfl rfl) g0 g2) ea_nil))) ⟨by show 0 ≤ b + 1 + (ns.length : Int); omega, ⟨rest, by
    show scr.l.drop (b + 1 + (ns.length : Int)).toNat = _
    rw [show (b + 1 + (ns.length : Int)).toNat = b.toNat + 1 + ns.length by omega]
    exact he3⟩, rfl, by omega⟩) ?_
  intro v3 Hv3 s3 hv3
  have h1 := Py.mono s3 h1
  refine g_ret (x := (⟨p, ns, rs⟩ : CallD C)) (ev_newCall (ea_cons (ev_v rfl rfl) (ea_cons (EvR.eq (ev_slS (xs := scr) (ev_v rfl h1) (eo_some (i := b + 1) (ev_I0 (g := fun i j => i + j) (ev_v rfl rfl) ev_i)) (eo_some (i := b + 1 + (ns.length : Int)) (ev_v rfl rfl))) (by
      rw [cut_nat _ (by omega) (by omega) (by omega), show (b + 1).toNat = b.toNat + 1 by omega, show (b + 1 + (ns.length : Int) - (b + 1)).toNat = ns.length by omega, he2, PyFlat.take_len])) (ea_cons (ev_v rfl hv3) ea_nil)))) q
/-! length_of -/
abbrev s_length_of : Stmt := top 19
theorem sc_length_of : FnScope ["call", "row"] ["call"] (defScope s_length_of) := ⟨rfl, rfl, rfl, by decide +kernel, rfl, by decide +kernel, by decide +kernel⟩
def lenI {C : Addr} (c : CallD C) : Int := ((PyFlat.put1 ((c.number :: c.numbers) :: c.rows)).length : Int)
theorem len_sum : ∀ rs : List (List Int), (rs.map fun r => 1 + (r.length : Int)).sum = ((PyFlat.putRows rs).length : Int)
  | [] => rfl
  | r :: rs => by
    rw [List.map_cons, List.sum_cons, len_sum rs]
    show _ = (((PyFlat.putRow r ++ PyFlat.putRows rs).length : Nat) : Int)
    rw [List.length_append]
    show _ = ((r.length + 1 + _ : Nat) : Int)
    omega
theorem ok_length_of (T : Tp mg) (TC : ClsCall K C) (D : DefAt K mg "length_of" s_length_of ["call"]) : Has P w K mg base "length_of" ["call"] 1 (PF (fun (x : CallD C × Unit) => x.1.rows.length ≤ 100) fun x => lenI x.1) := by
  refine has_PF D sc_length_of rfl fun f cdv Ar outer s H vs Q E hr H0 a r hp q => ?_
  obtain ⟨v1, r1, rfl, h1, rfl⟩ := r
  obtain ⟨c, u⟩ := a
  have hp : c.rows.length ≤ 100 := hp
  refine ⟨_, (pss_one (ps_ret (pe_op op_add (pe_op op_add pe_int (pe_callB call_len_seq (by rfl) T.b_len (by decide +kernel) (pa_cons (pe_fld (pv 0) rfl) pa_nil))) (pe_callB (cr_sum rfl) (by rfl) T.b_sum (by decide +kernel) (pa_cons (pe_lc (own := [("row", 1)]) (g := gName 1) (by rfl) sc_length_of.nd (pi_list (pe_fld (pv 0) rfl)) (blkOk_by (own := [("row", 1)]) (N := ["call", "row"]) (sc := defScope s_length_of) (by decide +kernel)) (fun _ _ _ _ _ => pg_name (i := 1) sc_length_of.nd rfl (Or.inl rfl)) (fun _ _ _ _ _ => pts_nil) (fun _ _ _ _ _ => (pe_op op_add pe_int (pe_callB (call_lenK (K := K) rfl) (by rfl) T.b_len (by decide +kernel) (pa_cons (pv 1) pa_nil))))) pa_nil))))), ?_⟩
  refine g_ret (x := lenI c) (EvR.eq (ev_I0 (g := fun i j => i + j) (ev_I0 (g := fun i j => i + j) (ev_i (i := 1)) (ev_len (ev_numbers TC (ev_v (x := c) rfl h1)))) (ev_sum (ev_lc (f := fun _ => true) (g := fun (r : List Int) => 1 + (r.length : Int)) (ev_rows TC (ev_v (x := c) rfl h1)) (by omega) (fun _ _ _ _ _ _ => eb_yes) (fun v x Hx hx sx hr' _ => ev_I0 (g := fun i j => i + j) ev_i (ev_len (ev_v rfl hr')))))) ?_) q
  rw [List.filter_eq_self.mpr (fun _ _ => rfl), len_sum]
  unfold lenI
  show _ = ((((c.number :: c.numbers) ++ PyFlat.putRows c.rows).length : Nat) : Int)
  rw [List.length_append, List.length_cons]
  omega
/-! cut_calls -/
def toD (C : Addr) (c : List (List Int)) : CallD C := ⟨(c.headD []).headD 0, (c.headD []).drop 1, c.drop 1⟩
theorem toD_put {C : Addr} {c : List (List Int)} (h : PyFlat.okCall PySu185.shape c) : (((toD C c).number :: (toD C c).numbers) :: (toD C c).rows) = c ∧ PySu185.shape (toD C c).number = some ((toD C c).numbers.length, (toD C c).rows.length) := by
  obtain ⟨p, a, xs, rfl, hs⟩ := h
  exact ⟨rfl, hs⟩
abbrev s_cut_calls : Stmt := top 20
theorem sc_cut_calls : FnScope ["calls", "found", "at", "call"] ["calls"] (defScope s_cut_calls) := ⟨rfl, rfl, rfl, by decide +kernel, rfl, by decide +kernel, by decide +kernel⟩
def R_cut_calls (K : PySem.W.Frag) (C : Addr) (x : Scr K × Unit) (cs : List (CallD C)) : Prop := ∃ raw : List (List (List Int)), x.1.l = PyFlat.put raw ∧ (∀ c ∈ raw, PyFlat.okCall PySu185.shape c) ∧ cs = raw.map (toD C) ∧ raw.length ≤ 1000
theorem ok_cut_calls (T : Tp mg) (D : DefAt K mg "cut_calls" s_cut_calls ["calls"]) (h_cut_call : Has P w K mg base "cut_call" ["calls", "start"] 3 (PG (R_cut_call K C)))
    (h_length_of : Has P w K mg base "length_of" ["call"] 1 (PF (fun (x : CallD C × Unit) => x.1.rows.length ≤ 100) fun x => lenI x.1)) : Has P w K mg base "cut_calls" ["calls"] 4 (PG (R_cut_calls K C)) := by
  refine has_PG D sc_cut_calls rfl fun f cdv Ar outer s H vs Q E hr H0 a cs r hp q => ?_
  obtain ⟨v1, r1, rfl, h1, rfl⟩ := r
  obtain ⟨scr, u⟩ := a
  obtain ⟨raw, he, hok, rfl, hlen⟩ := hp
  have he : scr.l = PyFlat.put raw := he
  refine ⟨_, (pss_cons (ps_set (i := 1) sc_cut_calls.nd rfl (Or.inl rfl) (pe_lst pa_nil))
      (pss_cons (ps_set (i := 2) sc_cut_calls.nd rfl (Or.inl rfl) pe_int)
      (pss_cons (ps_while PassesOwn.never (pt_cmpR op_lt (pv 2) (pe_callB call_len_seq (by rfl) T.b_len (by decide +kernel) (pa_cons (pv 0) pa_nil)) (nomark _)) (pss_cons (ps_set (i := 3) sc_cut_calls.nd rfl (Or.inl rfl) (pe_has h_cut_call (hr.mono (by decide)) (by rfl) (pa_cons (pv 0) (pa_cons (pv 2) pa_nil))))
      (pss_cons (ps_expr (pe_bm PySem.F.plainAttrs_list PySem.F.slot_list_append PySem.F.type_list_append mt_append (pv 1) (pa_cons (pv 3) pa_nil)))
      (pss_one (ps_set (i := 2) sc_cut_calls.nd rfl (Or.inl rfl) (pe_op op_add (pv 2) (pe_has h_length_of (hr.mono (by decide)) (by rfl) (pa_cons (pv 3) pa_nil))))))))
      (pss_one (ps_ret (pv 1)))))), ?_⟩
  refine q_new fun l h0l hl _ => ?_
  refine q_asg (x := (0 : Int)) ev_i ?_
  rintro v Hv s1 (rfl : v = _)
  have h1 := Py.mono s1 h1
  refine q_while (fun m st Hs M => ∃ (i at' : Nat) (ws : List V) (c : Option V), st = [some v1, some (.ref l), some (.int (at' : Int)), c] ∧ M = [(l, .lst ws)] ∧ Same Hv Hs ∧ All2 (Py.rep Hs) ws ((raw.take i).map (toD C)) ∧ scr.l.drop at' = PyFlat.put (raw.drop i) ∧ m = raw.length - i ∧ i ≤ raw.length) raw.length ⟨0, 0, [], none, rfl, rfl, Same.refl _, by simpa using All2.nil, he, rfl, Nat.zero_le _⟩ ?_
  rintro m st Hs M ⟨i, at', ws, c, rfl, rfl, sm, hw, he, rfl, hi⟩
  have h1 := Py.mono sm h1
  refine ⟨_, eb_test (ev_B0 (g := fun i j => decide (i < j)) (i := (at' : Int)) (ev_v rfl rfl) (ev_lenS (xs := scr) (ev_v rfl h1))), fun hb => ?_, fun hb => ?_⟩
  · have hb : (at' : Int) < (scr.l.length : Int) := of_decide_eq_true hb
    have hi' : i < raw.length := by
      rcases Nat.lt_or_ge i raw.length with z | z
      · exact z
      · rw [List.drop_eq_nil_of_le z] at he
        have e := congrArg List.length he
        rw [List.length_drop] at e
        have e : scr.l.length - at' = 0 := e
        omega
    obtain ⟨x, hx⟩ : ∃ x, raw[i]? = some x := ⟨raw[i], List.getElem?_eq_getElem hi'⟩
    have hmem : x ∈ raw := List.mem_of_getElem? hx
    obtain ⟨p1, p2⟩ := toD_put (C := C) (hok x hmem)
    have ed : raw.drop i = x :: raw.drop (i + 1) := by
      obtain ⟨a1, rfl⟩ := List.getElem?_eq_some_iff.mp hx
      exact List.drop_eq_getElem_cons a1
    have he2 : scr.l.drop at' = PyFlat.put1 (((toD C x).number :: (toD C x).numbers) :: (toD C x).rows) ++ PyFlat.put (raw.drop (i + 1)) := by
      rw [he, ed, p1]
      rfl
    refine q_asg (x := toD C x) (ev_callG (x := (scr, (at' : Int), ())) (ea_cons (ev_v rfl h1) (ea_cons (ev_v rfl rfl) ea_nil)) ⟨by show 0 ≤ (at' : Int); omega, ⟨_, by
      show scr.l.drop (at' : Int).toNat = _
      rw [Int.toNat_natCast]
      exact he2⟩, p2⟩) ?_
    intro v2 Hv2 s2 hv2
    refine q_app (x := toD C x) rfl (ev_v rfl hv2) (by
      have e := hw.len
      rw [List.length_map, List.length_take] at e
      omega) ?_
    intro v3 Hv3 s3 hv3
    obtain ⟨_, _, _, _, g4⟩ := shape_at p2
    refine g_asg (x := (at' : Int) + lenI (toD C x)) (ev_I0 (g := fun i j => i + j) (ev_v rfl rfl) (ev_call (x := (toD C x, ())) (ea_cons (ev_v rfl (Py.mono s3 hv2)) ea_nil) (by
      show (toD C x).rows.length ≤ 100
      omega))) ?_
    rintro v4 Hv4 s4 (rfl : v4 = _)
    refine g_nx ⟨raw.length - (i + 1), by omega, i + 1, at' + (PyFlat.put1 (((toD C x).number :: (toD C x).numbers) :: (toD C x).rows)).length, _, some v2, rfl, rfl, ((sm.trans s2).trans s3).trans s4, ?_, ?_, rfl, hi'⟩
    · have e : raw.take (i + 1) = raw.take i ++ [x] := by
        rw [List.take_add_one, hx]
        rfl
      rw [e, List.map_append]
      exact ((hw.imp fun _ _ => Py.mono (s2.trans s3)).snoc hv3).imp fun _ _ => Py.mono s4
    · rw [← List.drop_drop, he2, PyFlat.drop_len]
  · have hb : ¬ (at' : Int) < (scr.l.length : Int) := of_decide_eq_false hb
    have hi' : i = raw.length := by
      rcases Nat.lt_or_ge i raw.length with z | z
      · obtain ⟨x, hx⟩ : ∃ x, raw[i]? = some x := ⟨raw[i], List.getElem?_eq_getElem z⟩
        have ed : raw.drop i = x :: raw.drop (i + 1) := by
          obtain ⟨a1, rfl⟩ := List.getElem?_eq_some_iff.mp hx
          exact List.drop_eq_getElem_cons a1
        obtain ⟨p, a, xs, rfl, hs⟩ := hok x (List.mem_of_getElem? hx)
        rw [List.drop_eq_nil_of_le (by omega), ed] at he
        cases he
      · omega
    subst hi'
    rw [List.take_length] at hw
    refine g_froz fun h1 h2 => ?_
    exact g_ret (x := raw.map (toD C)) (ev_v rfl (froz_rep h1 hw)) q
end
end Ft

set_option Elab.async false
set_option linter.all false
set_option maxRecDepth 100000
set_option maxHeartbeats 2000000
namespace Ft
open PySem PySem.Spec PyProof.Rows L2
/-! ### the tent -/
structure TentD (C : Addr) where
  t : Su185.Abs
def tentF (a b : Int) : List (Str × V) := [("a", .int a), ("b", .int b)]
instance pyTent {C : Addr} : Py (TentD C) := ⟨fun H v x => ∃ p dx, v = .ref p ∧ H p = some (.ins C dx (tentF x.t.a x.t.b)), fun s ⟨p, dx, e, h⟩ => ⟨p, dx, e, s _ _ h⟩⟩
structure ClsTent (K : PySem.W.Frag) (C : Addr) : Prop where
  cl : Cls K C
  n1 : NoAttr K C "a"
  n2 : NoAttr K C "b"
def okT (t : Su185.Abs) : Prop := Su185.okSlope t.a t.b = true
theorem okT.b0 {t : Su185.Abs} (h : okT t) : 0 < t.b ∧ t.b < t.a ∧ t.a ≤ 2 * t.b ∧ t.b ≤ 400 := by
  unfold okT Su185.okSlope at h
  simp only [Bool.and_eq_true, decide_eq_true_eq] at h
  exact h
theorem sm_small {i : Int} (h : i.natAbs ≤ 5000000000) : Sm 40 i := by
  unfold Sm
  exact Nat.lt_of_le_of_lt h (by decide)
theorem okT.sm {t : Su185.Abs} (h : okT t) : Sm 1000 (t.a : Int) ∧ Sm 1000 (t.b : Int) := by
  have := h.b0
  exact ⟨(sm_small (by omega)).up (by decide), (sm_small (by omega)).up (by decide)⟩
theorem okT.sm100 {t : Su185.Abs} (h : okT t) : Sm 100 (t.a : Int) ∧ Sm 100 (t.b : Int) := by
  have := h.b0
  exact ⟨(sm_small (by omega)).up (by decide), (sm_small (by omega)).up (by decide)⟩
def ansL (r : Su185.Ans) : List Int := r.value :: r.out
section
variable {K : PySem.W.Frag} {C : Addr} {st : L2.St} {H : Hp} {ta : TE} {c : TentD C}
theorem ev_ta (T : ClsTent K C) (h : EvR ta st H c) : EvR (tFld K ta "a") st H (c.t.a : Int) := fun H1 s Q q => h H1 s _ fun v Hv H2 a r => by
  obtain ⟨p, dx, rfl, hp⟩ := r
  exact ⟨p, C, dx, _, _, rfl, a.inn _ _ hp, T.cl, T.n1, lk1, q _ Hv H2 a rfl⟩
theorem ev_tb (T : ClsTent K C) (h : EvR ta st H c) : EvR (tFld K ta "b") st H (c.t.b : Int) := fun H1 s Q q => h H1 s _ fun v Hv H2 a r => by
  obtain ⟨p, dx, rfl, hp⟩ := r
  exact ⟨p, C, dx, _, _, rfl, a.inn _ _ hp, T.cl, T.n2, (lk2 (by decide +kernel)).trans lk1, q _ Hv H2 a rfl⟩
end
section
variable {P : Program} {w : World} {K : PySem.W.Frag} {mg : Str → Option Value} {base : Heap} {C : Addr}
abbrev s_is_place : Stmt := top 58
theorem sc_is_place : FnScope ["p", "q"] ["p", "q"] (defScope s_is_place) := ⟨rfl, rfl, rfl, by decide +kernel, rfl, by decide +kernel, by decide +kernel⟩
def sp_is_place : Sp := PF (fun (x : Int × Int × Unit) => 0 ≤ x.1 ∧ 0 ≤ x.2.1) fun x => Su185.okPlace x.1.toNat x.2.1.toNat
theorem ok_is_place (T : Tp mg) (D : DefAt K mg "is_place" s_is_place ["p", "q"]) : Has P w K mg base "is_place" ["p", "q"] 1 sp_is_place := by
  refine has_PF D sc_is_place rfl fun f cdv Ar outer s H vs Q E hr H0 a r hp q => ?_
  obtain ⟨v1, r1, rfl, (rfl : v1 = _), v2, r2, rfl, (rfl : v2 = _), rfl⟩ := r
  obtain ⟨i, j, u⟩ := a
  obtain ⟨hi, hj⟩ := (show 0 ≤ i ∧ 0 ≤ j from hp)
  refine ⟨_, (pss_one (ps_ret (pe_and (pe_chain op_le op_le pe_int (pv 1) (pe_gi T.c_MOST_Q (by rfl))) (pe_one (pe_cmpR op_le (pv 0) (pv 1) (nomark _)))))), ?_⟩
  refine g_ret (EvR.eq (ev_and (ev_chain (g := fun i j => decide (i ≤ j)) (g' := fun i j => decide (i ≤ j)) (i := 1) (j := j) (k := 1000) ev_i (ev_v rfl rfl) ev_i) (fun _ => ev_B0 (g := fun i j => decide (i ≤ j)) (i := i) (j := j) (ev_v rfl rfl) (ev_v rfl rfl))) ?_) q
  unfold Su185.okPlace Su185.BELOW
  rw [show decide (1 ≤ j) = decide (0 < j.toNat) from decide_eq_decide.mpr (by omega), show decide (j ≤ 1000) = decide (j.toNat ≤ 1000) from decide_eq_decide.mpr (by omega), show decide (i ≤ j) = decide (i.toNat ≤ j.toNat) from decide_eq_decide.mpr (by omega), Bool.and_assoc]
abbrev s_is_length : Stmt := top 59
theorem sc_is_length : FnScope ["k"] ["k"] (defScope s_is_length) := ⟨rfl, rfl, rfl, by decide +kernel, rfl, by decide +kernel, by decide +kernel⟩
def sp_is_length : Sp := PF (fun (x : Int × Unit) => True) fun x => (decide (1 ≤ x.1) && decide (x.1 ≤ 16))
theorem ok_is_length (T : Tp mg) (D : DefAt K mg "is_length" s_is_length ["k"]) : Has P w K mg base "is_length" ["k"] 1 sp_is_length := by
  refine has_PF D sc_is_length rfl fun f cdv Ar outer s H vs Q E hr H0 a r hp q => ?_
  obtain ⟨v1, r1, rfl, (rfl : v1 = _), rfl⟩ := r
  obtain ⟨k, u⟩ := a
  refine ⟨_, (pss_one (ps_ret (pe_chain op_le op_le pe_int (pv 0) (pe_gi T.c_MOST_LETTERS (by rfl))))), ?_⟩
  exact g_ret (ev_chain (g := fun i j => decide (i ≤ j)) (g' := fun i j => decide (i ≤ j)) (i := 1) (j := k) (k := 16) ev_i (ev_v rfl rfl) ev_i) q
abbrev s_is_number_of_steps : Stmt := top 60
theorem sc_is_number_of_steps : FnScope ["k"] ["k"] (defScope s_is_number_of_steps) := ⟨rfl, rfl, rfl, by decide +kernel, rfl, by decide +kernel, by decide +kernel⟩
def sp_is_number_of_steps : Sp := PF (fun (x : Int × Unit) => True) fun x => (decide (1 ≤ x.1) && decide (x.1 ≤ 9))
theorem ok_is_number_of_steps (T : Tp mg) (D : DefAt K mg "is_number_of_steps" s_is_number_of_steps ["k"]) : Has P w K mg base "is_number_of_steps" ["k"] 1 sp_is_number_of_steps := by
  refine has_PF D sc_is_number_of_steps rfl fun f cdv Ar outer s H vs Q E hr H0 a r hp q => ?_
  obtain ⟨v1, r1, rfl, (rfl : v1 = _), rfl⟩ := r
  obtain ⟨k, u⟩ := a
  refine ⟨_, (pss_one (ps_ret (pe_chain op_le op_le pe_int (pv 0) (pe_gi T.c_MOST_STEPS (by rfl))))), ?_⟩
  exact g_ret (ev_chain (g := fun i j => decide (i ≤ j)) (g' := fun i j => decide (i ≤ j)) (i := 1) (j := k) (k := 9) ev_i (ev_v rfl rfl) ev_i) q
abbrev s_is_row_to_order : Stmt := top 61
theorem sc_is_row_to_order : FnScope ["row", "letter"] ["row"] (defScope s_is_row_to_order) := ⟨rfl, rfl, rfl, by decide +kernel, rfl, by decide +kernel, by decide +kernel⟩
def sp_is_row_to_order : Sp := PF (fun (x : List Int × Unit) => x.1.length ≤ 1000) fun x => (decide ((x.1.length : Int) ≤ 16) && x.1.all fun c => decide (c ≤ 2))
theorem ok_is_row_to_order (T : Tp mg) (D : DefAt K mg "is_row_to_order" s_is_row_to_order ["row"]) : Has P w K mg base "is_row_to_order" ["row"] 1 sp_is_row_to_order := by
  refine has_PF D sc_is_row_to_order rfl fun f cdv Ar outer s H vs Q E hr H0 a r hp q => ?_
  obtain ⟨v1, r1, rfl, h1, rfl⟩ := r
  obtain ⟨l, u⟩ := a
  have hp : l.length ≤ 1000 := hp
  refine ⟨_, (pss_one (ps_ret (pe_and (pe_cmpR op_le (pe_callB call_len_seq (by rfl) T.b_len (by decide +kernel) (pa_cons (pv 0) pa_nil)) (pe_gi T.c_MOST_LETTERS (by rfl)) (nomark _)) (pe_one (pe_callB (cr_all rfl) (by rfl) T.b_all (by decide +kernel) (pa_cons (pe_lc (own := [("letter", 1)]) (g := gName 1) (by rfl) sc_is_row_to_order.nd (pi_list (pv 0)) (blkOk_by (own := [("letter", 1)]) (N := ["row", "letter"]) (sc := defScope s_is_row_to_order) (by decide +kernel)) (fun _ _ _ _ _ => pg_name (i := 1) sc_is_row_to_order.nd rfl (Or.inl rfl)) (fun _ _ _ _ _ => pts_nil) (fun _ _ _ _ _ => (pe_cmpR op_le (pv 1) (pe_gi T.c_RIGHT (by rfl)) (nomark _)))) pa_nil)))))), ?_⟩
  refine g_ret (EvR.eq (ev_and (ev_B0 (g := fun i j => decide (i ≤ j)) (ev_len (xs := l) (ev_v rfl h1)) (ev_i (i := 16))) (fun _ => ev_all (ev_lc (xs := l) (f := fun _ => true) (g := fun c => decide (c ≤ 2)) (ev_v rfl h1) (by omega) (fun _ _ _ _ _ _ => eb_yes) (fun v x Hx hx sx hr' _ => ev_B0 (g := fun i j => decide (i ≤ j)) (i := x) (ev_v rfl hr') (ev_i (i := 2)))))) ?_) q
  rw [List.filter_eq_self.mpr (fun _ _ => rfl), List.all_map]
  rfl
abbrev s_is_row_of_sides : Stmt := top 62
theorem sc_is_row_of_sides : FnScope ["row", "letter"] ["row"] (defScope s_is_row_of_sides) := ⟨rfl, rfl, rfl, by decide +kernel, rfl, by decide +kernel, by decide +kernel⟩
def sp_is_row_of_sides : Sp := PF (fun (x : List Int × Unit) => x.1.length ≤ 1000) fun x => ((decide (1 ≤ (x.1.length : Int)) && decide ((x.1.length : Int) ≤ 16)) && x.1.all fun c => ([0, 2] : List Int).any fun n => n == c)
theorem ok_is_row_of_sides (T : Tp mg) (D : DefAt K mg "is_row_of_sides" s_is_row_of_sides ["row"]) (h_is_length : Has P w K mg base "is_length" ["k"] 1 sp_is_length) : Has P w K mg base "is_row_of_sides" ["row"] 2 sp_is_row_of_sides := by
  refine has_PF D sc_is_row_of_sides rfl fun f cdv Ar outer s H vs Q E hr H0 a r hp q => ?_
  obtain ⟨v1, r1, rfl, h1, rfl⟩ := r
  obtain ⟨l, u⟩ := a
  have hp : l.length ≤ 1000 := hp
  refine ⟨_, (pss_one (ps_ret (pe_and (pe_has h_is_length (hr.mono (by decide)) (by rfl) (pa_cons (pe_callB call_len_seq (by rfl) T.b_len (by decide +kernel) (pa_cons (pv 0) pa_nil)) pa_nil)) (pe_one (pe_callB (cr_all rfl) (by rfl) T.b_all (by decide +kernel) (pa_cons (pe_lc (own := [("letter", 1)]) (g := gName 1) (by rfl) sc_is_row_of_sides.nd (pi_list (pv 0)) (blkOk_by (own := [("letter", 1)]) (N := ["row", "letter"]) (sc := defScope s_is_row_of_sides) (by decide +kernel)) (fun _ _ _ _ _ => pg_name (i := 1) sc_is_row_of_sides.nd rfl (Or.inl rfl)) (fun _ _ _ _ _ => pts_nil) (fun _ _ _ _ _ => (pe_cmpR (op_inK (K := K) rfl) (pv 1) (pe_tup (pa_cons (pe_gi T.c_LEFT (by rfl)) (pa_cons (pe_gi T.c_RIGHT (by rfl)) pa_nil))) (by rfl)))) pa_nil)))))), ?_⟩
  refine g_ret (EvR.eq (ev_and (ev_call (x := ((l.length : Int), ())) (ea_cons (ev_len (xs := l) (ev_v rfl h1)) ea_nil) trivial) (fun _ => ev_all (ev_lc (xs := l) (f := fun _ => true) (g := fun c => ([0, 2] : List Int).any fun n => n == c) (ev_v rfl h1) (by omega) (fun _ _ _ _ _ _ => eb_yes) (fun v x Hx hx sx hr' _ => ev_inT (i := x) (ev_v rfl hr') (el_cons ev_i (el_cons ev_i el_nil)) (by decide))))) ?_) q
  rw [List.filter_eq_self.mpr (fun _ _ => rfl), List.all_map]
  rfl
end
end Ft

set_option Elab.async false
set_option linter.all false
set_option maxRecDepth 100000
set_option maxHeartbeats 2000000
namespace Ft
open PySem PySem.Spec PyProof.Rows L2
/-- what the specification answers to one call on a tent that is begun -/
def ansD (t : Su185.Abs) (c : Su185.Call) : List Int := ansL (Su185.does t c).2

theorem ansD_begin (t : Su185.Abs) (a b : Nat) : ansD t (.begin_ a b) = if Su185.okSlope a b = false then [-22] else [0] := by
  by_cases c : Su185.okSlope a b = false
  · exact (congrArg (fun z : Su185.Abs × Su185.Ans => ansL z.2) (if_pos c)).trans (if_pos c).symm
  · exact (congrArg (fun z : Su185.Abs × Su185.Ans => ansL z.2) (if_neg c)).trans (if_neg c).symm
theorem ansD_put (t : Su185.Abs) (p q : Nat) : ansD t (.put p q) = if Su185.okPlace p q = false then [-22] else 0 :: Su185.ofFrac (t.put (Su185.red (p : Int) q)) := by
  by_cases c : Su185.okPlace p q = false
  · exact (congrArg (fun z : Su185.Abs × Su185.Ans => ansL z.2) (if_pos c)).trans (if_pos c).symm
  · exact (congrArg (fun z : Su185.Abs × Su185.Ans => ansL z.2) (if_neg c)).trans (if_neg c).symm
theorem ansD_row (t : Su185.Abs) (p q k : Nat) : ansD t (.row p q k) = if Su185.okPlace p q = false ∨ k = 0 ∨ 16 < k then [-22] else (k : Int) :: ofN (t.row (Su185.red (p : Int) q) k) := by
  by_cases c : Su185.okPlace p q = false ∨ k = 0 ∨ 16 < k
  · exact (congrArg (fun z : Su185.Abs × Su185.Ans => ansL z.2) (if_pos c)).trans (if_pos c).symm
  · exact (congrArg (fun z : Su185.Abs × Su185.Ans => ansL z.2) (if_neg c)).trans (if_neg c).symm
theorem ansD_lead (t : Su185.Abs) (k : Nat) : ansD t (.lead k) = if k = 0 ∨ 16 < k then [-22] else (k : Int) :: ofN (t.lead k) := by
  by_cases c : k = 0 ∨ 16 < k
  · exact (congrArg (fun z : Su185.Abs × Su185.Ans => ansL z.2) (if_pos c)).trans (if_pos c).symm
  · exact (congrArg (fun z : Su185.Abs × Su185.Ans => ansL z.2) (if_neg c)).trans (if_neg c).symm
theorem ansD_order (t : Su185.Abs) (u v : List Nat) : ansD t (.order u v) = if Su185.any3 u = false ∨ Su185.any3 v = false then [-22] else [((Su185.order u v false : Nat) : Int)] := by
  by_cases c : Su185.any3 u = false ∨ Su185.any3 v = false
  · exact (congrArg (fun z : Su185.Abs × Su185.Ans => ansL z.2) (if_pos c)).trans (if_pos c).symm
  · exact (congrArg (fun z : Su185.Abs × Su185.Ans => ansL z.2) (if_neg c)).trans (if_neg c).symm
theorem ansD_fits (t : Su185.Abs) (w : List Nat) : ansD t (.fits w) = if Su185.okRow w 16 = false then [-22] else [((Su185.bit (t.fits w) : Nat) : Int)] := by
  by_cases c : Su185.okRow w 16 = false
  · exact (congrArg (fun z : Su185.Abs × Su185.Ans => ansL z.2) (if_pos c)).trans (if_pos c).symm
  · exact (congrArg (fun z : Su185.Abs × Su185.Ans => ansL z.2) (if_neg c)).trans (if_neg c).symm
theorem ansD_count (t : Su185.Abs) (k : Nat) : ansD t (.count k) = if k = 0 ∨ 9 < k then [-22] else [((t.count k : Nat) : Int)] := by
  by_cases c : k = 0 ∨ 9 < k
  · exact (congrArg (fun z : Su185.Abs × Su185.Ans => ansL z.2) (if_pos c)).trans (if_pos c).symm
  · exact (congrArg (fun z : Su185.Abs × Su185.Ans => ansL z.2) (if_neg c)).trans (if_neg c).symm
theorem ansD_holds (t : Su185.Abs) (w : List Nat) : ansD t (.holds w) = if Su185.okRow w 16 = false then [-22] else match t.holds w with | some x => 0 :: (Su185.ofFrac x.1 ++ Su185.ofFrac x.2) | none => [-33] := by
  by_cases c : Su185.okRow w 16 = false
  · exact (congrArg (fun z : Su185.Abs × Su185.Ans => ansL z.2) (if_pos c)).trans (if_pos c).symm
  · refine (congrArg (fun z : Su185.Abs × Su185.Ans => ansL z.2) (if_neg c)).trans (Eq.trans ?_ (if_neg c).symm)
    cases t.holds w <;> rfl
theorem ansD_laps (t : Su185.Abs) (k : Nat) : ansD t (.laps k) = if k = 0 ∨ 9 < k then [-22] else [((t.laps k : Nat) : Int)] := by
  by_cases c : k = 0 ∨ 9 < k
  · exact (congrArg (fun z : Su185.Abs × Su185.Ans => ansL z.2) (if_pos c)).trans (if_pos c).symm
  · exact (congrArg (fun z : Su185.Abs × Su185.Ans => ansL z.2) (if_neg c)).trans (if_neg c).symm
theorem ansD_comes (t : Su185.Abs) (w : List Nat) : ansD t (.comes w) = if Su185.okRow w 16 = false then [-22] else match t.comes w with | some x => 0 :: Su185.ofFrac x | none => [-33] := by
  by_cases c : Su185.okRow w 16 = false
  · exact (congrArg (fun z : Su185.Abs × Su185.Ans => ansL z.2) (if_pos c)).trans (if_pos c).symm
  · refine (congrArg (fun z : Su185.Abs × Su185.Ans => ansL z.2) (if_neg c)).trans (Eq.trans ?_ (if_neg c).symm)
    cases t.comes w <;> rfl
theorem ansD_rounds (t : Su185.Abs) (k : Nat) : ansD t (.rounds k) = if k = 0 ∨ 9 < k then [-22] else [(((t.rounds k).length : Nat) : Int)] := by
  by_cases c : k = 0 ∨ 9 < k
  · exact (congrArg (fun z : Su185.Abs × Su185.Ans => ansL z.2) (if_pos c)).trans (if_pos c).symm
  · exact (congrArg (fun z : Su185.Abs × Su185.Ans => ansL z.2) (if_neg c)).trans (if_neg c).symm
theorem ansD_round (t : Su185.Abs) (k j : Nat) : ansD t (.round k j) = if k = 0 ∨ 9 < k then [-22] else match (t.rounds k)[j]? with | some x => (k : Int) :: ofN x | none => [-33] := by
  by_cases c : k = 0 ∨ 9 < k
  · exact (congrArg (fun z : Su185.Abs × Su185.Ans => ansL z.2) (if_pos c)).trans (if_pos c).symm
  · refine (congrArg (fun z : Su185.Abs × Su185.Ans => ansL z.2) (if_neg c)).trans (Eq.trans ?_ (if_neg c).symm)
    cases (t.rounds k)[j]? <;> rfl
theorem ansD_state (t : Su185.Abs) : ansD t .state = [(t.a : Int), (t.b : Int)] := rfl
theorem ofFrac_fr (x : Int × Int) (h : 0 < x.2) : Su185.ofFrac (fr x) = [(shortP x).1, (shortP x).2] := by
  have e : x.2.natAbs = x.2.toNat := by omega
  unfold Su185.ofFrac fr Su185.red shortP gcdI
  rw [e]
  congr 2
  show (((x.2.toNat / Nat.gcd x.1.natAbs x.2.toNat : Nat)) : Int) = _
  rw [Int.natCast_ediv]
  congr 1
  omega
theorem ints_ofN (l : List Nat) : Su185.ints l = ofN l := rfl
section
variable {P : Program} {w : World} {K : PySem.W.Frag} {mg : Str → Option Value} {base : Heap} {C : Addr}
abbrev s_answer_put : Stmt := top 64
theorem sc_answer_put : FnScope ["tent", "p", "q", "place"] ["tent", "p", "q"] (defScope s_answer_put) := ⟨rfl, rfl, rfl, by decide +kernel, rfl, by decide +kernel, by decide +kernel⟩
def sp_answer_put (C : Addr) : Sp := PF (fun (x : TentD C × Int × Int × Unit) => okT x.1.t ∧ 0 ≤ x.2.1 ∧ 0 ≤ x.2.2.1) fun x => ansD x.1.t (.put x.2.1.toNat x.2.2.1.toNat)
theorem ok_answer_put (T : Tp mg) (TT : ClsTent K C) (D : DefAt K mg "answer_put" s_answer_put ["tent", "p", "q"]) (h_is_place : Has P w K mg base "is_place" ["p", "q"] 1 sp_is_place) (h_put_once : Has P w K mg base "put_once" ["a", "b", "place"] 1 sp_put_once)
    (h_shortened : Has P w K mg base "shortened" ["place"] 2 sp_shortened) : Has P w K mg base "answer_put" ["tent", "p", "q"] 3 (sp_answer_put C) := by
  refine has_PF D sc_answer_put rfl fun f cdv Ar outer s H vs Q E hr H0 a r hp q => ?_
  obtain ⟨v1, r1, rfl, h1, v2, r2, rfl, (rfl : v2 = _), v3, r3, rfl, (rfl : v3 = _), rfl⟩ := r
  obtain ⟨td, i, j, u⟩ := a
  obtain ⟨ht, hi, hj⟩ := (show okT td.t ∧ 0 ≤ i ∧ 0 ≤ j from hp)
  obtain ⟨b0, b1, b2, b3⟩ := ht.b0
  refine ⟨_, (pss_cons (ps_if (pt_not (pt_val (pe_has h_is_place (hr.mono (by decide)) (by rfl) (pa_cons (pv 1) (pa_cons (pv 2) pa_nil))))) (pss_one (ps_ret (pe_lst (pa_cons (pe_gi T.c_NOT_AS_TOLD (by rfl)) pa_nil)))) pss_nil)
      (pss_cons (ps_set (i := 3) sc_answer_put.nd rfl (Or.inl rfl) (pe_has h_shortened (hr.mono (by decide)) (by rfl) (pa_cons (pe_has h_put_once (hr.mono (by decide)) (by rfl) (pa_cons (pe_fld (pv 0) rfl) (pa_cons (pe_fld (pv 0) rfl) (pa_cons (pe_tup (pa_cons (pv 1) (pa_cons (pv 2) pa_nil))) pa_nil)))) pa_nil)))
      (pss_one (ps_ret (pe_lst (pa_cons pe_int (pa_cons (pe_ix ix_tup (pv 3) pe_int (fun _ _ => rfl)) (pa_cons (pe_ix ix_tup (pv 3) pe_int (fun _ _ => rfl)) pa_nil)))))))), ?_⟩
  refine q_when (eb_not (eb_B (ev_call (x := (i, j, ())) (ea_cons (ev_v rfl rfl) (ea_cons (ev_v rfl rfl) ea_nil)) ⟨hi, hj⟩))) (fun e => ?_) (fun e => ?_)
  · have e : Su185.okPlace i.toNat j.toNat = false := by simpa using e
    refine g_ret (EvR.eq (ev_lst (el_cons (ev_i (i := -22)) el_nil) (by decide)) ?_) q
    show _ = ansD td.t (.put i.toNat j.toNat)
    rw [ansD_put, if_pos e]
  · have e : Su185.okPlace i.toNat j.toNat = true := by simpa using e
    have e' := e
    unfold Su185.okPlace Su185.BELOW at e'
    simp only [Bool.and_eq_true, decide_eq_true_eq] at e'
    have hij : Sm2 40 (i, j) := ⟨sm_small (by show i.natAbs ≤ _; omega), sm_small (by show j.natAbs ≤ _; omega)⟩
    have hj0 : 0 < j := by omega
    have hpos : 0 < (putP td.t.a td.t.b (i, j)).2 := put_pos b0 (i, j) hj0
    have hnn : 0 ≤ (putP td.t.a td.t.b (i, j)).1 := by
      show 0 ≤ (if 2 * i ≤ j then i else j - i) * (td.t.a : Int)
      refine Int.mul_nonneg ?_ (by omega)
      split <;> omega
    refine q_asg (x := shortP (putP td.t.a td.t.b (i, j))) (ev_call (x := (putP td.t.a td.t.b (i, j), ())) (ea_cons (ev_call (x := ((td.t.a : Int), (td.t.b : Int), (i, j), ())) (ea_cons (ev_ta TT (ev_v (x := td) rfl h1)) (ea_cons (ev_tb TT (ev_v (x := td) rfl h1)) (ea_cons (ev_pair (ev_v rfl rfl) (ev_v rfl rfl)) ea_nil))) ⟨ht.sm.1, ht.sm.2, hij.up (by decide)⟩) ea_nil) ⟨hnn, hpos, ((sm_put hij ht.sm.1 ht.sm.2).up (by decide)).2⟩) ?_
    intro v Hv s1 hv
    refine g_ret (EvR.eq (ev_lst (el_cons (ev_i (i := 0)) (el_cons (ev_fst (x := shortP (putP td.t.a td.t.b (i, j))) (ev_v rfl hv)) (el_cons (ev_snd (x := shortP (putP td.t.a td.t.b (i, j))) (ev_v rfl hv)) el_nil))) (by simp)) ?_) q
    show _ = ansD td.t (.put i.toNat j.toNat)
    rw [ansD_put, if_neg (by rw [e]; decide)]
    have e1 : Su185.red ((i.toNat : Nat) : Int) j.toNat = fr (i, j) := by
      show Su185.red _ _ = Su185.red i j.toNat
      rw [show ((i.toNat : Nat) : Int) = i by omega]
    rw [e1, put_fr b0 (i, j) hj0, ofFrac_fr _ hpos]
abbrev s_answer_row : Stmt := top 65
theorem sc_answer_row : FnScope ["tent", "p", "q", "k"] ["tent", "p", "q", "k"] (defScope s_answer_row) := ⟨rfl, rfl, rfl, by decide +kernel, rfl, by decide +kernel, by decide +kernel⟩
def sp_answer_row (C : Addr) : Sp := PF (fun (x : TentD C × Int × Int × Int × Unit) => okT x.1.t ∧ 0 ≤ x.2.1 ∧ 0 ≤ x.2.2.1 ∧ 0 ≤ x.2.2.2.1) fun x => ansD x.1.t (.row x.2.1.toNat x.2.2.1.toNat x.2.2.2.1.toNat)
theorem rowI_len (a b : Int) (x : Int × Int) : ∀ k, (rowI a b x k).length = k
  | 0 => rfl
  | k + 1 => by
    show (rowI a b x k ++ [_]).length = k + 1
    rw [List.length_append, rowI_len a b x k]
    rfl
theorem ok_answer_row (T : Tp mg) (TT : ClsTent K C) (D : DefAt K mg "answer_row" s_answer_row ["tent", "p", "q", "k"]) (h_is_place : Has P w K mg base "is_place" ["p", "q"] 1 sp_is_place) (h_is_length : Has P w K mg base "is_length" ["k"] 1 sp_is_length)
    (h_row_of : Has P w K mg base "row_of" ["a", "b", "place", "k"] 2 sp_row_of) : Has P w K mg base "answer_row" ["tent", "p", "q", "k"] 3 (sp_answer_row C) := by
  refine has_PF D sc_answer_row rfl fun f cdv Ar outer s H vs Q E hr H0 a r hp q => ?_
  obtain ⟨v1, r1, rfl, h1, v2, r2, rfl, (rfl : v2 = _), v3, r3, rfl, (rfl : v3 = _), v4, r4, rfl, (rfl : v4 = _), rfl⟩ := r
  obtain ⟨td, i, j, k, u⟩ := a
  obtain ⟨ht, hi, hj, hk⟩ := (show okT td.t ∧ 0 ≤ i ∧ 0 ≤ j ∧ 0 ≤ k from hp)
  obtain ⟨b0, b1, b2, b3⟩ := ht.b0
  refine ⟨_, (pss_cons (ps_if (pt_not (PW.pt (pw_and (pt_val (pe_has h_is_place (hr.mono (by decide)) (by rfl) (pa_cons (pv 1) (pa_cons (pv 2) pa_nil)))) (pw_and1 (pt_val (pe_has h_is_length (hr.mono (by decide)) (by rfl) (pa_cons (pv 3) pa_nil))))))) (pss_one (ps_ret (pe_lst (pa_cons (pe_gi T.c_NOT_AS_TOLD (by rfl)) pa_nil)))) pss_nil)
      (pss_one (ps_ret (pe_op op_cat (pe_lst (pa_cons (pv 3) pa_nil)) (pe_has h_row_of (hr.mono (by decide)) (by rfl) (pa_cons (pe_fld (pv 0) rfl) (pa_cons (pe_fld (pv 0) rfl) (pa_cons (pe_tup (pa_cons (pv 1) (pa_cons (pv 2) pa_nil))) (pa_cons (pv 3) pa_nil))))))))), ?_⟩
  refine q_when (eb_not (eb_and (eb_B (ev_call (x := (i, j, ())) (ea_cons (ev_v rfl rfl) (ea_cons (ev_v rfl rfl) ea_nil)) ⟨hi, hj⟩)) (fun _ => eb_B (ev_call (x := (k, ())) (ea_cons (ev_v rfl rfl) ea_nil) trivial)))) (fun e => ?_) (fun e => ?_)
  · refine g_ret (EvR.eq (ev_lst (el_cons (ev_i (i := -22)) el_nil) (by decide)) ?_) q
    show _ = ansD td.t (.row i.toNat j.toNat k.toNat)
    rw [ansD_row, if_pos ?_]
    · dsimp only at e
      rw [Bool.not_eq_true', Bool.and_eq_false_iff] at e
      rcases e with e | e
      · exact Or.inl e
      · rw [Bool.and_eq_false_iff, decide_eq_false_iff_not, decide_eq_false_iff_not] at e
        exact Or.inr (by omega)
  · dsimp only at e
    rw [Bool.not_eq_false', Bool.and_eq_true, Bool.and_eq_true, decide_eq_true_eq, decide_eq_true_eq] at e
    obtain ⟨e, k1, k2⟩ := e
    have e' := e
    unfold Su185.okPlace Su185.BELOW at e'
    simp only [Bool.and_eq_true, decide_eq_true_eq] at e'
    have hij : Sm2 40 (i, j) := ⟨sm_small (by show i.natAbs ≤ _; omega), sm_small (by show j.natAbs ≤ _; omega)⟩
    have hj0 : 0 < j := by omega
    refine g_ret (EvR.eq (ev_cat (xs := [k]) (ys := rowI td.t.a td.t.b (i, j) k.toNat) (ev_lst (el_cons (ev_v rfl rfl) el_nil) (by simp)) (ev_call (x := ((td.t.a : Int), (td.t.b : Int), (i, j), k, ())) (ea_cons (ev_ta TT (ev_v (x := td) rfl h1)) (ea_cons (ev_tb TT (ev_v (x := td) rfl h1)) (ea_cons (ev_pair (ev_v rfl rfl) (ev_v rfl rfl)) (ea_cons (ev_v rfl rfl) ea_nil)))) ⟨ht.sm.1, ht.sm.2, hij.up (by decide), by show -100000 ≤ k; omega, by show k ≤ 40; omega⟩) (by rw [rowI_len]; simp; omega)) ?_) q
    show _ = ansD td.t (.row i.toNat j.toNat k.toNat)
    rw [ansD_row, if_neg (by rw [e]; simp; omega)]
    have e1 : Su185.red ((i.toNat : Nat) : Int) j.toNat = fr (i, j) := by
      show Su185.red _ _ = Su185.red i j.toNat
      rw [show ((i.toNat : Nat) : Int) = i by omega]
    rw [e1, row_fr b0 _ (i, j) hj0, show ((k.toNat : Nat) : Int) = k by omega]
    rfl
abbrev s_answer_lead : Stmt := top 66
theorem sc_answer_lead : FnScope ["tent", "k"] ["tent", "k"] (defScope s_answer_lead) := ⟨rfl, rfl, rfl, by decide +kernel, rfl, by decide +kernel, by decide +kernel⟩
def sp_answer_lead (C : Addr) : Sp := PF (fun (x : TentD C × Int × Unit) => okT x.1.t ∧ 0 ≤ x.2.1) fun x => ansD x.1.t (.lead x.2.1.toNat)
theorem ok_answer_lead (T : Tp mg) (TT : ClsTent K C) (D : DefAt K mg "answer_lead" s_answer_lead ["tent", "k"]) (h_is_length : Has P w K mg base "is_length" ["k"] 1 sp_is_length)
    (h_lead_of : Has P w K mg base "lead_of" ["a", "b", "k"] 3 sp_lead_of) : Has P w K mg base "answer_lead" ["tent", "k"] 4 (sp_answer_lead C) := by
  refine has_PF D sc_answer_lead rfl fun f cdv Ar outer s H vs Q E hr H0 a r hp q => ?_
  obtain ⟨v1, r1, rfl, h1, v2, r2, rfl, (rfl : v2 = _), rfl⟩ := r
  obtain ⟨td, k, u⟩ := a
  obtain ⟨ht, hk⟩ := (show okT td.t ∧ 0 ≤ k from hp)
  obtain ⟨b0, b1, b2, b3⟩ := ht.b0
  refine ⟨_, (pss_cons (ps_if (pt_not (pt_val (pe_has h_is_length (hr.mono (by decide)) (by rfl) (pa_cons (pv 1) pa_nil)))) (pss_one (ps_ret (pe_lst (pa_cons (pe_gi T.c_NOT_AS_TOLD (by rfl)) pa_nil)))) pss_nil)
      (pss_one (ps_ret (pe_op op_cat (pe_lst (pa_cons (pv 1) pa_nil)) (pe_has h_lead_of (hr.mono (by decide)) (by rfl) (pa_cons (pe_fld (pv 0) rfl) (pa_cons (pe_fld (pv 0) rfl) (pa_cons (pv 1) pa_nil)))))))), ?_⟩
  refine q_when (eb_not (eb_B (ev_call (x := (k, ())) (ea_cons (ev_v rfl rfl) ea_nil) trivial))) (fun e => ?_) (fun e => ?_)
  · refine g_ret (EvR.eq (ev_lst (el_cons (ev_i (i := -22)) el_nil) (by decide)) ?_) q
    show _ = ansD td.t (.lead k.toNat)
    rw [ansD_lead, if_pos ?_]
    · dsimp only at e
      rw [Bool.not_eq_true', Bool.and_eq_false_iff, decide_eq_false_iff_not, decide_eq_false_iff_not] at e
      omega
  · dsimp only at e
    rw [Bool.not_eq_false', Bool.and_eq_true, decide_eq_true_eq, decide_eq_true_eq] at e
    obtain ⟨k1, k2⟩ := e
    refine g_ret (EvR.eq (ev_cat (xs := [k]) (ys := leadI td.t.a td.t.b k) (ev_lst (el_cons (ev_v rfl rfl) el_nil) (by simp)) (ev_call (x := ((td.t.a : Int), (td.t.b : Int), k, ())) (ea_cons (ev_ta TT (ev_v (x := td) rfl h1)) (ea_cons (ev_tb TT (ev_v (x := td) rfl h1)) (ea_cons (ev_v rfl rfl) ea_nil))) ⟨ht.sm.1, ht.sm.2, by show -100000 ≤ k; omega, by show k ≤ 40; omega⟩) (by unfold leadI; rw [rowI_len]; simp; omega)) ?_) q
    show _ = ansD td.t (.lead k.toNat)
    rw [ansD_lead, if_neg (by omega)]
    have ek : ((k.toNat : Nat) : Int) = k := by omega
    rw [lead_fr b0, ek]
    rfl
abbrev s_answer_order : Stmt := top 67
theorem sc_answer_order : FnScope ["row", "other"] ["row", "other"] (defScope s_answer_order) := ⟨rfl, rfl, rfl, by decide +kernel, rfl, by decide +kernel, by decide +kernel⟩
/-- numbers that are none below 0 -/
def toN (l : List Int) : List Nat := l.map Int.toNat
def nn (l : List Int) : Prop := l.length ≤ 20 ∧ ∀ z ∈ l, 0 ≤ z
theorem ofN_toN : ∀ {l : List Int}, (∀ z ∈ l, 0 ≤ z) → ofN (toN l) = l
  | [], _ => rfl
  | x :: l, h => by
    have e := ofN_toN (l := l) fun z hz => h z (List.mem_cons_of_mem _ hz)
    have hx := h x List.mem_cons_self
    show ((x.toNat : Nat) : Int) :: ofN (toN l) = x :: l
    rw [e, show ((x.toNat : Nat) : Int) = x by omega]
theorem toN_len (l : List Int) : (toN l).length = l.length := List.length_map _
theorem any3_I {l : List Int} (h : ∀ z ∈ l, 0 ≤ z) : Su185.any3 (toN l) = (decide ((l.length : Int) ≤ 16) && l.all fun c => decide (c ≤ 2)) := by
  unfold Su185.any3 Su185.STEPS
  rw [toN_len, show decide ((l.length : Int) ≤ 16) = decide (l.length ≤ 16) from decide_eq_decide.mpr (by omega)]
  congr 1
  unfold toN
  rw [List.all_map]
  exact List.all_congr rfl fun c => decide_eq_decide.mpr (by show c.toNat ≤ 2 ↔ c ≤ 2; omega)
theorem okRow_I {l : List Int} (h : ∀ z ∈ l, 0 ≤ z) : Su185.okRow (toN l) 16 = ((decide (1 ≤ (l.length : Int)) && decide ((l.length : Int) ≤ 16)) && l.all fun c => ([0, 2] : List Int).any fun n => n == c) := by
  unfold Su185.okRow
  rw [toN_len, Bool.and_assoc, show decide ((l.length : Int) ≤ 16) = decide (l.length ≤ 16) from decide_eq_decide.mpr (by omega), show decide (1 ≤ (l.length : Int)) = decide (0 < l.length) from decide_eq_decide.mpr (by omega)]
  congr 2
  unfold toN
  rw [List.all_map, Bool.eq_iff_iff, List.all_eq_true, List.all_eq_true]
  have key : ∀ z ∈ l, (((fun c => c == 0 || c == 2) ∘ Int.toNat) z = true) ↔ (([0, 2] : List Int).any fun n => n == z) = true := fun z hz => by
    have h0 := h z hz
    show (z.toNat == 0 || z.toNat == 2) = true ↔ ((0 : Int) == z || ((2 : Int) == z || false)) = true
    simp only [Bool.or_eq_true, beq_iff_eq, Bool.or_false]
    omega
  exact ⟨fun g z hz => (key z hz).mp (g z hz), fun g z hz => (key z hz).mpr (g z hz)⟩
def sp_answer_order : Sp := PF (fun (x : List Int × List Int × Unit) => nn x.1 ∧ nn x.2.1) fun x => ansD ⟨2, 1⟩ (.order (toN x.1) (toN x.2.1))
theorem ok_answer_order (T : Tp mg) (D : DefAt K mg "answer_order" s_answer_order ["row", "other"]) (h_is_row_to_order : Has P w K mg base "is_row_to_order" ["row"] 1 sp_is_row_to_order)
    (h_compare : Has P w K mg base "compare" ["row", "other"] 1 sp_compare) : Has P w K mg base "answer_order" ["row", "other"] 2 sp_answer_order := by
  refine has_PF D sc_answer_order rfl fun f cdv Ar outer s H vs Q E hr H0 a r hp q => ?_
  obtain ⟨v1, r1, rfl, h1, v2, r2, rfl, h2, rfl⟩ := r
  obtain ⟨l, m, u⟩ := a
  obtain ⟨⟨n1, n2⟩, n3, n4⟩ := (show nn l ∧ nn m from hp)
  refine ⟨_, (pss_cons (ps_if (pt_not (PW.pt (pw_and (pt_val (pe_has h_is_row_to_order (hr.mono (by decide)) (by rfl) (pa_cons (pv 0) pa_nil))) (pw_and1 (pt_val (pe_has h_is_row_to_order (hr.mono (by decide)) (by rfl) (pa_cons (pv 1) pa_nil))))))) (pss_one (ps_ret (pe_lst (pa_cons (pe_gi T.c_NOT_AS_TOLD (by rfl)) pa_nil)))) pss_nil)
      (pss_one (ps_ret (pe_lst (pa_cons (pe_has h_compare (hr.mono (by decide)) (by rfl) (pa_cons (pv 0) (pa_cons (pv 1) pa_nil))) pa_nil))))), ?_⟩
  refine q_when (eb_not (eb_and (eb_B (ev_call (x := (l, ())) (ea_cons (ev_v rfl h1) ea_nil) (by show l.length ≤ 1000; omega))) (fun _ => eb_B (ev_call (x := (m, ())) (ea_cons (ev_v rfl h2) ea_nil) (by show m.length ≤ 1000; omega))))) (fun e => ?_) (fun e => ?_)
  · refine g_ret (EvR.eq (ev_lst (el_cons (ev_i (i := -22)) el_nil) (by decide)) ?_) q
    show _ = ansD ⟨2, 1⟩ (.order (toN l) (toN m))
    rw [ansD_order, if_pos ?_]
    · dsimp only at e
      rw [← any3_I n2, ← any3_I n4] at e
      simpa using e
  · dsimp only at e
    rw [← any3_I n2, ← any3_I n4] at e
    refine g_ret (EvR.eq (ev_lst (el_cons (ev_call (x := (l, m, ())) (ea_cons (ev_v rfl h1) (ea_cons (ev_v rfl h2) ea_nil)) (by show l.length ≤ 1000; omega)) el_nil) (by simp)) ?_) q
    show [cmpI l m false] = ansD ⟨2, 1⟩ (.order (toN l) (toN m))
    rw [ansD_order, if_neg (by simpa using e), order_I, ofN_toN n2, ofN_toN n4]
abbrev s_answer_fits : Stmt := top 68
theorem sc_answer_fits : FnScope ["tent", "row", "lead"] ["tent", "row"] (defScope s_answer_fits) := ⟨rfl, rfl, rfl, by decide +kernel, rfl, by decide +kernel, by decide +kernel⟩
def sp_answer_fits (C : Addr) : Sp := PF (fun (x : TentD C × List Int × Unit) => okT x.1.t ∧ nn x.2.1) fun x => ansD x.1.t (.fits (toN x.2.1))
theorem ok_answer_fits (T : Tp mg) (TT : ClsTent K C) (D : DefAt K mg "answer_fits" s_answer_fits ["tent", "row"]) (h_is_row_of_sides : Has P w K mg base "is_row_of_sides" ["row"] 2 sp_is_row_of_sides)
    (h_lead_of : Has P w K mg base "lead_of" ["a", "b", "k"] 3 sp_lead_of) (h_row_fits : Has P w K mg base "row_fits" ["row", "lead"] 2 sp_row_fits) : Has P w K mg base "answer_fits" ["tent", "row"] 4 (sp_answer_fits C) := by
  refine has_PF D sc_answer_fits rfl fun f cdv Ar outer s H vs Q E hr H0 a r hp q => ?_
  obtain ⟨v1, r1, rfl, h1, v2, r2, rfl, h2, rfl⟩ := r
  obtain ⟨td, l, u⟩ := a
  obtain ⟨ht, n1, n2⟩ := (show okT td.t ∧ nn l from hp)
  obtain ⟨b0, b1, b2, b3⟩ := ht.b0
  refine ⟨_, (pss_cons (ps_if (pt_not (pt_val (pe_has h_is_row_of_sides (hr.mono (by decide)) (by rfl) (pa_cons (pv 1) pa_nil)))) (pss_one (ps_ret (pe_lst (pa_cons (pe_gi T.c_NOT_AS_TOLD (by rfl)) pa_nil)))) pss_nil)
      (pss_cons (ps_set (i := 2) sc_answer_fits.nd rfl (Or.inl rfl) (pe_has h_lead_of (hr.mono (by decide)) (by rfl) (pa_cons (pe_fld (pv 0) rfl) (pa_cons (pe_fld (pv 0) rfl) (pa_cons (pe_callB call_len_seq (by rfl) T.b_len (by decide +kernel) (pa_cons (pv 1) pa_nil)) pa_nil)))))
      (pss_one (ps_ret (pe_lst (pa_cons (pe_ifExp (pt_val (pe_has h_row_fits (hr.mono (by decide)) (by rfl) (pa_cons (pv 1) (pa_cons (pv 2) pa_nil)))) pe_int pe_int) pa_nil)))))), ?_⟩
  refine q_when (eb_not (eb_B (ev_call (x := (l, ())) (ea_cons (ev_v rfl h2) ea_nil) (by show l.length ≤ 1000; omega)))) (fun e => ?_) (fun e => ?_)
  · refine g_ret (EvR.eq (ev_lst (el_cons (ev_i (i := -22)) el_nil) (by decide)) ?_) q
    show _ = ansD td.t (.fits (toN l))
    dsimp only at e
    rw [← okRow_I n2] at e
    rw [ansD_fits, if_pos (by simpa using e)]
  · dsimp only at e
    rw [← okRow_I n2] at e
    refine q_asg (ev_call (x := ((td.t.a : Int), (td.t.b : Int), (l.length : Int), ())) (ea_cons (ev_ta TT (ev_v (x := td) rfl h1)) (ea_cons (ev_tb TT (ev_v (x := td) rfl h1)) (ea_cons (ev_len (xs := l) (ev_v rfl h2)) ea_nil))) ⟨ht.sm.1, ht.sm.2, by show -100000 ≤ (l.length : Int); omega, by show (l.length : Int) ≤ 40; omega⟩) ?_
    intro v Hv s1 hv
    have hv : Py.rep Hv v (leadI td.t.a td.t.b (l.length : Int)) := hv
    refine g_ret (x := ansD td.t (.fits (toN l))) (EvR.eq (ev_lst (el_cons (x := if fitsI l (leadI td.t.a td.t.b (l.length : Int)) = true then (1 : Int) else 0) (ev_if (eb_B (ev_call (x := (l, leadI td.t.a td.t.b (l.length : Int), ())) (ea_cons (ev_v rfl (Py.mono s1 h2)) (ea_cons (ev_v rfl hv) ea_nil)) (by show l.length ≤ 1000; omega))) (fun b => ?_) (fun b => ?_)) el_nil) (by simp)) ?_) q
    · rw [if_pos b]
      exact ev_i
    · rw [if_neg (by have b : fitsI l (leadI td.t.a td.t.b (l.length : Int)) = false := b; rw [b]; decide)]
      exact ev_i
    · have e2 : ¬ Su185.okRow (toN l) 16 = false := by simpa using e
      rw [ansD_fits, if_neg e2, fits_I b0 (toN l) l.length (by rw [toN_len]; exact Nat.le_refl _), ofN_toN n2]
      cases fitsI l (leadI td.t.a td.t.b (l.length : Int)) <;> rfl
abbrev s_answer_count : Stmt := top 71
theorem sc_answer_count : FnScope ["tent", "k"] ["tent", "k"] (defScope s_answer_count) := ⟨rfl, rfl, rfl, by decide +kernel, rfl, by decide +kernel, by decide +kernel⟩
def sp_answer_count (C : Addr) : Sp := PF (fun (x : TentD C × Int × Unit) => okT x.1.t ∧ 0 ≤ x.2.1) fun x => ansD x.1.t (.count x.2.1.toNat)
theorem ok_answer_count (T : Tp mg) (TT : ClsTent K C) (D : DefAt K mg "answer_count" s_answer_count ["tent", "k"]) (h_is_number_of_steps : Has P w K mg base "is_number_of_steps" ["k"] 1 sp_is_number_of_steps) (h_lead_of : Has P w K mg base "lead_of" ["a", "b", "k"] 3 sp_lead_of)
    (h_count_fitting : Has P w K mg base "count_fitting" ["lead", "k"] 2 sp_count_fitting) : Has P w K mg base "answer_count" ["tent", "k"] 4 (sp_answer_count C) := by
  refine has_PF D sc_answer_count rfl fun f cdv Ar outer s H vs Q E hr H0 a r hp q => ?_
  obtain ⟨v1, r1, rfl, h1, v2, r2, rfl, (rfl : v2 = _), rfl⟩ := r
  obtain ⟨td, k, u⟩ := a
  obtain ⟨ht, hk⟩ := (show okT td.t ∧ 0 ≤ k from hp)
  obtain ⟨b0, b1, b2, b3⟩ := ht.b0
  refine ⟨_, (pss_cons (ps_if (pt_not (pt_val (pe_has h_is_number_of_steps (hr.mono (by decide)) (by rfl) (pa_cons (pv 1) pa_nil)))) (pss_one (ps_ret (pe_lst (pa_cons (pe_gi T.c_NOT_AS_TOLD (by rfl)) pa_nil)))) pss_nil)
      (pss_one (ps_ret (pe_lst (pa_cons (pe_has h_count_fitting (hr.mono (by decide)) (by rfl) (pa_cons (pe_has h_lead_of (hr.mono (by decide)) (by rfl) (pa_cons (pe_fld (pv 0) rfl) (pa_cons (pe_fld (pv 0) rfl) (pa_cons (pv 1) pa_nil)))) (pa_cons (pv 1) pa_nil))) pa_nil))))), ?_⟩
  refine q_when (eb_not (eb_B (ev_call (x := (k, ())) (ea_cons (ev_v rfl rfl) ea_nil) trivial))) (fun e => ?_) (fun e => ?_)
  · refine g_ret (EvR.eq (ev_lst (el_cons (ev_i (i := -22)) el_nil) (by decide)) ?_) q
    show _ = ansD td.t (.count k.toNat)
    rw [ansD_count, if_pos ?_]
    · dsimp only at e
      rw [Bool.not_eq_true', Bool.and_eq_false_iff, decide_eq_false_iff_not, decide_eq_false_iff_not] at e
      omega
  · dsimp only at e
    rw [Bool.not_eq_false', Bool.and_eq_true, decide_eq_true_eq, decide_eq_true_eq] at e
    obtain ⟨k1, k2⟩ := e
    refine g_ret (EvR.eq (ev_lst (el_cons (ev_call (x := (leadI td.t.a td.t.b k, k, ())) (ea_cons (ev_call (x := ((td.t.a : Int), (td.t.b : Int), k, ())) (ea_cons (ev_ta TT (ev_v (x := td) rfl h1)) (ea_cons (ev_tb TT (ev_v (x := td) rfl h1)) (ea_cons (ev_v rfl rfl) ea_nil))) ⟨ht.sm.1, ht.sm.2, by show -100000 ≤ k; omega, by show k ≤ 40; omega⟩) (ea_cons (ev_v rfl rfl) ea_nil)) ⟨k1, by show k ≤ 12; omega⟩) el_nil) (by simp)) ?_) q
    show [(((aheadI (keptI (leadI td.t.a td.t.b k) (k - 1).toNat)).length : Nat) : Int)] = ansD td.t (.count k.toNat)
    rw [ansD_count, if_neg (by omega)]
    have ek : ((k.toNat : Nat) : Int) = k := by omega
    have e1 : k.toNat = (k - 1).toNat + 1 := by omega
    have e2 := count_I (t := td.t) b0 (k - 1).toNat k.toNat (by omega)
    rw [← e1, ek] at e2
    rw [e2]
end
end Ft

set_option Elab.async false
set_option linter.all false
set_option maxRecDepth 100000
set_option maxHeartbeats 2000000
namespace Ft
open PySem PySem.Spec PyProof.Rows L2
theorem okRow_out {l : List Int} (n2 : ∀ z ∈ l, 0 ≤ z) (h : Su185.okRow (toN l) 16 = true) : l ≠ [] ∧ l.length ≤ 16 ∧ (∀ c ∈ l, c = 0 ∨ c = 2) ∧ toN l ≠ [] ∧ ∀ c ∈ toN l, c = 0 ∨ c = 2 := by
  have h' := h
  rw [okRow_I n2] at h'
  simp only [Bool.and_eq_true, decide_eq_true_eq] at h'
  obtain ⟨⟨h1, h2⟩, h3⟩ := h'
  rw [List.all_eq_true] at h3
  have sd : ∀ c ∈ l, c = 0 ∨ c = 2 := fun c hc => by
    have g : ((0 : Int) == c || ((2 : Int) == c || false)) = true := h3 c hc
    simp only [Bool.or_eq_true, beq_iff_eq, Bool.or_false] at g
    omega
  refine ⟨fun e => ?_, by omega, sd, fun e => ?_, fun c hc => ?_⟩
  · rw [e] at h1
    simp at h1
  · have e2 := toN_len l
    rw [e] at e2
    simp only [List.length_nil] at e2
    omega
  · obtain ⟨n, hn, e⟩ := List.mem_map.mp hc
    have := sd n hn
    omega
section
variable {P : Program} {w : World} {K : PySem.W.Frag} {mg : Str → Option Value} {base : Heap} {C : Addr}
abbrev s_answer_holds : Stmt := top 69
theorem sc_answer_holds : FnScope ["tent", "row", "ends"] ["tent", "row"] (defScope s_answer_holds) := ⟨rfl, rfl, rfl, by decide +kernel, rfl, by decide +kernel, by decide +kernel⟩
def sp_answer_holds (C : Addr) : Sp := PF (fun (x : TentD C × List Int × Unit) => okT x.1.t ∧ nn x.2.1) fun x => ansD x.1.t (.holds (toN x.2.1))
theorem ok_answer_holds (T : Tp mg) (TT : ClsTent K C) (D : DefAt K mg "answer_holds" s_answer_holds ["tent", "row"]) (h_is_row_of_sides : Has P w K mg base "is_row_of_sides" ["row"] 2 sp_is_row_of_sides)
    (h_stretch_of : Has P w K mg base "stretch_of" ["a", "b", "row"] 3 sp_stretch_of) : Has P w K mg base "answer_holds" ["tent", "row"] 4 (sp_answer_holds C) := by
  refine has_PF D sc_answer_holds rfl fun f cdv Ar outer s H vs Q E hr H0 a r hp q => ?_
  obtain ⟨v1, r1, rfl, h1, v2, r2, rfl, h2, rfl⟩ := r
  obtain ⟨td, l, u⟩ := a
  obtain ⟨ht, n1, n2⟩ := (show okT td.t ∧ nn l from hp)
  obtain ⟨b0, b1, b2, b3⟩ := ht.b0
  refine ⟨_, (pss_cons (ps_if (pt_not (pt_val (pe_has h_is_row_of_sides (hr.mono (by decide)) (by rfl) (pa_cons (pv 1) pa_nil)))) (pss_one (ps_ret (pe_lst (pa_cons (pe_gi T.c_NOT_AS_TOLD (by rfl)) pa_nil)))) pss_nil)
      (pss_cons (ps_set (i := 2) sc_answer_holds.nd rfl (Or.inl rfl) (pe_has h_stretch_of (hr.mono (by decide)) (by rfl) (pa_cons (pe_fld (pv 0) rfl) (pa_cons (pe_fld (pv 0) rfl) (pa_cons (pv 1) pa_nil)))))
      (pss_cons (ps_if (pt_cmpR op_isN (pv 2) pe_non (nomark _)) (pss_one (ps_ret (pe_lst (pa_cons (pe_gi T.c_THERE_IS_NONE (by rfl)) pa_nil)))) pss_nil)
      (pss_one (ps_ret (pe_op op_cat (pe_op op_cat (pe_lst (pa_cons pe_int pa_nil)) (pe_callTy call_list_of (by rfl) T.b_list (by decide +kernel) (pa_cons (pe_ix ix_tup (pv 2) pe_int (fun _ _ => rfl)) pa_nil))) (pe_callTy call_list_of (by rfl) T.b_list (by decide +kernel) (pa_cons (pe_ix ix_tup (pv 2) pe_int (fun _ _ => rfl)) pa_nil)))))))), ?_⟩
  refine q_when (eb_not (eb_B (ev_call (x := (l, ())) (ea_cons (ev_v rfl h2) ea_nil) (by show l.length ≤ 1000; omega)))) (fun e => ?_) (fun e => ?_)
  · refine g_ret (EvR.eq (ev_lst (el_cons (ev_i (i := -22)) el_nil) (by decide)) ?_) q
    show _ = ansD td.t (.holds (toN l))
    dsimp only at e
    rw [← okRow_I n2] at e
    rw [ansD_holds, if_pos (by simpa using e)]
  · dsimp only at e
    rw [← okRow_I n2] at e
    have e : Su185.okRow (toN l) 16 = true := by simpa using e
    have ans : ansD td.t (.holds (toN l)) = match td.t.holds (toN l) with | some x => 0 :: (Su185.ofFrac x.1 ++ Su185.ofFrac x.2) | none => [-33] := by
      exact (ansD_holds _ _).trans (if_neg (by rw [e]; decide))
    rw [holds_I b0 (by omega), ofN_toN n2] at ans
    refine q_asg (ev_call (x := ((td.t.a : Int), (td.t.b : Int), l, ())) (ea_cons (ev_ta TT (ev_v (x := td) rfl h1)) (ea_cons (ev_tb TT (ev_v (x := td) rfl h1)) (ea_cons (ev_v rfl h2) ea_nil))) ⟨ht.sm100.1, ht.sm100.2, by show (0 : Int) < (td.t.a : Int); omega, by show (0 : Int) < (td.t.b : Int); omega, n1⟩) ?_
    intro v Hv s1 hv
    have hv : Py.rep Hv v (stretchI td.t.a td.t.b l) := hv
    cases ez : strI td.t.a td.t.b l with
    | none =>
      have es : stretchI td.t.a td.t.b l = none := by
        unfold stretchI
        rw [ez]
        rfl
      rw [es] at hv
      refine q_when (b := true) (EvB.eq (eb_test (ev_isN (x := (none : Option ((Int × Int) × (Int × Int)))) (ev_v rfl hv))) rfl) (fun _ => ?_) (fun e => by cases e)
      refine g_ret (x := ansD td.t (.holds (toN l))) (EvR.eq (ev_lst (el_cons (ev_i (i := -33)) el_nil) (by decide)) ?_) q
      rw [ans, ez]
      rfl
    | some z =>
      have ok := ok_str (a := td.t.a) (b := td.t.b) (by omega) (by omega) _ ez
      have hz : 0 < z.2.2 := by have := ok.lo; have := ok.lt; have := ok.hi; omega
      have es : stretchI td.t.a td.t.b l = some (shortP (z.1, z.2.2), shortP (z.2.1, z.2.2)) := by
        unfold stretchI
        rw [ez]
        rfl
      rw [es] at hv
      have hv2 := rep_some hv
      refine q_when (b := false) (EvB.eq (eb_test (ev_isN (x := some (shortP (z.1, z.2.2), shortP (z.2.1, z.2.2))) (ev_v rfl hv))) rfl) (fun e => by cases e) (fun _ => ?_)
      refine g_ret (x := ansD td.t (.holds (toN l))) (EvR.eq (ev_cat (ev_cat (ev_lst (el_cons (ev_i (i := 0)) el_nil) (by decide)) (ev_listT (ev_fst (x := (shortP (z.1, z.2.2), shortP (z.2.1, z.2.2))) (ev_v rfl hv2))) (by simp)) (ev_listT (ev_snd (x := (shortP (z.1, z.2.2), shortP (z.2.1, z.2.2))) (ev_v rfl hv2))) (by simp)) ?_) q
      rw [ans, ez]
      show _ = 0 :: (Su185.ofFrac (fr (z.1, z.2.2)) ++ Su185.ofFrac (fr (z.2.1, z.2.2)))
      rw [ofFrac_fr (z.1, z.2.2) hz, ofFrac_fr (z.2.1, z.2.2) hz]
      rfl
abbrev s_answer_comes : Stmt := top 70
theorem sc_answer_comes : FnScope ["tent", "row", "place"] ["tent", "row"] (defScope s_answer_comes) := ⟨rfl, rfl, rfl, by decide +kernel, rfl, by decide +kernel, by decide +kernel⟩
def sp_answer_comes (C : Addr) : Sp := PF (fun (x : TentD C × List Int × Unit) => okT x.1.t ∧ nn x.2.1) fun x => ansD x.1.t (.comes (toN x.2.1))
theorem ok_answer_comes (T : Tp mg) (TT : ClsTent K C) (D : DefAt K mg "answer_comes" s_answer_comes ["tent", "row"]) (h_is_row_of_sides : Has P w K mg base "is_row_of_sides" ["row"] 2 sp_is_row_of_sides)
    (h_place_back_along : Has P w K mg base "place_back_along" ["a", "b", "row"] 3 sp_place_back_along) : Has P w K mg base "answer_comes" ["tent", "row"] 4 (sp_answer_comes C) := by
  refine has_PF D sc_answer_comes rfl fun f cdv Ar outer s H vs Q E hr H0 a r hp q => ?_
  obtain ⟨v1, r1, rfl, h1, v2, r2, rfl, h2, rfl⟩ := r
  obtain ⟨td, l, u⟩ := a
  obtain ⟨ht, n1, n2⟩ := (show okT td.t ∧ nn l from hp)
  obtain ⟨b0, b1, b2, b3⟩ := ht.b0
  refine ⟨_, (pss_cons (ps_if (pt_not (pt_val (pe_has h_is_row_of_sides (hr.mono (by decide)) (by rfl) (pa_cons (pv 1) pa_nil)))) (pss_one (ps_ret (pe_lst (pa_cons (pe_gi T.c_NOT_AS_TOLD (by rfl)) pa_nil)))) pss_nil)
      (pss_cons (ps_set (i := 2) sc_answer_comes.nd rfl (Or.inl rfl) (pe_has h_place_back_along (hr.mono (by decide)) (by rfl) (pa_cons (pe_fld (pv 0) rfl) (pa_cons (pe_fld (pv 0) rfl) (pa_cons (pv 1) pa_nil)))))
      (pss_cons (ps_if (pt_cmpR op_isN (pv 2) pe_non (nomark _)) (pss_one (ps_ret (pe_lst (pa_cons (pe_gi T.c_THERE_IS_NONE (by rfl)) pa_nil)))) pss_nil)
      (pss_one (ps_ret (pe_op op_cat (pe_lst (pa_cons pe_int pa_nil)) (pe_callTy call_list_of (by rfl) T.b_list (by decide +kernel) (pa_cons (pv 2) pa_nil)))))))), ?_⟩
  refine q_when (eb_not (eb_B (ev_call (x := (l, ())) (ea_cons (ev_v rfl h2) ea_nil) (by show l.length ≤ 1000; omega)))) (fun e => ?_) (fun e => ?_)
  · refine g_ret (EvR.eq (ev_lst (el_cons (ev_i (i := -22)) el_nil) (by decide)) ?_) q
    show _ = ansD td.t (.comes (toN l))
    dsimp only at e
    rw [← okRow_I n2] at e
    rw [ansD_comes, if_pos (by simpa using e)]
  · dsimp only at e
    rw [← okRow_I n2] at e
    have e : Su185.okRow (toN l) 16 = true := by simpa using e
    obtain ⟨o1, o2, o3, o4, o5⟩ := okRow_out n2 e
    have ans : ansD td.t (.comes (toN l)) = match td.t.comes (toN l) with | some x => 0 :: Su185.ofFrac x | none => [-33] := by
      exact (ansD_comes _ _).trans (if_neg (by rw [e]; decide))
    rw [comes_I b0 b1 o4 o5, ofN_toN n2] at ans
    have a0 : (0 : Int) < (td.t.b : Int) := by omega
    have ab : (td.t.b : Int) < (td.t.a : Int) := by omega
    obtain ⟨k1, k2⟩ := along_okL a0 ab l (1, 0, 1) ok_one
    have hpos : 0 < (fixI td.t.a td.t.b l).2 := fix_pos k1 (k2 o1)
    refine q_asg (ev_call (x := ((td.t.a : Int), (td.t.b : Int), l, ())) (ea_cons (ev_ta TT (ev_v (x := td) rfl h1)) (ea_cons (ev_tb TT (ev_v (x := td) rfl h1)) (ea_cons (ev_v rfl h2) ea_nil))) ⟨⟨ht.sm100.1, ht.sm100.2, n1⟩, a0, ab, o1, o3⟩) ?_
    intro v Hv s1 hv
    have hv : Py.rep Hv v (comesI td.t.a td.t.b l) := hv
    by_cases c : rowI td.t.a td.t.b (fixI td.t.a td.t.b l) l.length = l
    · have es : comesI td.t.a td.t.b l = some (shortP (fixI td.t.a td.t.b l)) := if_pos c
      rw [es] at hv
      have hv2 := rep_some hv
      refine q_when (b := false) (EvB.eq (eb_test (ev_isN (x := some (shortP (fixI td.t.a td.t.b l))) (ev_v rfl hv))) rfl) (fun e => by cases e) (fun _ => ?_)
      refine g_ret (x := ansD td.t (.comes (toN l))) (EvR.eq (ev_cat (ev_lst (el_cons (ev_i (i := 0)) el_nil) (by decide)) (ev_listT (x := shortP (fixI td.t.a td.t.b l)) (ev_v rfl hv2)) (by simp)) ?_) q
      rw [ans, if_pos c]
      show _ = 0 :: Su185.ofFrac (fr (fixI td.t.a td.t.b l))
      rw [ofFrac_fr _ hpos]
      rfl
    · have es : comesI td.t.a td.t.b l = none := if_neg c
      rw [es] at hv
      refine q_when (b := true) (EvB.eq (eb_test (ev_isN (x := (none : Option (Int × Int))) (ev_v rfl hv))) rfl) (fun _ => ?_) (fun e => by cases e)
      refine g_ret (x := ansD td.t (.comes (toN l))) (EvR.eq (ev_lst (el_cons (ev_i (i := -33)) el_nil) (by decide)) ?_) q
      rw [ans, if_neg c]
abbrev s_answer_laps : Stmt := top 72
theorem sc_answer_laps : FnScope ["tent", "k"] ["tent", "k"] (defScope s_answer_laps) := ⟨rfl, rfl, rfl, by decide +kernel, rfl, by decide +kernel, by decide +kernel⟩
def sp_answer_laps (C : Addr) : Sp := PF (fun (x : TentD C × Int × Unit) => okT x.1.t ∧ 0 ≤ x.2.1) fun x => ansD x.1.t (.laps x.2.1.toNat)
theorem ok_answer_laps (T : Tp mg) (TT : ClsTent K C) (D : DefAt K mg "answer_laps" s_answer_laps ["tent", "k"]) (h_is_number_of_steps : Has P w K mg base "is_number_of_steps" ["k"] 1 sp_is_number_of_steps)
    (h_count_laps : Has P w K mg base "count_laps" ["a", "b", "k"] 2 sp_count_laps) : Has P w K mg base "answer_laps" ["tent", "k"] 3 (sp_answer_laps C) := by
  refine has_PF D sc_answer_laps rfl fun f cdv Ar outer s H vs Q E hr H0 a r hp q => ?_
  obtain ⟨v1, r1, rfl, h1, v2, r2, rfl, (rfl : v2 = _), rfl⟩ := r
  obtain ⟨td, k, u⟩ := a
  obtain ⟨ht, hk⟩ := (show okT td.t ∧ 0 ≤ k from hp)
  obtain ⟨b0, b1, b2, b3⟩ := ht.b0
  refine ⟨_, (pss_cons (ps_if (pt_not (pt_val (pe_has h_is_number_of_steps (hr.mono (by decide)) (by rfl) (pa_cons (pv 1) pa_nil)))) (pss_one (ps_ret (pe_lst (pa_cons (pe_gi T.c_NOT_AS_TOLD (by rfl)) pa_nil)))) pss_nil)
      (pss_one (ps_ret (pe_lst (pa_cons (pe_has h_count_laps (hr.mono (by decide)) (by rfl) (pa_cons (pe_fld (pv 0) rfl) (pa_cons (pe_fld (pv 0) rfl) (pa_cons (pv 1) pa_nil)))) pa_nil))))), ?_⟩
  refine q_when (eb_not (eb_B (ev_call (x := (k, ())) (ea_cons (ev_v rfl rfl) ea_nil) trivial))) (fun e => ?_) (fun e => ?_)
  · refine g_ret (EvR.eq (ev_lst (el_cons (ev_i (i := -22)) el_nil) (by decide)) ?_) q
    show _ = ansD td.t (.laps k.toNat)
    rw [ansD_laps, if_pos ?_]
    · dsimp only at e
      rw [Bool.not_eq_true', Bool.and_eq_false_iff, decide_eq_false_iff_not, decide_eq_false_iff_not] at e
      omega
  · dsimp only at e
    rw [Bool.not_eq_false', Bool.and_eq_true, decide_eq_true_eq, decide_eq_true_eq] at e
    obtain ⟨k1, k2⟩ := e
    refine g_ret (EvR.eq (ev_lst (el_cons (ev_call (x := ((td.t.a : Int), (td.t.b : Int), k, ())) (ea_cons (ev_ta TT (ev_v (x := td) rfl h1)) (ea_cons (ev_tb TT (ev_v (x := td) rfl h1)) (ea_cons (ev_v rfl rfl) ea_nil))) ⟨ht.sm100.1, ht.sm100.2, k1, by show k ≤ 12; omega⟩) el_nil) (by simp)) ?_) q
    show [((foldsI td.t.a td.t.b (k - 1).toNat : Nat) : Int) + 1] = ansD td.t (.laps k.toNat)
    rw [ansD_laps, if_neg (by omega)]
    have e1 : k.toNat = (k - 1).toNat + 1 := by omega
    have e2 := laps_I (t := td.t) b0 b1 b2 (k - 1).toNat
    rw [← e1] at e2
    rw [e2, Int.natCast_add]
    rfl
abbrev s_answer_rounds : Stmt := top 73
theorem sc_answer_rounds : FnScope ["tent", "k"] ["tent", "k"] (defScope s_answer_rounds) := ⟨rfl, rfl, rfl, by decide +kernel, rfl, by decide +kernel, by decide +kernel⟩
def sp_answer_rounds (C : Addr) : Sp := PF (fun (x : TentD C × Int × Unit) => okT x.1.t ∧ 0 ≤ x.2.1) fun x => ansD x.1.t (.rounds x.2.1.toNat)
theorem ok_answer_rounds (T : Tp mg) (TT : ClsTent K C) (D : DefAt K mg "answer_rounds" s_answer_rounds ["tent", "k"]) (h_is_number_of_steps : Has P w K mg base "is_number_of_steps" ["k"] 1 sp_is_number_of_steps)
    (h_rounds_of : Has P w K mg base "rounds_of" ["a", "b", "k"] 4 sp_rounds_of) : Has P w K mg base "answer_rounds" ["tent", "k"] 5 (sp_answer_rounds C) := by
  refine has_PF D sc_answer_rounds rfl fun f cdv Ar outer s H vs Q E hr H0 a r hp q => ?_
  obtain ⟨v1, r1, rfl, h1, v2, r2, rfl, (rfl : v2 = _), rfl⟩ := r
  obtain ⟨td, k, u⟩ := a
  obtain ⟨ht, hk⟩ := (show okT td.t ∧ 0 ≤ k from hp)
  obtain ⟨b0, b1, b2, b3⟩ := ht.b0
  refine ⟨_, (pss_cons (ps_if (pt_not (pt_val (pe_has h_is_number_of_steps (hr.mono (by decide)) (by rfl) (pa_cons (pv 1) pa_nil)))) (pss_one (ps_ret (pe_lst (pa_cons (pe_gi T.c_NOT_AS_TOLD (by rfl)) pa_nil)))) pss_nil)
      (pss_one (ps_ret (pe_lst (pa_cons (pe_callB call_len_seq (by rfl) T.b_len (by decide +kernel) (pa_cons (pe_has h_rounds_of (hr.mono (by decide)) (by rfl) (pa_cons (pe_fld (pv 0) rfl) (pa_cons (pe_fld (pv 0) rfl) (pa_cons (pv 1) pa_nil)))) pa_nil)) pa_nil))))), ?_⟩
  refine q_when (eb_not (eb_B (ev_call (x := (k, ())) (ea_cons (ev_v rfl rfl) ea_nil) trivial))) (fun e => ?_) (fun e => ?_)
  · refine g_ret (EvR.eq (ev_lst (el_cons (ev_i (i := -22)) el_nil) (by decide)) ?_) q
    show _ = ansD td.t (.rounds k.toNat)
    rw [ansD_rounds, if_pos ?_]
    · dsimp only at e
      rw [Bool.not_eq_true', Bool.and_eq_false_iff, decide_eq_false_iff_not, decide_eq_false_iff_not] at e
      omega
  · dsimp only at e
    rw [Bool.not_eq_false', Bool.and_eq_true, decide_eq_true_eq, decide_eq_true_eq] at e
    obtain ⟨k1, k2⟩ := e
    have a0 : (0 : Int) < (td.t.b : Int) := by omega
    have ab : (td.t.b : Int) < (td.t.a : Int) := by omega
    refine g_ret (EvR.eq (ev_lst (el_cons (ev_len (xs := roundsI td.t.a td.t.b k.toNat) (ev_call (x := ((td.t.a : Int), (td.t.b : Int), k, ())) (ea_cons (ev_ta TT (ev_v (x := td) rfl h1)) (ea_cons (ev_tb TT (ev_v (x := td) rfl h1)) (ea_cons (ev_v rfl rfl) ea_nil))) ⟨ht.sm100.1, ht.sm100.2, a0, ab, k1, by show k ≤ 12; omega⟩)) el_nil) (by simp)) ?_) q
    show _ = ansD td.t (.rounds k.toNat)
    rw [ansD_rounds, if_neg (by omega), rounds_I b0 b1 k.toNat (by omega), List.length_map]
abbrev s_answer_round_of : Stmt := top 74
theorem sc_answer_round_of : FnScope ["tent", "k", "j", "rows"] ["tent", "k", "j"] (defScope s_answer_round_of) := ⟨rfl, rfl, rfl, by decide +kernel, rfl, by decide +kernel, by decide +kernel⟩
def sp_answer_round_of (C : Addr) : Sp := PF (fun (x : TentD C × Int × Int × Unit) => okT x.1.t ∧ 0 ≤ x.2.1 ∧ 0 ≤ x.2.2.1) fun x => ansD x.1.t (.round x.2.1.toNat x.2.2.1.toNat)
theorem ok_answer_round_of (T : Tp mg) (TT : ClsTent K C) (D : DefAt K mg "answer_round_of" s_answer_round_of ["tent", "k", "j"]) (h_is_number_of_steps : Has P w K mg base "is_number_of_steps" ["k"] 1 sp_is_number_of_steps)
    (h_rounds_of : Has P w K mg base "rounds_of" ["a", "b", "k"] 4 sp_rounds_of) : Has P w K mg base "answer_round_of" ["tent", "k", "j"] 5 (sp_answer_round_of C) := by
  refine has_PF D sc_answer_round_of rfl fun f cdv Ar outer s H vs Q E hr H0 a r hp q => ?_
  obtain ⟨v1, r1, rfl, h1, v2, r2, rfl, (rfl : v2 = _), v3, r3, rfl, (rfl : v3 = _), rfl⟩ := r
  obtain ⟨td, k, j, u⟩ := a
  obtain ⟨ht, hk, hj⟩ := (show okT td.t ∧ 0 ≤ k ∧ 0 ≤ j from hp)
  obtain ⟨b0, b1, b2, b3⟩ := ht.b0
  refine ⟨_, (pss_cons (ps_if (pt_not (pt_val (pe_has h_is_number_of_steps (hr.mono (by decide)) (by rfl) (pa_cons (pv 1) pa_nil)))) (pss_one (ps_ret (pe_lst (pa_cons (pe_gi T.c_NOT_AS_TOLD (by rfl)) pa_nil)))) pss_nil)
      (pss_cons (ps_set (i := 3) sc_answer_round_of.nd rfl (Or.inl rfl) (pe_has h_rounds_of (hr.mono (by decide)) (by rfl) (pa_cons (pe_fld (pv 0) rfl) (pa_cons (pe_fld (pv 0) rfl) (pa_cons (pv 1) pa_nil)))))
      (pss_cons (ps_if (pt_cmpR op_ge (pv 2) (pe_callB call_len_seq (by rfl) T.b_len (by decide +kernel) (pa_cons (pv 3) pa_nil)) (nomark _)) (pss_one (ps_ret (pe_lst (pa_cons (pe_gi T.c_THERE_IS_NONE (by rfl)) pa_nil)))) pss_nil)
      (pss_one (ps_ret (pe_op op_cat (pe_lst (pa_cons (pv 1) pa_nil)) (pe_ix ix_list (pv 3) (pv 2) (fun _ _ => rfl)))))))), ?_⟩
  refine q_when (eb_not (eb_B (ev_call (x := (k, ())) (ea_cons (ev_v rfl rfl) ea_nil) trivial))) (fun e => ?_) (fun e => ?_)
  · refine g_ret (EvR.eq (ev_lst (el_cons (ev_i (i := -22)) el_nil) (by decide)) ?_) q
    show _ = ansD td.t (.round k.toNat j.toNat)
    rw [ansD_round, if_pos ?_]
    · dsimp only at e
      rw [Bool.not_eq_true', Bool.and_eq_false_iff, decide_eq_false_iff_not, decide_eq_false_iff_not] at e
      omega
  · dsimp only at e
    rw [Bool.not_eq_false', Bool.and_eq_true, decide_eq_true_eq, decide_eq_true_eq] at e
    obtain ⟨k1, k2⟩ := e
    have a0 : (0 : Int) < (td.t.b : Int) := by omega
    have ab : (td.t.b : Int) < (td.t.a : Int) := by omega
    have er := rounds_I (t := td.t) b0 b1 k.toNat (by omega)
    have ans : ansD td.t (.round k.toNat j.toNat) = match (td.t.rounds k.toNat)[j.toNat]? with | some x => ((k.toNat : Nat) : Int) :: ofN x | none => [-33] := by
      exact (ansD_round _ _ _).trans (if_neg (by omega))
    refine q_asg (ev_call (x := ((td.t.a : Int), (td.t.b : Int), k, ())) (ea_cons (ev_ta TT (ev_v (x := td) rfl h1)) (ea_cons (ev_tb TT (ev_v (x := td) rfl h1)) (ea_cons (ev_v rfl rfl) ea_nil))) ⟨ht.sm100.1, ht.sm100.2, a0, ab, k1, by show k ≤ 12; omega⟩) ?_
    intro v Hv s1 hv
    have hv : Py.rep Hv v (roundsI td.t.a td.t.b k.toNat) := hv
    refine q_when (eb_test (ev_B0 (g := fun i j => decide (j ≤ i)) (ev_v (x := j) rfl rfl) (ev_len (ev_v rfl hv)))) (fun e => ?_) (fun e => ?_)
    · have e := of_decide_eq_true e
      refine g_ret (x := ansD td.t (.round k.toNat j.toNat)) (EvR.eq (ev_lst (el_cons (ev_i (i := -33)) el_nil) (by decide)) ?_) q
      rw [er, List.length_map] at e
      rw [ans, List.getElem?_eq_none (by omega)]
    · have e := of_decide_eq_false e
      have e2 := e
      rw [er, List.length_map] at e2
      obtain ⟨x, hx⟩ : ∃ x, (td.t.rounds k.toNat)[j.toNat]? = some x := ⟨_, List.getElem?_eq_getElem (by omega)⟩
      have hx2 : (roundsI td.t.a td.t.b k.toNat)[j.toNat]? = some (ofN x) := by
        rw [er, List.getElem?_map, hx]
        rfl
      have hm : ofN x ∈ allI k.toNat := (List.mem_filter.mp (List.mem_filter.mp (List.mem_of_getElem? hx2)).1).1
      have hl := all_row k.toNat _ hm
      refine g_ret (x := ansD td.t (.round k.toNat j.toNat)) (EvR.eq (ev_cat (xs := [k]) (ys := ofN x) (ev_lst (el_cons (ev_v rfl rfl) el_nil) (by simp)) (ev_ixL (ev_v rfl hv) (ev_v rfl rfl) hj hx2) (by rw [hl]; simp; omega)) ?_) q
      rw [ans, hx, show ((k.toNat : Nat) : Int) = k by omega]
      rfl
abbrev s_answer_state : Stmt := top 76
theorem sc_answer_state : FnScope ["tent"] ["tent"] (defScope s_answer_state) := ⟨rfl, rfl, rfl, by decide +kernel, rfl, by decide +kernel, by decide +kernel⟩
def sp_answer_state (C : Addr) : Sp := PF (fun (x : TentD C × Unit) => True) fun x => [((x.1.t.a : Nat) : Int), ((x.1.t.b : Nat) : Int)]
theorem ok_answer_state (TT : ClsTent K C) (D : DefAt K mg "answer_state" s_answer_state ["tent"]) : Has P w K mg base "answer_state" ["tent"] 1 (sp_answer_state C) := by
  refine has_PF D sc_answer_state rfl fun f cdv Ar outer s H vs Q E hr H0 a r hp q => ?_
  obtain ⟨v1, r1, rfl, h1, rfl⟩ := r
  obtain ⟨td, u⟩ := a
  refine ⟨_, (pss_one (ps_ret (pe_lst (pa_cons (pe_fld (pv 0) rfl) (pa_cons (pe_fld (pv 0) rfl) pa_nil))))), ?_⟩
  exact g_ret (ev_lst (el_cons (ev_ta TT (ev_v (x := td) rfl h1)) (el_cons (ev_tb TT (ev_v (x := td) rfl h1)) el_nil)) (by simp)) q
end
end Ft

set_option Elab.async false
set_option linter.all false
set_option maxRecDepth 100000
set_option maxHeartbeats 2000000
namespace Ft
open PySem PySem.Spec PyProof.Rows L2
/-! ### the object's state, and one call -/
abbrev St0 := Option Su185.Abs
def fldS : St0 → List (Str × V)
  | none => tentF 0 0
  | some t => tentF t.a t.b
def good : St0 → Prop
  | none => True
  | some t => okT t
def rawL (c : List (List Int)) : List Int := (PySu185.whole c).headD []
def ans (s : St0) (c : List (List Int)) : St0 × List Int := Su185Neutral.step s (rawL c)
/-- a call as it may be handed in -/
structure okRaw (c : List (List Int)) : Prop where
  sh : PyFlat.okCall PySu185.shape c
  inn : PyInside.call PySu185.bound c = true
def R_call (C : Addr) (s : St0) (x : CallD C × Unit) (s' : St0) (y : List Int) : Prop := ∃ c, x.1 = toD C c ∧ okRaw c ∧ good s ∧ ans s c = (s', y)
section
variable {P : Program} {w : World} {K : PySem.W.Frag} {mg : Str → Option Value} {base : Heap} {C CT : Addr}
/-! Tent() -/
def sp_Tent_init (C : Addr) : Sp := fun vs H Q _ => ∃ (p dx : Addr), vs = [.ref p] ∧ H p = some (.ins C dx []) ∧ Q .non (upd H p (.ins C dx (fldS none)))
theorem tentF_put (a b : Int) : putF "b" (.int b) (putF "a" (.int a) []) = tentF a b := (pf2 (by decide +kernel)).trans rfl
theorem tentF_a (a b c : Int) : putF "a" (.int c) (tentF a b) = tentF c b := pf1
theorem tentF_b (a b c : Int) : putF "b" (.int c) (tentF a b) = tentF a c := (pf2 (by decide +kernel)).trans (congrArg _ pf1)
abbrev s_Tent_init : Stmt := inClass (top 57) 0
theorem sc_Tent_init : FnScope ["self"] ["self"] (defScope s_Tent_init) := ⟨rfl, rfl, rfl, by decide +kernel, rfl, by decide +kernel, by decide +kernel⟩
theorem ok_Tent_init {f : Addr} {fd : FuncData} (F : Fun K "__init__" "Tent.__init__" s_Tent_init f fd) (T : ClsTent K C) : FnOk P w K mg base CX0 1 f fd ["self"] (sp_Tent_init C) := by
  refine F.ok sc_Tent_init (fun vs H Q E ⟨p, dx, e, _⟩ => by rw [e]; rfl) (fun cdv A outer s H vs Q E hr h => ?_)
  obtain ⟨p, dx, rfl, hp, k⟩ := h
  refine ⟨_, (pss_cons (ps_fld (pv 0) pe_int rfl) (pss_one (ps_fld (pv 0) pe_int rfl))), ?_⟩
  refine ⟨_, rfl, p, C, dx, [], rfl, hp, T.cl, T.n1, (by show 0 < 1000; decide), ?_⟩
  refine ⟨_, rfl, p, C, dx, _, rfl, upd_same, T.cl, T.n2, (by show 1 < 1000; decide), ?_⟩
  show Q .non (upd (upd H p _) p _)
  rw [upd_upd, tentF_put]
  exact k
theorem q_newT {st : L2.St} {H0 H Hs : Hp} {M : List (Addr × HO)} {D : Ends} {tz : TS} {i : Nat} {E : XK} (kk : ∀ x dx, Hs x = none → Hs dx = none → Go H0 H ((x, .ins C dx (fldS none)) :: M) (tz D) (st.set i (some (.ref x))) (upd Hs dx (.own x))) :
    Go H0 H M (tSeq (tAsg (tMake C (sp_Tent_init C) [] E tNil) (gName i)) tz D) st Hs := fun H' a o => by
  intro x dx hx hd ne
  refine ⟨x, dx, rfl, upd_same, rfl, ?_⟩
  rw [upd_upd]
  have hx' : Hs x = none := a.inn.free hx
  have a1 := a.alloc (o := .own x) hd
  have hx1 : (upd H' dx (.own x)) x = none := by
    rw [upd_ne ne.symm]
    exact hx
  have hxs : (upd Hs dx (.own x)) x = none := by
    rw [upd_ne ne.symm]
    exact hx'
  refine kk x dx hx' (a.inn.free hd) _ ⟨same_new a1.all (a.all.free hx), a1.up, same_new a1.inn hxs, a1.new⟩ ⟨List.nodup_cons.mpr ⟨fun z => ?_, o.1⟩, fun p hp => ?_⟩
  · obtain ⟨p, hp, e⟩ := List.mem_map.mp z
    have h3 := (o.2 p hp).2.2
    rw [e, hx] at h3
    cases h3
  · rcases List.mem_cons.mp hp with rfl | hp
    · exact ⟨hxs, a.all.free hx, upd_same⟩
    · obtain ⟨h1, h2, h3⟩ := o.2 p hp
      have n1 : p.1 ≠ x := ne_of_none h3 hx
      have n2 : p.1 ≠ dx := ne_of_none h3 hd
      exact ⟨by rw [upd_ne n2]; exact h1, h2, by rw [upd_ne n1, upd_ne n2]; exact h3⟩
/-! begin -/
abbrev s_answer_begin : Stmt := top 63
theorem sc_answer_begin : FnScope ["tent", "a", "b"] ["tent", "a", "b"] (defScope s_answer_begin) := ⟨rfl, rfl, rfl, by decide +kernel, rfl, by decide +kernel, by decide +kernel⟩
def R_begin (s : St0) (x : Int × Int × Unit) (s' : St0) (y : List Int) : Prop := 0 ≤ x.1 ∧ 0 ≤ x.2.1 ∧ x.1 ≤ 4294967295 ∧ x.2.1 ≤ 4294967295 ∧ s' = (if Su185.okSlope x.1.toNat x.2.1.toNat = false then s else some ⟨x.1.toNat, x.2.1.toNat⟩) ∧ y = if Su185.okSlope x.1.toNat x.2.1.toNat = false then [-22] else [0]
theorem ok_answer_begin (T : Tp mg) (TT : ClsTent K CT) (D : DefAt K mg "answer_begin" s_answer_begin ["tent", "a", "b"]) : Has P w K mg base "answer_begin" ["tent", "a", "b"] 1 (PM CT fldS R_begin) := by
  refine has_PM D sc_answer_begin rfl fun f cdv Ar outer s H r Q E hr H0 t dx z z' a y ht rr hR q => ?_
  obtain ⟨v1, r1, rfl, (rfl : v1 = _), v2, r2, rfl, (rfl : v2 = _), rfl⟩ := rr
  obtain ⟨i, j, u⟩ := a
  obtain ⟨hi, hj, hi2, hj2, ez, ey⟩ := (show 0 ≤ i ∧ 0 ≤ j ∧ i ≤ 4294967295 ∧ j ≤ 4294967295 ∧ z' = (if Su185.okSlope i.toNat j.toNat = false then z else some ⟨i.toNat, j.toNat⟩) ∧ y = if Su185.okSlope i.toNat j.toNat = false then [-22] else [0] from hR)
  refine ⟨_, (pss_cons (ps_if (pt_not (PW.pt (pw_and (pt_chain op_le op_le pe_int (pv 2) (pe_gi T.c_MOST_B (by rfl))) (pw_and1 (pt_chain op_lt op_le (pv 2) (pv 1) (pe_op op_mulW pe_int (pv 2))))))) (pss_one (ps_ret (pe_lst (pa_cons (pe_gi T.c_NOT_AS_TOLD (by rfl)) pa_nil)))) pss_nil)
      (pss_cons (ps_fld (pv 0) (pv 1) rfl)
      (pss_cons (ps_fld (pv 0) (pv 2) rfl)
      (pss_one (ps_ret (pe_lst (pa_cons pe_int pa_nil))))))), ?_⟩
  have key : ((decide (1 ≤ j) && decide (j ≤ 400)) && (decide (j < i) && decide (i ≤ 2 * j))) = Su185.okSlope i.toNat j.toNat := by
    unfold Su185.okSlope
    rw [Bool.eq_iff_iff]
    simp only [Bool.and_eq_true, decide_eq_true_eq]
    omega
  refine q_when (eb_not (eb_and (eb_test (ev_chain (g := fun i j => decide (i ≤ j)) (g' := fun i j => decide (i ≤ j)) (i := 1) (j := j) (k := 400) ev_i (ev_v rfl rfl) ev_i)) (fun _ => eb_test (ev_chain (g := fun i j => decide (i < j)) (g' := fun i j => decide (i ≤ j)) (i := j) (j := i) (k := 2 * j) (ev_v rfl rfl) (ev_v rfl rfl) (ev_I (g := fun i j => i * j) ev_i (ev_v rfl rfl) (sm_two.cmul (sm_small (by omega)) (by decide))))))) (fun e => ?_) (fun e => ?_)
  · rw [key] at e
    have e : Su185.okSlope i.toNat j.toNat = false := by simpa using e
    rw [if_pos e] at ez ey
    subst ez ey
    exact g_ret (ev_lst (el_cons (ev_i (i := -22)) el_nil) (by decide)) q
  · rw [key] at e
    have e : Su185.okSlope i.toNat j.toNat = true := by simpa using e
    rw [if_neg (by rw [e]; decide)] at ez ey
    subst ez ey
    have hz : (fldS z).length < 1000 := by cases z <;> exact (by show 2 < 1000; decide)
    obtain ⟨a0, b0, hz2⟩ : ∃ a b, fldS z = tentF a b := by cases z <;> exact ⟨_, _, rfl⟩
    refine q_fldO TT.cl TT.n1 hz rfl (y := i) (ev_v rfl rfl) ?_
    rw [hz2, tentF_a]
    refine q_fldO TT.cl TT.n2 (by show 2 < 1000; decide) rfl (y := j) (ev_v rfl rfl) ?_
    rw [tentF_b]
    refine g_ret (ev_lst (el_cons (ev_i (i := 0)) el_nil) (by decide)) ?_
    intro v Hv H2 a o r
    refine q v Hv H2 a ?_ r
    show Own _ [(t, .ins CT dx (tentF ((i.toNat : Nat) : Int) ((j.toNat : Nat) : Int)))] Hv H2
    rw [show ((i.toNat : Nat) : Int) = i by omega, show ((j.toNat : Nat) : Int) = j by omega]
    exact o

/-! what a call is, by its number -/
def u32 (z : Int) : Prop := 0 ≤ z ∧ z ≤ 4294967295
theorem u32_of {z : Int} (h : PyInside.within 0 4294967295 z = true) : u32 z := by
  unfold PyInside.within at h
  rw [Bool.and_eq_true, decide_eq_true_eq, decide_eq_true_eq] at h
  exact h
theorem nn_of {r : List Int} (h : (decide (0 ≤ r.length) && decide (r.length ≤ 20) && r.all (PyInside.within 0 4294967295)) = true) : nn r := by
  rw [Bool.and_eq_true, Bool.and_eq_true, decide_eq_true_eq, decide_eq_true_eq, List.all_eq_true] at h
  exact ⟨h.1.2, fun z hz => (u32_of (h.2 z hz)).1⟩
theorem len0 {A : Type} : ∀ {l : List A}, l.length = 0 → l = []
  | [], _ => rfl
theorem len1 {A : Type} : ∀ {l : List A}, l.length = 1 → ∃ x, l = [x]
  | [x], _ => ⟨x, rfl⟩
theorem len2 {A : Type} : ∀ {l : List A}, l.length = 2 → ∃ x y, l = [x, y]
  | [x, y], _ => ⟨x, y, rfl⟩
theorem len3 {A : Type} : ∀ {l : List A}, l.length = 3 → ∃ x y z, l = [x, y, z]
  | [x, y, z], _ => ⟨x, y, z, rfl⟩
inductive Kind : List (List Int) → Prop
  | k0 {x y : Int} (h : u32 x) (g : u32 y) : Kind [[0, x, y]]
  | k1 {x y : Int} (h : u32 x) (g : u32 y) : Kind [[1, x, y]]
  | k2 {x y z : Int} (h : u32 x) (g : u32 y) (f : u32 z) : Kind [[2, x, y, z]]
  | k3 {x : Int} (h : u32 x) : Kind [[3, x]]
  | k4 {r q : List Int} (h : nn r) (g : nn q) : Kind [[4], r, q]
  | k5 {r : List Int} (h : nn r) : Kind [[5], r]
  | k6 {x : Int} (h : u32 x) : Kind [[6, x]]
  | k7 {r : List Int} (h : nn r) : Kind [[7], r]
  | k8 {x : Int} (h : u32 x) : Kind [[8, x]]
  | k9 {r : List Int} (h : nn r) : Kind [[9], r]
  | k10 {x : Int} (h : u32 x) : Kind [[10, x]]
  | k11 {x y : Int} (h : u32 x) (g : u32 y) : Kind [[11, x, y]]
  | k12 : Kind [[12]]
  | k13 : Kind [[13]]
theorem and1 {a b : Bool} (h : (a && b) = true) : a = true := (Bool.and_eq_true a b ▸ h : a = true ∧ b = true).1
theorem and2 {a b : Bool} (h : (a && b) = true) : b = true := (Bool.and_eq_true a b ▸ h : a = true ∧ b = true).2
theorem kind_of {c : List (List Int)} (h : okRaw c) : Kind c := by
  obtain ⟨⟨p, a, xs, rfl, hs⟩, hi⟩ := h
  by_cases e0 : p = 0
  · subst e0
    have q := Option.some.inj (show some (2, 0) = some (a.length, xs.length) from hs)
    have q1 := (Prod.mk.inj q).1.symm
    have q2 := (Prod.mk.inj q).2.symm
    obtain ⟨x, y, rfl⟩ := len2 q1
    have e := len0 q2
    subst e
    have hi : ((PyInside.within 0 4294967295 x && (PyInside.within 0 4294967295 y && true)) && true) = true := hi
    exact .k0 (u32_of (and1 (and1 hi))) (u32_of (and1 (and2 (and1 hi))))
  by_cases e1 : p = 1
  · subst e1
    have q := Option.some.inj (show some (2, 0) = some (a.length, xs.length) from hs)
    have q1 := (Prod.mk.inj q).1.symm
    have q2 := (Prod.mk.inj q).2.symm
    obtain ⟨x, y, rfl⟩ := len2 q1
    have e := len0 q2
    subst e
    have hi : ((PyInside.within 0 4294967295 x && (PyInside.within 0 4294967295 y && true)) && true) = true := hi
    exact .k1 (u32_of (and1 (and1 hi))) (u32_of (and1 (and2 (and1 hi))))
  by_cases e2 : p = 2
  · subst e2
    have q := Option.some.inj (show some (3, 0) = some (a.length, xs.length) from hs)
    have q1 := (Prod.mk.inj q).1.symm
    have q2 := (Prod.mk.inj q).2.symm
    obtain ⟨x, y, z, rfl⟩ := len3 q1
    have e := len0 q2
    subst e
    have hi : ((PyInside.within 0 4294967295 x && (PyInside.within 0 4294967295 y && (PyInside.within 0 4294967295 z && true))) && true) = true := hi
    exact .k2 (u32_of (and1 (and1 hi))) (u32_of (and1 (and2 (and1 hi)))) (u32_of (and1 (and2 (and2 (and1 hi)))))
  by_cases e3 : p = 3
  · subst e3
    have q := Option.some.inj (show some (1, 0) = some (a.length, xs.length) from hs)
    have q1 := (Prod.mk.inj q).1.symm
    have q2 := (Prod.mk.inj q).2.symm
    obtain ⟨x, rfl⟩ := len1 q1
    have e := len0 q2
    subst e
    have hi : ((PyInside.within 0 4294967295 x && true) && true) = true := hi
    exact .k3 (u32_of (and1 (and1 hi)))
  by_cases e4 : p = 4
  · subst e4
    have q := Option.some.inj (show some (0, 2) = some (a.length, xs.length) from hs)
    have q1 := (Prod.mk.inj q).1.symm
    have q2 := (Prod.mk.inj q).2.symm
    have e := len0 q1
    subst e
    obtain ⟨r, q', rfl⟩ := len2 q2
    have hi : (true && ((decide (0 ≤ r.length) && decide (r.length ≤ 20) && r.all (PyInside.within 0 4294967295)) && ((decide (0 ≤ q'.length) && decide (q'.length ≤ 20) && q'.all (PyInside.within 0 4294967295)) && true))) = true := hi
    exact .k4 (nn_of (and1 (and2 hi))) (nn_of (and1 (and2 (and2 hi))))
  by_cases e5 : p = 5
  · subst e5
    have q := Option.some.inj (show some (0, 1) = some (a.length, xs.length) from hs)
    have q1 := (Prod.mk.inj q).1.symm
    have q2 := (Prod.mk.inj q).2.symm
    have e := len0 q1
    subst e
    obtain ⟨r, rfl⟩ := len1 q2
    have hi : (true && ((decide (0 ≤ r.length) && decide (r.length ≤ 20) && r.all (PyInside.within 0 4294967295)) && true)) = true := hi
    exact .k5 (nn_of (and1 (and2 hi)))
  by_cases e6 : p = 6
  · subst e6
    have q := Option.some.inj (show some (1, 0) = some (a.length, xs.length) from hs)
    have q1 := (Prod.mk.inj q).1.symm
    have q2 := (Prod.mk.inj q).2.symm
    obtain ⟨x, rfl⟩ := len1 q1
    have e := len0 q2
    subst e
    have hi : ((PyInside.within 0 4294967295 x && true) && true) = true := hi
    exact .k6 (u32_of (and1 (and1 hi)))
  by_cases e7 : p = 7
  · subst e7
    have q := Option.some.inj (show some (0, 1) = some (a.length, xs.length) from hs)
    have q1 := (Prod.mk.inj q).1.symm
    have q2 := (Prod.mk.inj q).2.symm
    have e := len0 q1
    subst e
    obtain ⟨r, rfl⟩ := len1 q2
    have hi : (true && ((decide (0 ≤ r.length) && decide (r.length ≤ 20) && r.all (PyInside.within 0 4294967295)) && true)) = true := hi
    exact .k7 (nn_of (and1 (and2 hi)))
  by_cases e8 : p = 8
  · subst e8
    have q := Option.some.inj (show some (1, 0) = some (a.length, xs.length) from hs)
    have q1 := (Prod.mk.inj q).1.symm
    have q2 := (Prod.mk.inj q).2.symm
    obtain ⟨x, rfl⟩ := len1 q1
    have e := len0 q2
    subst e
    have hi : ((PyInside.within 0 4294967295 x && true) && true) = true := hi
    exact .k8 (u32_of (and1 (and1 hi)))
  by_cases e9 : p = 9
  · subst e9
    have q := Option.some.inj (show some (0, 1) = some (a.length, xs.length) from hs)
    have q1 := (Prod.mk.inj q).1.symm
    have q2 := (Prod.mk.inj q).2.symm
    have e := len0 q1
    subst e
    obtain ⟨r, rfl⟩ := len1 q2
    have hi : (true && ((decide (0 ≤ r.length) && decide (r.length ≤ 20) && r.all (PyInside.within 0 4294967295)) && true)) = true := hi
    exact .k9 (nn_of (and1 (and2 hi)))
  by_cases e10 : p = 10
  · subst e10
    have q := Option.some.inj (show some (1, 0) = some (a.length, xs.length) from hs)
    have q1 := (Prod.mk.inj q).1.symm
    have q2 := (Prod.mk.inj q).2.symm
    obtain ⟨x, rfl⟩ := len1 q1
    have e := len0 q2
    subst e
    have hi : ((PyInside.within 0 4294967295 x && true) && true) = true := hi
    exact .k10 (u32_of (and1 (and1 hi)))
  by_cases e11 : p = 11
  · subst e11
    have q := Option.some.inj (show some (2, 0) = some (a.length, xs.length) from hs)
    have q1 := (Prod.mk.inj q).1.symm
    have q2 := (Prod.mk.inj q).2.symm
    obtain ⟨x, y, rfl⟩ := len2 q1
    have e := len0 q2
    subst e
    have hi : ((PyInside.within 0 4294967295 x && (PyInside.within 0 4294967295 y && true)) && true) = true := hi
    exact .k11 (u32_of (and1 (and1 hi))) (u32_of (and1 (and2 (and1 hi))))
  by_cases e12 : p = 12
  · subst e12
    have q := Option.some.inj (show some (0, 0) = some (a.length, xs.length) from hs)
    have q1 := (Prod.mk.inj q).1.symm
    have q2 := (Prod.mk.inj q).2.symm
    have e := len0 q1
    subst e
    have e := len0 q2
    subst e
    exact .k12
  by_cases e13 : p = 13
  · subst e13
    have q := Option.some.inj (show some (0, 0) = some (a.length, xs.length) from hs)
    have q1 := (Prod.mk.inj q).1.symm
    have q2 := (Prod.mk.inj q).2.symm
    have e := len0 q1
    subst e
    have e := len0 q2
    subst e
    exact .k13
  exfalso
  unfold PySu185.shape at hs
  simp only [if_neg e0, if_neg e1, if_neg e2, if_neg e3, if_neg e4, if_neg e5, if_neg e6, if_neg e7, if_neg e8, if_neg e9, if_neg e10, if_neg e11, if_neg e12, if_neg e13] at hs
  cases hs

/-! what the specification does with it -/
def stepD (s : St0) (x : Su185.Call) : St0 × List Int := ((Su185.step s x).1, ansL (Su185.step s x).2)
theorem take_app (r q : List Int) : (r ++ q).take r.length = r := PyFlat.take_len r q
theorem ans0 (s : St0) (x y : Int) : ans s [[0, x, y]] = stepD s (.begin_ x.toNat y.toNat) := rfl
theorem ans1 (s : St0) (x y : Int) : ans s [[1, x, y]] = stepD s (.put x.toNat y.toNat) := rfl
theorem ans2 (s : St0) (x y z : Int) : ans s [[2, x, y, z]] = stepD s (.row x.toNat y.toNat z.toNat) := rfl
theorem ans3 (s : St0) (x : Int) : ans s [[3, x]] = stepD s (.lead x.toNat) := rfl
theorem ans4 (s : St0) (r q : List Int) : ans s [[4], r, q] = stepD s (.order (toN r) (toN q)) := by
  show stepD s (.order (((r ++ q).take ((r.length : Nat) : Int).toNat).map Int.toNat) (((r ++ q).drop ((r.length : Nat) : Int).toNat).map Int.toNat)) = _
  rw [Int.toNat_natCast, PyFlat.take_len, PyFlat.drop_len]
  rfl
theorem ans5 (s : St0) (r : List Int) : ans s [[5], r] = stepD s (.fits (toN r)) := rfl
theorem ans6 (s : St0) (x : Int) : ans s [[6, x]] = stepD s (.count x.toNat) := rfl
theorem ans7 (s : St0) (r : List Int) : ans s [[7], r] = stepD s (.holds (toN r)) := rfl
theorem ans8 (s : St0) (x : Int) : ans s [[8, x]] = stepD s (.laps x.toNat) := rfl
theorem ans9 (s : St0) (r : List Int) : ans s [[9], r] = stepD s (.comes (toN r)) := rfl
theorem ans10 (s : St0) (x : Int) : ans s [[10, x]] = stepD s (.rounds x.toNat) := rfl
theorem ans11 (s : St0) (x y : Int) : ans s [[11, x, y]] = stepD s (.round x.toNat y.toNat) := rfl
theorem ans12 (s : St0) : ans s [[12]] = stepD s .inner := rfl
theorem ans13 (s : St0) : ans s [[13]] = stepD s .state := rfl
theorem step_begin (s : St0) (a b : Nat) : stepD s (.begin_ a b) = (if Su185.okSlope a b = false then s else some ⟨a, b⟩, if Su185.okSlope a b = false then [-22] else [0]) := by
  cases s with
  | none =>
    unfold stepD Su185.step Su185.does
    dsimp only
    by_cases c : Su185.okSlope a b = false
    · simp only [if_pos c]
      rfl
    · simp only [if_neg c]
      rfl
  | some t =>
    unfold stepD Su185.step Su185.does
    dsimp only
    by_cases c : Su185.okSlope a b = false
    · simp only [if_pos c]
      rfl
    · simp only [if_neg c]
      rfl
theorem step_some (t : Su185.Abs) (x : Su185.Call) : stepD (some t) x = (some (Su185.does t x).1, ansD t x) := rfl
theorem ans_none {c : List (List Int)} (h : Kind c) (n : ¬ (c.headD []).headD 0 = 0) : ans none c = (none, [-11]) := by
  cases h with
  | k0 => exact absurd rfl n
  | k1 => rw [ans1]; rfl
  | k2 => rw [ans2]; rfl
  | k3 => rw [ans3]; rfl
  | k4 => rw [ans4]; rfl
  | k5 => rw [ans5]; rfl
  | k6 => rw [ans6]; rfl
  | k7 => rw [ans7]; rfl
  | k8 => rw [ans8]; rfl
  | k9 => rw [ans9]; rfl
  | k10 => rw [ans10]; rfl
  | k11 => rw [ans11]; rfl
  | k12 => rw [ans12]; rfl
  | k13 => rw [ans13]; rfl
theorem ite_fst {A B : Type} {c : Prop} [Decidable c] {a b : A × B} : (if c then a else b).1 = if c then a.1 else b.1 := by split <;> rfl
theorem does_ok {t : Su185.Abs} (h : okT t) (x : Su185.Call) : okT (Su185.does t x).1 := by
  cases x <;> unfold Su185.does <;> dsimp only
  all_goals first
    | exact h
    | (split
       · exact h
       · first
         | exact h
         | (rename_i c
            show Su185.okSlope _ _ = true
            exact (by simpa using c))
         | (split <;> exact h)
         | (split
            · exact h
            · rename_i c
              show Su185.okSlope _ _ = true
              exact (by simpa using c)))
theorem good_step {s : St0} (h : good s) (x : Su185.Call) : good (stepD s x).1 := by
  cases s with
  | some t => exact does_ok h x
  | none =>
    cases x with
    | begin_ a b =>
      rw [step_begin]
      by_cases c : Su185.okSlope a b = false
      · simp only [if_pos c]
        trivial
      · simp only [if_neg c]
        show Su185.okSlope _ _ = true
        exact (by simpa using c)
    | _ => trivial
theorem good_ans {s : St0} {c : List (List Int)} (h : good s) (k : Kind c) : good (ans s c).1 := by
  cases k with
  | k0 => rw [ans0]; exact good_step h _
  | k1 => rw [ans1]; exact good_step h _
  | k2 => rw [ans2]; exact good_step h _
  | k3 => rw [ans3]; exact good_step h _
  | k4 => rw [ans4]; exact good_step h _
  | k5 => rw [ans5]; exact good_step h _
  | k6 => rw [ans6]; exact good_step h _
  | k7 => rw [ans7]; exact good_step h _
  | k8 => rw [ans8]; exact good_step h _
  | k9 => rw [ans9]; exact good_step h _
  | k10 => rw [ans10]; exact good_step h _
  | k11 => rw [ans11]; exact good_step h _
  | k12 => rw [ans12]; exact good_step h _
  | k13 => rw [ans13]; exact good_step h _
end
end Ft

set_option Elab.async false
set_option linter.all false
set_option maxRecDepth 100000
set_option maxHeartbeats 4000000
namespace Ft
open PySem PySem.Spec PyProof.Rows L2
/-- the calls' numbers, as the top names them -/
structure Tn (mg : Str → Option Value) : Prop where
  c_BEGIN : ∃ t, mg "BEGIN" = some (.int 0 t)
  c_PUT : ∃ t, mg "PUT" = some (.int 1 t)
  c_ROW : ∃ t, mg "ROW" = some (.int 2 t)
  c_LEAD : ∃ t, mg "LEAD" = some (.int 3 t)
  c_ORDER : ∃ t, mg "ORDER" = some (.int 4 t)
  c_FITS : ∃ t, mg "FITS" = some (.int 5 t)
  c_COUNT : ∃ t, mg "COUNT" = some (.int 6 t)
  c_HOLDS : ∃ t, mg "HOLDS" = some (.int 7 t)
  c_LAPS : ∃ t, mg "LAPS" = some (.int 8 t)
  c_COMES : ∃ t, mg "COMES" = some (.int 9 t)
  c_ROUNDS : ∃ t, mg "ROUNDS" = some (.int 10 t)
  c_ROUND_OF : ∃ t, mg "ROUND_OF" = some (.int 11 t)
  c_INNER : ∃ t, mg "INNER" = some (.int 12 t)
section
variable {P : Program} {w : World} {K : PySem.W.Frag} {mg : Str → Option Value} {base : Heap} {C CT : Addr}
/-! inner -/
theorem does_inner {t : Su185.Abs} (h : okT t) : stepD (some t) .inner = if 2 * (t.b * t.b) < t.a * t.a then (some t, [-33]) else if 400 < t.b * t.b then (some t, [-28]) else (some ⟨t.a * t.a, t.b * t.b⟩, [((t.a * t.a : Nat) : Int), ((t.b * t.b : Nat) : Int)]) := by
  obtain ⟨h0, h1, h2, h3⟩ := h.b0
  have p1 : 0 < t.b * t.b := Nat.mul_pos h0 h0
  have p2 : t.b * t.b < t.a * t.a := Nat.mul_lt_mul_of_lt_of_lt h1 h1
  rw [step_some]
  unfold ansD Su185.does
  dsimp only
  by_cases c : 2 * (t.b * t.b) < t.a * t.a
  · rw [if_pos c, if_pos c]
    rfl
  · rw [if_neg c, if_neg c]
    by_cases d : 400 < t.b * t.b
    · have e : Su185.okSlope (t.a * t.a) (t.b * t.b) = false := by
        unfold Su185.okSlope
        rw [decide_eq_false (show ¬ t.b * t.b ≤ 400 by omega)]
        simp
      rw [if_pos e, if_pos d]
      rfl
    · have e : ¬ Su185.okSlope (t.a * t.a) (t.b * t.b) = false := by
        unfold Su185.okSlope
        rw [decide_eq_true p1, decide_eq_true p2, decide_eq_true (show t.a * t.a ≤ 2 * (t.b * t.b) by omega), decide_eq_true (show t.b * t.b ≤ 400 by omega)]
        decide
      rw [if_neg e, if_neg d]
      rfl
def R_inner (s : St0) (x : Unit) (s' : St0) (y : List Int) : Prop := ∃ t, s = some t ∧ okT t ∧ stepD s .inner = (s', y)
abbrev s_answer_inner : Stmt := top 75
theorem sc_answer_inner : FnScope ["tent", "a", "b"] ["tent"] (defScope s_answer_inner) := ⟨rfl, rfl, rfl, by decide +kernel, rfl, by decide +kernel, by decide +kernel⟩
theorem ok_answer_inner (T : Tp mg) (TT : ClsTent K CT) (D : DefAt K mg "answer_inner" s_answer_inner ["tent"]) (h_answer_state : Has P w K mg base "answer_state" ["tent"] 1 (sp_answer_state CT)) : Has P w K mg base "answer_inner" ["tent"] 2 (PM CT fldS R_inner) := by
  refine has_PM D sc_answer_inner rfl fun f cdv Ar outer s H r Q E hr H0 t dx z z' a y ht rr hR q => ?_
  have rr : r = [] := rr
  subst rr
  obtain ⟨ta, rfl, ok, hs⟩ := hR
  rw [does_inner ok] at hs
  obtain ⟨b0, b1, b2, b3⟩ := ok.b0
  refine ⟨_, (pss_cons (ps_set (i := 1) sc_answer_inner.nd rfl (Or.inl rfl) (pe_op op_mulW (pe_fld (pv 0) rfl) (pe_fld (pv 0) rfl)))
      (pss_cons (ps_set (i := 2) sc_answer_inner.nd rfl (Or.inl rfl) (pe_op op_mulW (pe_fld (pv 0) rfl) (pe_fld (pv 0) rfl)))
      (pss_cons (ps_if (pt_cmpR op_gt (pv 1) (pe_op op_mulW pe_int (pv 2)) (nomark _)) (pss_one (ps_ret (pe_lst (pa_cons (pe_gi T.c_THERE_IS_NONE (by rfl)) pa_nil)))) pss_nil)
      (pss_cons (ps_if (pt_cmpR op_gt (pv 2) (pe_gi T.c_MOST_B (by rfl)) (nomark _)) (pss_one (ps_ret (pe_lst (pa_cons (pe_gi T.c_TOO_MANY (by rfl)) pa_nil)))) pss_nil)
      (pss_cons (ps_fld (pv 0) (pv 1) rfl)
      (pss_cons (ps_fld (pv 0) (pv 2) rfl)
      (pss_one (ps_ret (pe_has h_answer_state (hr.mono (by decide)) (by rfl) (pa_cons (pv 0) pa_nil)))))))))), ?_⟩
  have fa : ∀ {st : L2.St} {Hs : Hp}, st[0]? = some (some (V.ref t)) → EvR (tVar 0) st (upd Hs t (.ins CT dx (fldS (some ta)))) (⟨ta⟩ : TentD CT) := fun h => ev_v h ⟨t, dx, rfl, upd_same⟩
  have sa : Sm 40 (ta.a : Int) := sm_small (by omega)
  have sb : Sm 40 (ta.b : Int) := sm_small (by omega)
  refine q_asgO (y := ((ta.a * ta.a : Nat) : Int)) (EvR.eq (ev_I (g := fun i j => i * j) (ev_ta TT (fa rfl)) (ev_ta TT (fa rfl)) (sa.cmul sa (by decide))) (Int.natCast_mul _ _).symm) ?_
  refine q_asgO (y := ((ta.b * ta.b : Nat) : Int)) (EvR.eq (ev_I (g := fun i j => i * j) (ev_tb TT (fa rfl)) (ev_tb TT (fa rfl)) (sb.cmul sb (by decide))) (Int.natCast_mul _ _).symm) ?_
  have sbb : Sm 80 ((ta.b * ta.b : Nat) : Int) := by
    rw [Int.natCast_mul]
    exact sb.mul sb
  refine q_when (eb_test (ev_B0 (g := fun i j => decide (j < i)) (ev_v (x := ((ta.a * ta.a : Nat) : Int)) rfl rfl) (ev_I (g := fun i j => i * j) (i := 2) ev_i (ev_v (x := ((ta.b * ta.b : Nat) : Int)) rfl rfl) (sm_two.cmul sbb (by decide))))) (fun e => ?_) (fun e => ?_)
  · have e := of_decide_eq_true e
    rw [if_pos (by omega)] at hs
    obtain ⟨e1, e2⟩ := Prod.mk.inj hs
    subst e1 e2
    exact g_ret (ev_lst (el_cons (ev_i (i := -33)) el_nil) (by decide)) q
  · have e := of_decide_eq_false e
    rw [if_neg (by omega)] at hs
    refine q_when (eb_test (ev_B0 (g := fun i j => decide (j < i)) (ev_v (x := ((ta.b * ta.b : Nat) : Int)) rfl rfl) (ev_i (i := 400)))) (fun e => ?_) (fun e => ?_)
    · have e := of_decide_eq_true e
      rw [if_pos (by omega)] at hs
      obtain ⟨e1, e2⟩ := Prod.mk.inj hs
      subst e1 e2
      exact g_ret (ev_lst (el_cons (ev_i (i := -28)) el_nil) (by decide)) q
    · have e := of_decide_eq_false e
      rw [if_neg (by omega)] at hs
      obtain ⟨e1, e2⟩ := Prod.mk.inj hs
      subst e1 e2
      have hz : fldS (some ta) = tentF ta.a ta.b := rfl
      rw [hz]
      refine q_fldO TT.cl TT.n1 (by show 2 < 1000; decide) rfl (y := ((ta.a * ta.a : Nat) : Int)) (ev_v rfl rfl) ?_
      rw [tentF_a]
      refine q_fldO TT.cl TT.n2 (by show 2 < 1000; decide) rfl (y := ((ta.b * ta.b : Nat) : Int)) (ev_v rfl rfl) ?_
      rw [tentF_b]
      exact g_retO (ev_call (x := ((⟨⟨ta.a * ta.a, ta.b * ta.b⟩⟩ : TentD CT), ())) (ea_cons (ev_v rfl ⟨t, dx, rfl, upd_same⟩) ea_nil) trivial) q
/-! a call on a tent that is begun -/
def R_begun (C : Addr) (s : St0) (x : CallD C × Unit) (s' : St0) (y : List Int) : Prop := ∃ t c, s = some t ∧ okT t ∧ x.1 = toD C c ∧ Kind c ∧ ¬ (toD C c).number = 0 ∧ ans s c = (s', y)
theorem does_same (t : Su185.Abs) (x : Su185.Call) (h : ∀ a b, x ≠ .begin_ a b) (g : x ≠ .inner) : (Su185.does t x).1 = t := by
  cases x with
  | begin_ a b => exact absurd rfl (h a b)
  | inner => exact absurd rfl g
  | _ =>
    unfold Su185.does
    try dsimp only
    all_goals first
      | rfl
      | (split <;> first | rfl | (split <;> rfl))
theorem g_free {H0 H Hs : Hp} {M : List (Addr × HO)} {k : L2.St → Hp → Prop} {st : L2.St} {t : Addr} {o : HO} (h : Hs t = none → Go H0 H ((t, o) :: M) k st Hs) : Go H0 H ((t, o) :: M) k st Hs := fun H' a w => h (w.2 (t, o) List.mem_cons_self).1 H' a w
abbrev s_answer_begun : Stmt := top 77
theorem sc_answer_begun : FnScope ["tent", "call", "number", "numbers", "rows"] ["tent", "call"] (defScope s_answer_begun) := ⟨rfl, rfl, rfl, by decide +kernel, rfl, by decide +kernel, by decide +kernel⟩
theorem ok_answer_begun (Tc : Tn mg) (TC : ClsCall K C) (TT : ClsTent K CT) (D : DefAt K mg "answer_begun" s_answer_begun ["tent", "call"])
    (h_answer_put : Has P w K mg base "answer_put" ["tent", "p", "q"] 3 (sp_answer_put CT)) (h_answer_row : Has P w K mg base "answer_row" ["tent", "p", "q", "k"] 3 (sp_answer_row CT)) (h_answer_lead : Has P w K mg base "answer_lead" ["tent", "k"] 4 (sp_answer_lead CT))
    (h_answer_order : Has P w K mg base "answer_order" ["row", "other"] 2 sp_answer_order) (h_answer_fits : Has P w K mg base "answer_fits" ["tent", "row"] 4 (sp_answer_fits CT)) (h_answer_count : Has P w K mg base "answer_count" ["tent", "k"] 4 (sp_answer_count CT))
    (h_answer_holds : Has P w K mg base "answer_holds" ["tent", "row"] 4 (sp_answer_holds CT)) (h_answer_laps : Has P w K mg base "answer_laps" ["tent", "k"] 3 (sp_answer_laps CT)) (h_answer_comes : Has P w K mg base "answer_comes" ["tent", "row"] 4 (sp_answer_comes CT))
    (h_answer_rounds : Has P w K mg base "answer_rounds" ["tent", "k"] 5 (sp_answer_rounds CT)) (h_answer_round_of : Has P w K mg base "answer_round_of" ["tent", "k", "j"] 5 (sp_answer_round_of CT)) (h_answer_inner : Has P w K mg base "answer_inner" ["tent"] 2 (PM CT fldS R_inner))
    (h_answer_state : Has P w K mg base "answer_state" ["tent"] 1 (sp_answer_state CT)) : Has P w K mg base "answer_begun" ["tent", "call"] 6 (PM CT fldS (R_begun C)) := by
  refine has_PM D sc_answer_begun rfl fun f cdv Ar outer s H r Q E hr H0 t dx z z' a y ht rr hR q => ?_
  obtain ⟨v1, r1, rfl, h1, rfl⟩ := rr
  obtain ⟨cd, u⟩ := a
  obtain ⟨ta, c, rfl, ok, e, hk, hn, ha⟩ := hR
  have e : cd = toD C c := e
  subst e
  refine ⟨_, (pss_cons (ps_set (i := 2) sc_answer_begun.nd rfl (Or.inl rfl) (pe_fld (pv 1) rfl))
      (pss_cons (ps_set (i := 3) sc_answer_begun.nd rfl (Or.inl rfl) (pe_fld (pv 1) rfl))
      (pss_cons (ps_set (i := 4) sc_answer_begun.nd rfl (Or.inl rfl) (pe_fld (pv 1) rfl))
      (pss_cons (ps_if (pt_cmpR op_eq (pv 2) (pe_gi Tc.c_PUT (by rfl)) (nomark _)) (pss_one (ps_ret (pe_has h_answer_put (hr.mono (by decide)) (by rfl) (pa_cons (pv 0) (pa_cons (pe_ix ix_list (pv 3) pe_int (fun _ _ => rfl)) (pa_cons (pe_ix ix_list (pv 3) pe_int (fun _ _ => rfl)) pa_nil)))))) pss_nil)
      (pss_cons (ps_if (pt_cmpR op_eq (pv 2) (pe_gi Tc.c_ROW (by rfl)) (nomark _)) (pss_one (ps_ret (pe_has h_answer_row (hr.mono (by decide)) (by rfl) (pa_cons (pv 0) (pa_cons (pe_ix ix_list (pv 3) pe_int (fun _ _ => rfl)) (pa_cons (pe_ix ix_list (pv 3) pe_int (fun _ _ => rfl)) (pa_cons (pe_ix ix_list (pv 3) pe_int (fun _ _ => rfl)) pa_nil))))))) pss_nil)
      (pss_cons (ps_if (pt_cmpR op_eq (pv 2) (pe_gi Tc.c_LEAD (by rfl)) (nomark _)) (pss_one (ps_ret (pe_has h_answer_lead (hr.mono (by decide)) (by rfl) (pa_cons (pv 0) (pa_cons (pe_ix ix_list (pv 3) pe_int (fun _ _ => rfl)) pa_nil))))) pss_nil)
      (pss_cons (ps_if (pt_cmpR op_eq (pv 2) (pe_gi Tc.c_ORDER (by rfl)) (nomark _)) (pss_one (ps_ret (pe_has h_answer_order (hr.mono (by decide)) (by rfl) (pa_cons (pe_ix ix_list (pv 4) pe_int (fun _ _ => rfl)) (pa_cons (pe_ix ix_list (pv 4) pe_int (fun _ _ => rfl)) pa_nil))))) pss_nil)
      (pss_cons (ps_if (pt_cmpR op_eq (pv 2) (pe_gi Tc.c_FITS (by rfl)) (nomark _)) (pss_one (ps_ret (pe_has h_answer_fits (hr.mono (by decide)) (by rfl) (pa_cons (pv 0) (pa_cons (pe_ix ix_list (pv 4) pe_int (fun _ _ => rfl)) pa_nil))))) pss_nil)
      (pss_cons (ps_if (pt_cmpR op_eq (pv 2) (pe_gi Tc.c_COUNT (by rfl)) (nomark _)) (pss_one (ps_ret (pe_has h_answer_count (hr.mono (by decide)) (by rfl) (pa_cons (pv 0) (pa_cons (pe_ix ix_list (pv 3) pe_int (fun _ _ => rfl)) pa_nil))))) pss_nil)
      (pss_cons (ps_if (pt_cmpR op_eq (pv 2) (pe_gi Tc.c_HOLDS (by rfl)) (nomark _)) (pss_one (ps_ret (pe_has h_answer_holds (hr.mono (by decide)) (by rfl) (pa_cons (pv 0) (pa_cons (pe_ix ix_list (pv 4) pe_int (fun _ _ => rfl)) pa_nil))))) pss_nil)
      (pss_cons (ps_if (pt_cmpR op_eq (pv 2) (pe_gi Tc.c_LAPS (by rfl)) (nomark _)) (pss_one (ps_ret (pe_has h_answer_laps (hr.mono (by decide)) (by rfl) (pa_cons (pv 0) (pa_cons (pe_ix ix_list (pv 3) pe_int (fun _ _ => rfl)) pa_nil))))) pss_nil)
      (pss_cons (ps_if (pt_cmpR op_eq (pv 2) (pe_gi Tc.c_COMES (by rfl)) (nomark _)) (pss_one (ps_ret (pe_has h_answer_comes (hr.mono (by decide)) (by rfl) (pa_cons (pv 0) (pa_cons (pe_ix ix_list (pv 4) pe_int (fun _ _ => rfl)) pa_nil))))) pss_nil)
      (pss_cons (ps_if (pt_cmpR op_eq (pv 2) (pe_gi Tc.c_ROUNDS (by rfl)) (nomark _)) (pss_one (ps_ret (pe_has h_answer_rounds (hr.mono (by decide)) (by rfl) (pa_cons (pv 0) (pa_cons (pe_ix ix_list (pv 3) pe_int (fun _ _ => rfl)) pa_nil))))) pss_nil)
      (pss_cons (ps_if (pt_cmpR op_eq (pv 2) (pe_gi Tc.c_ROUND_OF (by rfl)) (nomark _)) (pss_one (ps_ret (pe_has h_answer_round_of (hr.mono (by decide)) (by rfl) (pa_cons (pv 0) (pa_cons (pe_ix ix_list (pv 3) pe_int (fun _ _ => rfl)) (pa_cons (pe_ix ix_list (pv 3) pe_int (fun _ _ => rfl)) pa_nil)))))) pss_nil)
      (pss_cons (ps_if (pt_cmpR op_eq (pv 2) (pe_gi Tc.c_INNER (by rfl)) (nomark _)) (pss_one (ps_ret (pe_has h_answer_inner (hr.mono (by decide)) (by rfl) (pa_cons (pv 0) pa_nil)))) pss_nil)
      (pss_one (ps_ret (pe_has h_answer_state (hr.mono (by decide)) (by rfl) (pa_cons (pv 0) pa_nil))))))))))))))))))), ?_⟩
  refine q_asg (ev_number TC (ev_v (x := toD C c) rfl h1)) ?_
  rintro w1 Hv1 s1 (rfl : w1 = _)
  refine q_asg (ev_numbers TC (ev_v (x := toD C c) rfl (Py.mono s1 h1))) ?_
  intro w2 Hv2 s2 hn2
  refine q_asg (ev_rows TC (ev_v (x := toD C c) rfl (Py.mono (s1.trans s2) h1))) ?_
  intro w3 Hv3 s3 hr3
  have hn3 := Py.mono s3 hn2
  have up : ∀ {A : Type} [Py A] {v : V} {x : A}, Py.rep Hv3 v x → Hv3 t = none → Py.rep (upd Hv3 t (.ins CT dx (fldS (some ta)))) v x := fun r n => Py.mono (same_new (Same.refl _) n) r
  have fa : ∀ {st : L2.St} {Hs : Hp}, st[0]? = some (some (V.ref t)) → EvR (tVar 0) st (upd Hs t (.ins CT dx (fldS (some ta)))) (⟨ta⟩ : TentD CT) := fun h => ev_v h ⟨t, dx, rfl, upd_same⟩
  refine g_free fun n3 => ?_
  have nu := up hn3 n3
  have ru := up hr3 n3
  cases hk with
  | k0 => exact absurd rfl hn
  | @k1 x0 x1 g1 g2 =>
    refine q_when (b := true) (EvB.eq (eb_test (ev_eqI (ev_v rfl rfl) ev_i)) rfl) (fun _ => ?_) (fun e => by cases e)
    rw [ans1, step_some, does_same _ _ (fun _ _ => by simp) (by simp)] at ha
    obtain ⟨e1, e2⟩ := Prod.mk.inj ha
    subst e1 e2
    exact g_retO (ev_call (x := ((⟨ta⟩ : TentD CT), x0, x1, ())) (ea_cons (fa rfl) (ea_cons (ev_ixL (xs := (toD C [[1, x0, x1]]).numbers) (i := 0) (ev_v rfl nu) ev_i (by decide) rfl) (ea_cons (ev_ixL (xs := (toD C [[1, x0, x1]]).numbers) (i := 1) (ev_v rfl nu) ev_i (by decide) rfl) ea_nil))) ⟨ok, g1.1, g2.1⟩) q
  | @k2 x0 x1 x2 g1 g2 g3 =>
    refine q_when (b := false) (EvB.eq (eb_test (ev_eqI (ev_v rfl rfl) ev_i)) rfl) (fun e => by cases e) (fun _ => ?_)
    refine q_when (b := true) (EvB.eq (eb_test (ev_eqI (ev_v rfl rfl) ev_i)) rfl) (fun _ => ?_) (fun e => by cases e)
    rw [ans2, step_some, does_same _ _ (fun _ _ => by simp) (by simp)] at ha
    obtain ⟨e1, e2⟩ := Prod.mk.inj ha
    subst e1 e2
    exact g_retO (ev_call (x := ((⟨ta⟩ : TentD CT), x0, x1, x2, ())) (ea_cons (fa rfl) (ea_cons (ev_ixL (xs := (toD C [[2, x0, x1, x2]]).numbers) (i := 0) (ev_v rfl nu) ev_i (by decide) rfl) (ea_cons (ev_ixL (xs := (toD C [[2, x0, x1, x2]]).numbers) (i := 1) (ev_v rfl nu) ev_i (by decide) rfl) (ea_cons (ev_ixL (xs := (toD C [[2, x0, x1, x2]]).numbers) (i := 2) (ev_v rfl nu) ev_i (by decide) rfl) ea_nil)))) ⟨ok, g1.1, g2.1, g3.1⟩) q
  | @k3 x0 g1 =>
    refine q_when (b := false) (EvB.eq (eb_test (ev_eqI (ev_v rfl rfl) ev_i)) rfl) (fun e => by cases e) (fun _ => ?_)
    refine q_when (b := false) (EvB.eq (eb_test (ev_eqI (ev_v rfl rfl) ev_i)) rfl) (fun e => by cases e) (fun _ => ?_)
    refine q_when (b := true) (EvB.eq (eb_test (ev_eqI (ev_v rfl rfl) ev_i)) rfl) (fun _ => ?_) (fun e => by cases e)
    rw [ans3, step_some, does_same _ _ (fun _ _ => by simp) (by simp)] at ha
    obtain ⟨e1, e2⟩ := Prod.mk.inj ha
    subst e1 e2
    exact g_retO (ev_call (x := ((⟨ta⟩ : TentD CT), x0, ())) (ea_cons (fa rfl) (ea_cons (ev_ixL (xs := (toD C [[3, x0]]).numbers) (i := 0) (ev_v rfl nu) ev_i (by decide) rfl) ea_nil)) ⟨ok, g1.1⟩) q
  | @k4 r0 r1 g1 g2 =>
    refine q_when (b := false) (EvB.eq (eb_test (ev_eqI (ev_v rfl rfl) ev_i)) rfl) (fun e => by cases e) (fun _ => ?_)
    refine q_when (b := false) (EvB.eq (eb_test (ev_eqI (ev_v rfl rfl) ev_i)) rfl) (fun e => by cases e) (fun _ => ?_)
    refine q_when (b := false) (EvB.eq (eb_test (ev_eqI (ev_v rfl rfl) ev_i)) rfl) (fun e => by cases e) (fun _ => ?_)
    refine q_when (b := true) (EvB.eq (eb_test (ev_eqI (ev_v rfl rfl) ev_i)) rfl) (fun _ => ?_) (fun e => by cases e)
    rw [ans4, step_some, does_same _ _ (fun _ _ => by simp) (by simp)] at ha
    obtain ⟨e1, e2⟩ := Prod.mk.inj ha
    subst e1 e2
    exact g_retO (y := ansD ta (.order (toN r0) (toN r1))) (EvR.eq (ev_call (x := (r0, r1, ())) (ea_cons (ev_ixL (xs := (toD C [[4], r0, r1]).rows) (i := 0) (ev_v rfl ru) ev_i (by decide) rfl) (ea_cons (ev_ixL (xs := (toD C [[4], r0, r1]).rows) (i := 1) (ev_v rfl ru) ev_i (by decide) rfl) ea_nil)) ⟨g1, g2⟩) (show ansD ⟨2, 1⟩ (.order (toN r0) (toN r1)) = _ by rw [ansD_order, ansD_order])) q
  | @k5 r0 g1 =>
    refine q_when (b := false) (EvB.eq (eb_test (ev_eqI (ev_v rfl rfl) ev_i)) rfl) (fun e => by cases e) (fun _ => ?_)
    refine q_when (b := false) (EvB.eq (eb_test (ev_eqI (ev_v rfl rfl) ev_i)) rfl) (fun e => by cases e) (fun _ => ?_)
    refine q_when (b := false) (EvB.eq (eb_test (ev_eqI (ev_v rfl rfl) ev_i)) rfl) (fun e => by cases e) (fun _ => ?_)
    refine q_when (b := false) (EvB.eq (eb_test (ev_eqI (ev_v rfl rfl) ev_i)) rfl) (fun e => by cases e) (fun _ => ?_)
    refine q_when (b := true) (EvB.eq (eb_test (ev_eqI (ev_v rfl rfl) ev_i)) rfl) (fun _ => ?_) (fun e => by cases e)
    rw [ans5, step_some, does_same _ _ (fun _ _ => by simp) (by simp)] at ha
    obtain ⟨e1, e2⟩ := Prod.mk.inj ha
    subst e1 e2
    exact g_retO (ev_call (x := ((⟨ta⟩ : TentD CT), r0, ())) (ea_cons (fa rfl) (ea_cons (ev_ixL (xs := (toD C [[5], r0]).rows) (i := 0) (ev_v rfl ru) ev_i (by decide) rfl) ea_nil)) ⟨ok, g1⟩) q
  | @k6 x0 g1 =>
    refine q_when (b := false) (EvB.eq (eb_test (ev_eqI (ev_v rfl rfl) ev_i)) rfl) (fun e => by cases e) (fun _ => ?_)
    refine q_when (b := false) (EvB.eq (eb_test (ev_eqI (ev_v rfl rfl) ev_i)) rfl) (fun e => by cases e) (fun _ => ?_)
    refine q_when (b := false) (EvB.eq (eb_test (ev_eqI (ev_v rfl rfl) ev_i)) rfl) (fun e => by cases e) (fun _ => ?_)
    refine q_when (b := false) (EvB.eq (eb_test (ev_eqI (ev_v rfl rfl) ev_i)) rfl) (fun e => by cases e) (fun _ => ?_)
    refine q_when (b := false) (EvB.eq (eb_test (ev_eqI (ev_v rfl rfl) ev_i)) rfl) (fun e => by cases e) (fun _ => ?_)
    refine q_when (b := true) (EvB.eq (eb_test (ev_eqI (ev_v rfl rfl) ev_i)) rfl) (fun _ => ?_) (fun e => by cases e)
    rw [ans6, step_some, does_same _ _ (fun _ _ => by simp) (by simp)] at ha
    obtain ⟨e1, e2⟩ := Prod.mk.inj ha
    subst e1 e2
    exact g_retO (ev_call (x := ((⟨ta⟩ : TentD CT), x0, ())) (ea_cons (fa rfl) (ea_cons (ev_ixL (xs := (toD C [[6, x0]]).numbers) (i := 0) (ev_v rfl nu) ev_i (by decide) rfl) ea_nil)) ⟨ok, g1.1⟩) q
  | @k7 r0 g1 =>
    refine q_when (b := false) (EvB.eq (eb_test (ev_eqI (ev_v rfl rfl) ev_i)) rfl) (fun e => by cases e) (fun _ => ?_)
    refine q_when (b := false) (EvB.eq (eb_test (ev_eqI (ev_v rfl rfl) ev_i)) rfl) (fun e => by cases e) (fun _ => ?_)
    refine q_when (b := false) (EvB.eq (eb_test (ev_eqI (ev_v rfl rfl) ev_i)) rfl) (fun e => by cases e) (fun _ => ?_)
    refine q_when (b := false) (EvB.eq (eb_test (ev_eqI (ev_v rfl rfl) ev_i)) rfl) (fun e => by cases e) (fun _ => ?_)
    refine q_when (b := false) (EvB.eq (eb_test (ev_eqI (ev_v rfl rfl) ev_i)) rfl) (fun e => by cases e) (fun _ => ?_)
    refine q_when (b := false) (EvB.eq (eb_test (ev_eqI (ev_v rfl rfl) ev_i)) rfl) (fun e => by cases e) (fun _ => ?_)
    refine q_when (b := true) (EvB.eq (eb_test (ev_eqI (ev_v rfl rfl) ev_i)) rfl) (fun _ => ?_) (fun e => by cases e)
    rw [ans7, step_some, does_same _ _ (fun _ _ => by simp) (by simp)] at ha
    obtain ⟨e1, e2⟩ := Prod.mk.inj ha
    subst e1 e2
    exact g_retO (ev_call (x := ((⟨ta⟩ : TentD CT), r0, ())) (ea_cons (fa rfl) (ea_cons (ev_ixL (xs := (toD C [[7], r0]).rows) (i := 0) (ev_v rfl ru) ev_i (by decide) rfl) ea_nil)) ⟨ok, g1⟩) q
  | @k8 x0 g1 =>
    refine q_when (b := false) (EvB.eq (eb_test (ev_eqI (ev_v rfl rfl) ev_i)) rfl) (fun e => by cases e) (fun _ => ?_)
    refine q_when (b := false) (EvB.eq (eb_test (ev_eqI (ev_v rfl rfl) ev_i)) rfl) (fun e => by cases e) (fun _ => ?_)
    refine q_when (b := false) (EvB.eq (eb_test (ev_eqI (ev_v rfl rfl) ev_i)) rfl) (fun e => by cases e) (fun _ => ?_)
    refine q_when (b := false) (EvB.eq (eb_test (ev_eqI (ev_v rfl rfl) ev_i)) rfl) (fun e => by cases e) (fun _ => ?_)
    refine q_when (b := false) (EvB.eq (eb_test (ev_eqI (ev_v rfl rfl) ev_i)) rfl) (fun e => by cases e) (fun _ => ?_)
    refine q_when (b := false) (EvB.eq (eb_test (ev_eqI (ev_v rfl rfl) ev_i)) rfl) (fun e => by cases e) (fun _ => ?_)
    refine q_when (b := false) (EvB.eq (eb_test (ev_eqI (ev_v rfl rfl) ev_i)) rfl) (fun e => by cases e) (fun _ => ?_)
    refine q_when (b := true) (EvB.eq (eb_test (ev_eqI (ev_v rfl rfl) ev_i)) rfl) (fun _ => ?_) (fun e => by cases e)
    rw [ans8, step_some, does_same _ _ (fun _ _ => by simp) (by simp)] at ha
    obtain ⟨e1, e2⟩ := Prod.mk.inj ha
    subst e1 e2
    exact g_retO (ev_call (x := ((⟨ta⟩ : TentD CT), x0, ())) (ea_cons (fa rfl) (ea_cons (ev_ixL (xs := (toD C [[8, x0]]).numbers) (i := 0) (ev_v rfl nu) ev_i (by decide) rfl) ea_nil)) ⟨ok, g1.1⟩) q
  | @k9 r0 g1 =>
    refine q_when (b := false) (EvB.eq (eb_test (ev_eqI (ev_v rfl rfl) ev_i)) rfl) (fun e => by cases e) (fun _ => ?_)
    refine q_when (b := false) (EvB.eq (eb_test (ev_eqI (ev_v rfl rfl) ev_i)) rfl) (fun e => by cases e) (fun _ => ?_)
    refine q_when (b := false) (EvB.eq (eb_test (ev_eqI (ev_v rfl rfl) ev_i)) rfl) (fun e => by cases e) (fun _ => ?_)
    refine q_when (b := false) (EvB.eq (eb_test (ev_eqI (ev_v rfl rfl) ev_i)) rfl) (fun e => by cases e) (fun _ => ?_)
    refine q_when (b := false) (EvB.eq (eb_test (ev_eqI (ev_v rfl rfl) ev_i)) rfl) (fun e => by cases e) (fun _ => ?_)
    refine q_when (b := false) (EvB.eq (eb_test (ev_eqI (ev_v rfl rfl) ev_i)) rfl) (fun e => by cases e) (fun _ => ?_)
    refine q_when (b := false) (EvB.eq (eb_test (ev_eqI (ev_v rfl rfl) ev_i)) rfl) (fun e => by cases e) (fun _ => ?_)
    refine q_when (b := false) (EvB.eq (eb_test (ev_eqI (ev_v rfl rfl) ev_i)) rfl) (fun e => by cases e) (fun _ => ?_)
    refine q_when (b := true) (EvB.eq (eb_test (ev_eqI (ev_v rfl rfl) ev_i)) rfl) (fun _ => ?_) (fun e => by cases e)
    rw [ans9, step_some, does_same _ _ (fun _ _ => by simp) (by simp)] at ha
    obtain ⟨e1, e2⟩ := Prod.mk.inj ha
    subst e1 e2
    exact g_retO (ev_call (x := ((⟨ta⟩ : TentD CT), r0, ())) (ea_cons (fa rfl) (ea_cons (ev_ixL (xs := (toD C [[9], r0]).rows) (i := 0) (ev_v rfl ru) ev_i (by decide) rfl) ea_nil)) ⟨ok, g1⟩) q
  | @k10 x0 g1 =>
    refine q_when (b := false) (EvB.eq (eb_test (ev_eqI (ev_v rfl rfl) ev_i)) rfl) (fun e => by cases e) (fun _ => ?_)
    refine q_when (b := false) (EvB.eq (eb_test (ev_eqI (ev_v rfl rfl) ev_i)) rfl) (fun e => by cases e) (fun _ => ?_)
    refine q_when (b := false) (EvB.eq (eb_test (ev_eqI (ev_v rfl rfl) ev_i)) rfl) (fun e => by cases e) (fun _ => ?_)
    refine q_when (b := false) (EvB.eq (eb_test (ev_eqI (ev_v rfl rfl) ev_i)) rfl) (fun e => by cases e) (fun _ => ?_)
    refine q_when (b := false) (EvB.eq (eb_test (ev_eqI (ev_v rfl rfl) ev_i)) rfl) (fun e => by cases e) (fun _ => ?_)
    refine q_when (b := false) (EvB.eq (eb_test (ev_eqI (ev_v rfl rfl) ev_i)) rfl) (fun e => by cases e) (fun _ => ?_)
    refine q_when (b := false) (EvB.eq (eb_test (ev_eqI (ev_v rfl rfl) ev_i)) rfl) (fun e => by cases e) (fun _ => ?_)
    refine q_when (b := false) (EvB.eq (eb_test (ev_eqI (ev_v rfl rfl) ev_i)) rfl) (fun e => by cases e) (fun _ => ?_)
    refine q_when (b := false) (EvB.eq (eb_test (ev_eqI (ev_v rfl rfl) ev_i)) rfl) (fun e => by cases e) (fun _ => ?_)
    refine q_when (b := true) (EvB.eq (eb_test (ev_eqI (ev_v rfl rfl) ev_i)) rfl) (fun _ => ?_) (fun e => by cases e)
    rw [ans10, step_some, does_same _ _ (fun _ _ => by simp) (by simp)] at ha
    obtain ⟨e1, e2⟩ := Prod.mk.inj ha
    subst e1 e2
    exact g_retO (ev_call (x := ((⟨ta⟩ : TentD CT), x0, ())) (ea_cons (fa rfl) (ea_cons (ev_ixL (xs := (toD C [[10, x0]]).numbers) (i := 0) (ev_v rfl nu) ev_i (by decide) rfl) ea_nil)) ⟨ok, g1.1⟩) q
  | @k11 x0 x1 g1 g2 =>
    refine q_when (b := false) (EvB.eq (eb_test (ev_eqI (ev_v rfl rfl) ev_i)) rfl) (fun e => by cases e) (fun _ => ?_)
    refine q_when (b := false) (EvB.eq (eb_test (ev_eqI (ev_v rfl rfl) ev_i)) rfl) (fun e => by cases e) (fun _ => ?_)
    refine q_when (b := false) (EvB.eq (eb_test (ev_eqI (ev_v rfl rfl) ev_i)) rfl) (fun e => by cases e) (fun _ => ?_)
    refine q_when (b := false) (EvB.eq (eb_test (ev_eqI (ev_v rfl rfl) ev_i)) rfl) (fun e => by cases e) (fun _ => ?_)
    refine q_when (b := false) (EvB.eq (eb_test (ev_eqI (ev_v rfl rfl) ev_i)) rfl) (fun e => by cases e) (fun _ => ?_)
    refine q_when (b := false) (EvB.eq (eb_test (ev_eqI (ev_v rfl rfl) ev_i)) rfl) (fun e => by cases e) (fun _ => ?_)
    refine q_when (b := false) (EvB.eq (eb_test (ev_eqI (ev_v rfl rfl) ev_i)) rfl) (fun e => by cases e) (fun _ => ?_)
    refine q_when (b := false) (EvB.eq (eb_test (ev_eqI (ev_v rfl rfl) ev_i)) rfl) (fun e => by cases e) (fun _ => ?_)
    refine q_when (b := false) (EvB.eq (eb_test (ev_eqI (ev_v rfl rfl) ev_i)) rfl) (fun e => by cases e) (fun _ => ?_)
    refine q_when (b := false) (EvB.eq (eb_test (ev_eqI (ev_v rfl rfl) ev_i)) rfl) (fun e => by cases e) (fun _ => ?_)
    refine q_when (b := true) (EvB.eq (eb_test (ev_eqI (ev_v rfl rfl) ev_i)) rfl) (fun _ => ?_) (fun e => by cases e)
    rw [ans11, step_some, does_same _ _ (fun _ _ => by simp) (by simp)] at ha
    obtain ⟨e1, e2⟩ := Prod.mk.inj ha
    subst e1 e2
    exact g_retO (ev_call (x := ((⟨ta⟩ : TentD CT), x0, x1, ())) (ea_cons (fa rfl) (ea_cons (ev_ixL (xs := (toD C [[11, x0, x1]]).numbers) (i := 0) (ev_v rfl nu) ev_i (by decide) rfl) (ea_cons (ev_ixL (xs := (toD C [[11, x0, x1]]).numbers) (i := 1) (ev_v rfl nu) ev_i (by decide) rfl) ea_nil))) ⟨ok, g1.1, g2.1⟩) q
  | k12 =>
    refine q_when (b := false) (EvB.eq (eb_test (ev_eqI (ev_v rfl rfl) ev_i)) rfl) (fun e => by cases e) (fun _ => ?_)
    refine q_when (b := false) (EvB.eq (eb_test (ev_eqI (ev_v rfl rfl) ev_i)) rfl) (fun e => by cases e) (fun _ => ?_)
    refine q_when (b := false) (EvB.eq (eb_test (ev_eqI (ev_v rfl rfl) ev_i)) rfl) (fun e => by cases e) (fun _ => ?_)
    refine q_when (b := false) (EvB.eq (eb_test (ev_eqI (ev_v rfl rfl) ev_i)) rfl) (fun e => by cases e) (fun _ => ?_)
    refine q_when (b := false) (EvB.eq (eb_test (ev_eqI (ev_v rfl rfl) ev_i)) rfl) (fun e => by cases e) (fun _ => ?_)
    refine q_when (b := false) (EvB.eq (eb_test (ev_eqI (ev_v rfl rfl) ev_i)) rfl) (fun e => by cases e) (fun _ => ?_)
    refine q_when (b := false) (EvB.eq (eb_test (ev_eqI (ev_v rfl rfl) ev_i)) rfl) (fun e => by cases e) (fun _ => ?_)
    refine q_when (b := false) (EvB.eq (eb_test (ev_eqI (ev_v rfl rfl) ev_i)) rfl) (fun e => by cases e) (fun _ => ?_)
    refine q_when (b := false) (EvB.eq (eb_test (ev_eqI (ev_v rfl rfl) ev_i)) rfl) (fun e => by cases e) (fun _ => ?_)
    refine q_when (b := false) (EvB.eq (eb_test (ev_eqI (ev_v rfl rfl) ev_i)) rfl) (fun e => by cases e) (fun _ => ?_)
    refine q_when (b := false) (EvB.eq (eb_test (ev_eqI (ev_v rfl rfl) ev_i)) rfl) (fun e => by cases e) (fun _ => ?_)
    refine q_when (b := true) (EvB.eq (eb_test (ev_eqI (ev_v rfl rfl) ev_i)) rfl) (fun _ => ?_) (fun e => by cases e)
    rw [ans12] at ha
    exact g_retM rfl (x := ()) ea_nil (show R_inner (some ta) () z' y from ⟨ta, rfl, ok, ha⟩) q
  | k13 =>
    refine q_when (b := false) (EvB.eq (eb_test (ev_eqI (ev_v rfl rfl) ev_i)) rfl) (fun e => by cases e) (fun _ => ?_)
    refine q_when (b := false) (EvB.eq (eb_test (ev_eqI (ev_v rfl rfl) ev_i)) rfl) (fun e => by cases e) (fun _ => ?_)
    refine q_when (b := false) (EvB.eq (eb_test (ev_eqI (ev_v rfl rfl) ev_i)) rfl) (fun e => by cases e) (fun _ => ?_)
    refine q_when (b := false) (EvB.eq (eb_test (ev_eqI (ev_v rfl rfl) ev_i)) rfl) (fun e => by cases e) (fun _ => ?_)
    refine q_when (b := false) (EvB.eq (eb_test (ev_eqI (ev_v rfl rfl) ev_i)) rfl) (fun e => by cases e) (fun _ => ?_)
    refine q_when (b := false) (EvB.eq (eb_test (ev_eqI (ev_v rfl rfl) ev_i)) rfl) (fun e => by cases e) (fun _ => ?_)
    refine q_when (b := false) (EvB.eq (eb_test (ev_eqI (ev_v rfl rfl) ev_i)) rfl) (fun e => by cases e) (fun _ => ?_)
    refine q_when (b := false) (EvB.eq (eb_test (ev_eqI (ev_v rfl rfl) ev_i)) rfl) (fun e => by cases e) (fun _ => ?_)
    refine q_when (b := false) (EvB.eq (eb_test (ev_eqI (ev_v rfl rfl) ev_i)) rfl) (fun e => by cases e) (fun _ => ?_)
    refine q_when (b := false) (EvB.eq (eb_test (ev_eqI (ev_v rfl rfl) ev_i)) rfl) (fun e => by cases e) (fun _ => ?_)
    refine q_when (b := false) (EvB.eq (eb_test (ev_eqI (ev_v rfl rfl) ev_i)) rfl) (fun e => by cases e) (fun _ => ?_)
    refine q_when (b := false) (EvB.eq (eb_test (ev_eqI (ev_v rfl rfl) ev_i)) rfl) (fun e => by cases e) (fun _ => ?_)
    rw [ans13, step_some, ansD_state] at ha
    obtain ⟨e1, e2⟩ := Prod.mk.inj ha
    subst e1 e2
    exact g_retO (ev_call (x := ((⟨ta⟩ : TentD CT), ())) (ea_cons (fa rfl) ea_nil) trivial) q
end
end Ft

set_option Elab.async false
set_option linter.all false
set_option maxRecDepth 100000
set_option maxHeartbeats 2000000
namespace Ft
open PySem PySem.Spec PyProof.Rows L2
section
variable {P : Program} {w : World} {K : PySem.W.Frag} {mg : Str → Option Value} {base : Heap} {C CT : Addr}
/-! answer_call -/
abbrev s_answer_call : Stmt := top 78
theorem sc_answer_call : FnScope ["tent", "call"] ["tent", "call"] (defScope s_answer_call) := ⟨rfl, rfl, rfl, by decide +kernel, rfl, by decide +kernel, by decide +kernel⟩
theorem ok_answer_call (T : Tp mg) (Tc : Tn mg) (TC : ClsCall K C) (TT : ClsTent K CT) (D : DefAt K mg "answer_call" s_answer_call ["tent", "call"]) (h_answer_begin : Has P w K mg base "answer_begin" ["tent", "a", "b"] 1 (PM CT fldS R_begin))
    (h_answer_begun : Has P w K mg base "answer_begun" ["tent", "call"] 6 (PM CT fldS (R_begun C))) : Has P w K mg base "answer_call" ["tent", "call"] 7 (PM CT fldS (R_call C)) := by
  refine has_PM D sc_answer_call rfl fun f cdv Ar outer s H r Q E hr H0 t dx z z' a y ht rr hR q => ?_
  obtain ⟨v1, r1, rfl, h1, rfl⟩ := rr
  obtain ⟨cd, u⟩ := a
  obtain ⟨c, e, hc, hg, ha⟩ := hR
  have e : cd = toD C c := e
  subst e
  have hk := kind_of hc
  refine ⟨_, (pss_cons (ps_if (pt_cmpR op_eq (pe_fld (pv 1) rfl) (pe_gi Tc.c_BEGIN (by rfl)) (nomark _)) (pss_one (ps_ret (pe_has h_answer_begin (hr.mono (by decide)) (by rfl) (pa_cons (pv 0) (pa_cons (pe_ix ix_list (pe_fld (pv 1) rfl) pe_int (fun _ _ => rfl)) (pa_cons (pe_ix ix_list (pe_fld (pv 1) rfl) pe_int (fun _ _ => rfl)) pa_nil)))))) pss_nil)
      (pss_cons (ps_if (pt_cmpR op_eq (pe_fld (pv 0) rfl) pe_int (nomark _)) (pss_one (ps_ret (pe_lst (pa_cons (pe_gi T.c_NOT_BEGUN (by rfl)) pa_nil)))) pss_nil)
      (pss_one (ps_ret (pe_has h_answer_begun (hr.mono (by decide)) (by rfl) (pa_cons (pv 0) (pa_cons (pv 1) pa_nil))))))), ?_⟩
  refine q_when (eb_test (ev_eqI (ev_number TC (ev_v (x := toD C c) rfl h1)) (ev_i (i := 0)))) (fun b => ?_) (fun b => ?_)
  · have b := of_decide_eq_true b
    cases hk with
    | @k0 x0 x1 g1 g2 =>
      rw [ans0, step_begin] at ha
      obtain ⟨e1, e2⟩ := Prod.mk.inj ha
      exact g_retM rfl (x := (x0, x1, ())) (ea_cons (ev_ixL (i := 0) (ev_numbers TC (ev_v (x := toD C [[0, x0, x1]]) rfl h1)) ev_i (by decide) rfl) (ea_cons (ev_ixL (i := 1) (ev_numbers TC (ev_v (x := toD C [[0, x0, x1]]) rfl h1)) ev_i (by decide) rfl) ea_nil)) (show R_begin z (x0, x1, ()) z' y from ⟨g1.1, g2.1, g1.2, g2.2, e1.symm, e2.symm⟩) q
    | k1 => exact absurd b (show ¬ (1 : Int) = 0 by decide)
    | k2 => exact absurd b (show ¬ (2 : Int) = 0 by decide)
    | k3 => exact absurd b (show ¬ (3 : Int) = 0 by decide)
    | k4 => exact absurd b (show ¬ (4 : Int) = 0 by decide)
    | k5 => exact absurd b (show ¬ (5 : Int) = 0 by decide)
    | k6 => exact absurd b (show ¬ (6 : Int) = 0 by decide)
    | k7 => exact absurd b (show ¬ (7 : Int) = 0 by decide)
    | k8 => exact absurd b (show ¬ (8 : Int) = 0 by decide)
    | k9 => exact absurd b (show ¬ (9 : Int) = 0 by decide)
    | k10 => exact absurd b (show ¬ (10 : Int) = 0 by decide)
    | k11 => exact absurd b (show ¬ (11 : Int) = 0 by decide)
    | k12 => exact absurd b (show ¬ (12 : Int) = 0 by decide)
    | k13 => exact absurd b (show ¬ (13 : Int) = 0 by decide)
  · have b := of_decide_eq_false b
    cases z with
    | none =>
      have e0 := (ans_none hk b).symm.trans ha
      obtain ⟨e1, e2⟩ := Prod.mk.inj e0
      subst e1 e2
      refine q_whenO (b := true) (EvB.eq (eb_test (ev_eqI (i := 0) (j := 0) (fun H1 s Q q => ⟨_, rfl, t, CT, dx, _, _, rfl, s _ _ upd_same, TT.cl, TT.n2, (lk2 (by decide +kernel)).trans lk1, q _ _ H1 (At.refl s) rfl⟩) ev_i)) rfl) (fun _ => ?_) (fun e => by cases e)
      exact g_ret (ev_lst (el_cons (ev_i (i := -11)) el_nil) (by decide)) q
    | some ta =>
      have hb := (show okT ta from hg).b0
      refine q_whenO (b := false) (EvB.eq (eb_test (ev_eqI (i := (ta.b : Int)) (j := 0) (fun H1 s Q q => ⟨_, rfl, t, CT, dx, _, _, rfl, s _ _ upd_same, TT.cl, TT.n2, (lk2 (by decide +kernel)).trans lk1, q _ _ H1 (At.refl s) rfl⟩) ev_i)) (decide_eq_false (by omega))) (fun e => by cases e) (fun _ => ?_)
      exact g_retM rfl (x := (toD C c, ())) (ea_cons (ev_v rfl h1) ea_nil) (show R_begun C (some ta) (toD C c, ()) z' y from ⟨ta, c, rfl, hg, rfl, hk, b, ha⟩) q
/-! answers -/
def stAt (s : St0) (l : List (List (List Int))) : St0 := l.foldl (fun s c => (ans s c).1) s
def outs (s : St0) (l : List (List (List Int))) : List (List Int) := PyFlat.played (fun s c => Su185Neutral.step s (c.headD [])) s (l.map PySu185.whole)
theorem outs_cons (s : St0) (c : List (List Int)) (l : List (List (List Int))) : outs s (c :: l) = (ans s c).2 :: outs (ans s c).1 l := rfl
theorem outs_app : ∀ (l m : List (List (List Int))) (s : St0), outs s (l ++ m) = outs s l ++ outs (stAt s l) m
  | [], _, _ => rfl
  | c :: l, m, s => by
    rw [List.cons_append, outs_cons, outs_cons, outs_app l m]
    rfl
theorem stAt_snoc (s : St0) (l : List (List (List Int))) (c : List (List Int)) : stAt s (l ++ [c]) = (ans (stAt s l) c).1 := by
  unfold stAt
  rw [List.foldl_append]
  rfl
theorem told_app (l m : List (List Int)) : PyFlat.told (l ++ m) = PyFlat.told l ++ PyFlat.told m := List.flatMap_append
theorem good_at {s : St0} (h : good s) : ∀ {l : List (List (List Int))}, (∀ c ∈ l, okRaw c) → good (stAt s l)
  | [], _ => h
  | c :: l, g => good_at (s := (ans s c).1) (good_ans h (kind_of (g c List.mem_cons_self))) fun d hd => g d (List.mem_cons_of_mem _ hd)
abbrev s_answers : Stmt := top 79
theorem sc_answers : FnScope ["calls", "tent", "given", "call", "answer"] ["calls"] (defScope s_answers) := ⟨rfl, rfl, rfl, by decide +kernel, rfl, by decide +kernel, by decide +kernel⟩
def R_answers (K : PySem.W.Frag) (x : Scr K × Unit) (y : List Int) : Prop := ∃ raw : List (List (List Int)), x.1.l = PyFlat.put raw ∧ (∀ c ∈ raw, okRaw c) ∧ raw.length ≤ 1000 ∧ y = PyFlat.told (outs none raw) ∧ y.length ≤ 10000000
theorem ok_answers (T : Tp mg) (D : DefAt K mg "answers" s_answers ["calls"]) (h_Tent : NewAt P w K mg base "Tent" CT ["self"] 1 (sp_Tent_init CT)) (h_cut_calls : Has P w K mg base "cut_calls" ["calls"] 4 (PG (R_cut_calls K C)))
    (h_answer_call : Has P w K mg base "answer_call" ["tent", "call"] 7 (PM CT fldS (R_call C))) : Has P w K mg base "answers" ["calls"] 8 (PG (R_answers K)) := by
  refine has_PG D sc_answers rfl fun f cdv Ar outer s H vs Q E hr H0 a y r hp q => ?_
  obtain ⟨v1, r1, rfl, h1, rfl⟩ := r
  obtain ⟨scr, u⟩ := a
  obtain ⟨raw, he, hok, hlen, ey, hy⟩ := hp
  refine ⟨_, (pss_cons (ps_set (i := 1) sc_answers.nd rfl (Or.inl rfl) (pe_new0 h_Tent (hr.mono (by decide)) (by rfl)))
      (pss_cons (ps_set (i := 2) sc_answers.nd rfl (Or.inl rfl) (pe_lst pa_nil))
      (pss_cons (ps_for PassesOwn.never rfl (pi_list (pe_has h_cut_calls (hr.mono (by decide)) (by rfl) (pa_cons (pv 0) pa_nil))) (pg_name (i := 3) sc_answers.nd rfl (Or.inl rfl)) (pss_cons (ps_set (i := 4) sc_answers.nd rfl (Or.inl rfl) (pe_has h_answer_call (hr.mono (by decide)) (by rfl) (pa_cons (pv 1) (pa_cons (pv 3) pa_nil))))
      (pss_cons (ps_expr (pe_bm PySem.F.plainAttrs_list PySem.F.slot_list_append PySem.F.type_list_append mt_append (pv 2) (pa_cons (pe_callB call_len_seq (by rfl) T.b_len (by decide +kernel) (pa_cons (pv 4) pa_nil)) pa_nil)))
      (pss_one (ps_expr (pe_bm PySem.F.plainAttrs_list PySem.F.slot_list_extend PySem.F.type_list_extend mt_extend (pv 2) (pa_cons (pv 4) pa_nil)))))))
      (pss_one (ps_ret (pv 2)))))), ?_⟩
  refine q_newT fun x dx hx0 hd0 => ?_
  refine q_new fun l h0l hl nm => ?_
  refine q_forL (xs := raw.map (toD C)) (ev_callG (x := (scr, ())) (ea_cons (ev_v rfl (Py.mono (same_new (Same.refl _) hd0) h1)) ea_nil) ⟨raw, he, fun c hc => (hok c hc).sh, rfl, hlen⟩) (fun Hv i st Hs M => ∃ (ws : List V) (c d : Option V), st = [some v1, some (.ref x), some (.ref l), c, d] ∧ M = [(l, .lst ws), (x, .ins CT dx (fldS (stAt none (raw.take i))))] ∧ Same Hv Hs ∧ All2 (Py.rep Hs) ws (PyFlat.told (outs none (raw.take i)))) ?_ ?_ ?_ ?_
  · intro Hv s2
    exact ⟨[], none, none, rfl, rfl, Same.refl _, .nil⟩
  · rintro Hv i st Hs M ⟨ws, c, d, _, _, sm, _⟩
    exact sm
  · rintro Hv i v cd st Hs M s2 hi hv ⟨ws, c, d, rfl, rfl, sm, hw⟩
    obtain ⟨rc, hrc, rfl⟩ : ∃ rc, raw[i]? = some rc ∧ cd = toD C rc := by
      rw [List.getElem?_map] at hi
      cases e : raw[i]? with
      | none =>
        rw [e] at hi
        cases hi
      | some z =>
        rw [e] at hi
        exact ⟨z, rfl, (Option.some.inj hi).symm⟩
    have hm : rc ∈ raw := List.mem_of_getElem? hrc
    have et : raw.take (i + 1) = raw.take i ++ [rc] := by
      rw [List.take_add_one, hrc]
      rfl
    have hgood : good (stAt none (raw.take i)) := good_at (s := none) trivial fun c hc => hok c (List.mem_of_mem_take hc)
    have eo : outs none (raw.take (i + 1)) = outs none (raw.take i) ++ [(ans (stAt none (raw.take i)) rc).2] := by
      rw [et, outs_app]
      rfl
    have eall : outs none raw = outs none (raw.take (i + 1)) ++ outs (stAt none (raw.take (i + 1))) (raw.drop (i + 1)) := by
      rw [← outs_app, List.take_append_drop]
    have etl : (PyFlat.told (outs none (raw.take i))).length + ((ans (stAt none (raw.take i)) rc).2.length + 1) ≤ 10000000 := by
      have e1 := hy
      rw [ey, eall, told_app, eo, told_app, List.length_append, List.length_append] at e1
      have e2 : (PyFlat.told [(ans (stAt none (raw.take i)) rc).2]).length = (ans (stAt none (raw.take i)) rc).2.length + 1 := by
        show (((_ : Int) :: _) ++ []).length = _
        rw [List.append_nil, List.length_cons]
      omega
    have hwl := hw.len
    refine g_swap ?_
    refine q_asgM (s' := (ans (stAt none (raw.take i)) rc).1) (y := (ans (stAt none (raw.take i)) rc).2) rfl (x := (toD C rc, ())) (ea_cons (ev_v rfl hv) ea_nil) (show R_call C _ (toD C rc, ()) _ _ from ⟨rc, rfl, hok rc hm, hgood, rfl⟩) ?_
    intro v2 Hv2 s3 hv2
    refine g_swap ?_
    refine q_app rfl (ev_len (xs := (ans (stAt none (raw.take i)) rc).2) (ev_v rfl hv2)) (by omega) ?_
    intro v3 Hv3 s4 hv3
    refine g_ext rfl (ev_v (x := (ans (stAt none (raw.take i)) rc).2) rfl (Py.mono s4 hv2)) (by rw [List.length_append]; simp; omega) ?_
    intro ws4 Hv4 s5 hw4
    refine g_nx ⟨ws ++ [v3] ++ ws4, _, _, rfl, ?_, ((sm.trans s3).trans s4).trans s5, ?_⟩
    · rw [et, stAt_snoc]
    · rw [eo, told_app]
      have e2 : PyFlat.told [(ans (stAt none (raw.take i)) rc).2] = [((ans (stAt none (raw.take i)) rc).2.length : Int)] ++ (ans (stAt none (raw.take i)) rc).2 := by
        show (((_ : Int) :: _) ++ []) = _
        rw [List.append_nil]
        rfl
      rw [e2, ← List.append_assoc]
      exact (((hw.imp fun _ _ => Py.mono (s3.trans s4)).snoc hv3).imp fun _ _ => Py.mono s5).app hw4
  · rintro Hv st Hs M s2 ⟨ws, c, d, rfl, rfl, sm, hw⟩
    rw [List.length_map, List.take_length, ← ey] at hw
    refine g_froz fun h1 h2 => ?_
    refine g_ret (x := y) (ev_v rfl (froz_rep h1 hw)) ?_
    intro v Hv H2 a o r
    exact q v Hv H2 a Own.nil r
end
end Ft

set_option Elab.async false
set_option linter.all false
set_option maxRecDepth 100000
set_option maxHeartbeats 2000000
namespace Ft
open PySem PySem.Spec PyProof.Rows L2
/-! ### what the top has written -/
structure DefF (K : PySem.W.Frag) (nm : Str) (s0 : Stmt) (ps : List Str) : Prop where
  ex : ∃ (f : Addr) (fd : FuncData), Fun K nm nm s0 f fd ∧ PySem.W.nsIn K mainGlobals nm = some (some (.ref f)) ∧ ∀ (s : Shared) (us : List Value), us.length = ps.length → BindsTo s fd ⟨us, []⟩ (ps.zip us)
structure IntF (K : PySem.W.Frag) (nm : Str) (n : Int) : Prop where
  ex : ∃ t : Tok, PySem.W.nsIn K mainGlobals nm = some (some (.int n t))
structure TupF (K : PySem.W.Frag) (nm : Str) (ns : List Int) : Prop where
  ex : ∃ (p : Addr) (o : Obj) (its : Array Value) (n : Nat), PySem.W.nsIn K mainGlobals nm = some (some (.ref p)) ∧ K.lookup p = some o ∧ o.cls = .type "tuple" ∧ o.data = .seq its n ∧ its.size ≤ sizeLine ∧ Vals (ns.map V.int) its.toList
structure ClsF (K : PySem.W.Frag) (nm : Str) (C f : Addr) (attrs : List Str) : Prop where
  nm : PySem.W.nsIn K mainGlobals nm = some (some (.ref C))
  cl : Cls K C
  mk' : Mk K C f
  na : ∀ x ∈ attrs, NoAttr K C x
section
variable {K : PySem.W.Frag} {h : Heap} {mg : Str → Option Value}
theorem def_f {nm : Str} {s0 : Stmt} {ps : List Str} {f : Addr} {oc : Value} {od an : Option Addr} {sl : Array (Option Value)} {kV dc pm cd ct : Value} (a : PySem.W.nsIn K mainGlobals nm = some (some (.ref f)))
    (l : K.lookup f = some ⟨oc, od, .func (PySem.W.fnOf nm nm (defArgs s0) (defBody s0) (defScope s0) .none kV dc pm an cd ct), sl⟩) (c : PySem.W.codeIn K cd nm = true) (k : PySem.W.keepIn K (.ref f) = true)
    (hb : ∀ (kV doc pm : Value) (an : Option Addr) (cdv ct : Value) (us : List Value), us.length = ps.length → bindArgs (PySem.W.fnOf nm nm (defArgs s0) (defBody s0) (defScope s0) .none kV doc pm an cdv ct) ⟨us, []⟩ = pure (ps.zip us)) : DefF K nm s0 ps :=
  ⟨f, _, fun_mk (st := s0) l c k, a, fun s us hu => .of_eq (hb kV dc pm an cd ct us hu)⟩
theorem int_f {nm : Str} {n : Int} {t : Tok} (a : PySem.W.nsIn K mainGlobals nm = some (some (.int n t))) : IntF K nm n := ⟨t, a⟩
theorem tup_f {nm : Str} {ns : List Int} {p : Addr} {d : Option Addr} {its : Array Value} {n : Nat} {sl : Array (Option Value)} (a : PySem.W.nsIn K mainGlobals nm = some (some (.ref p))) (l : K.lookup p = some ⟨.type "tuple", d, .seq its n, sl⟩) (z : its.size ≤ sizeLine) (v : Vals (ns.map V.int) its.toList) : TupF K nm ns :=
  ⟨p, _, its, n, a, l, rfl, rfl, z, v⟩
theorem DefF.at' {nm : Str} {s0 : Stmt} {ps : List Str} (d : DefF K nm s0 ps) (X : K.In h) (G : h.Ns mainGlobals mg) : DefAt K mg nm s0 ps := by
  obtain ⟨f, fd, F, a, b⟩ := d.ex
  exact ⟨f, fd, F, PySem.W.mg_of X G a, fun s us _ hl => by
    rw [List.append_nil] at hl ⊢
    exact b s us hl⟩
theorem IntF.at' {nm : Str} {n : Int} (d : IntF K nm n) (X : K.In h) (G : h.Ns mainGlobals mg) : ∃ t, mg nm = some (.int n t) := by
  obtain ⟨t, a⟩ := d.ex
  exact ⟨t, PySem.W.mg_of X G a⟩
theorem TupF.at' {nm : Str} {ns : List Int} (d : TupF K nm ns) (X : K.In h) (G : h.Ns mainGlobals mg) : TopTup K mg nm ns := by
  obtain ⟨p, o, its, n, a, l, c, dt, z, v⟩ := d.ex
  exact ⟨p, PySem.W.mg_of X G a, fun H => Or.inr ⟨o, its, n, l, c, dt, z, v⟩⟩
/-- the def that is asked for, as the end wants it -/
theorem end_of {P : Program} {w : World} {nm : Str} {s0 : Stmt} {ps : List Str} {fa : Addr} {k : Nat} {sp : Sp} (d : DefF K nm s0 ps) (X : K.In h) (G : h.Ns mainGlobals mg) (hfa : mg nm = some (.ref fa)) (hd : ∀ base : Heap, Has P w K mg base nm ps k sp) :
    ∃ fd : FuncData, (∀ (s : Shared) (us : List Value), us.length = ps.length → BindsTo s fd ⟨us, []⟩ (ps.zip us)) ∧ ∀ base : Heap, K.In base → base.Ns mainGlobals mg → FnOk P w K mg base CX0 k fa fd ps sp := by
  obtain ⟨f, fd, F, a, b⟩ := d.ex
  have e := hfa.symm.trans (PySem.W.mg_of X G a)
  cases e
  refine ⟨fd, b, fun base _ _ => ?_⟩
  obtain ⟨f', fd', hm, _, _, ok, lk⟩ := (hd base).ex
  have e := hm.symm.trans hfa
  cases e
  rw [lk_one (lk_of F) lk]
  exact ok
end
end Ft

set_option Elab.async false
set_option linter.all false
set_option maxRecDepth 100000
set_option maxHeartbeats 2000000
namespace Ft
open PySem PySem.Spec PyProof.Rows L2
section
variable {K : PySem.W.Frag}
theorem cls_f3 {nm x1 x2 x3 : Str} {s0 : Stmt} {ps : List Str} {C f : Addr} {oc : Value} {od an : Option Addr} {sl : Array (Option Value)} {kV dc pm cd ct : Value} {q : Str} (hn : PySem.W.nsIn K mainGlobals nm = some (some (.ref C)))
    (pg : PySem.W.plainGet K C Str.empty = true) (hd : PySem.W.hasDictIn K C = true) (po : PySem.W.plainOver K C = true) (sa : PySem.W.findIn K (.ref C) "__setattr__" = some (some (.builtin "object.__setattr__"))) (mk : PySem.W.makesIn K C = true) (fi : PySem.W.findIn K (.ref C) "__init__" = some (some (.ref f))) (isf : PySem.W.isFn K (.ref f) = true) (kc : PySem.W.keepIn K (.ref C) = true)
    (n1 : PySem.W.findIn K (.ref C) x1 = some none) (n2 : PySem.W.findIn K (.ref C) x2 = some none) (n3 : PySem.W.findIn K (.ref C) x3 = some none)
    (l : K.lookup f = some ⟨oc, od, .func (PySem.W.fnOf "__init__" q (defArgs s0) (defBody s0) (defScope s0) .none kV dc pm an cd ct), sl⟩) (c : PySem.W.codeIn K cd q = true) (k : PySem.W.keepIn K (.ref f) = true)
    (hb : ∀ (kV doc pm : Value) (an : Option Addr) (cdv ct : Value) (us : List Value), us.length = ps.length → bindArgs (PySem.W.fnOf "__init__" q (defArgs s0) (defBody s0) (defScope s0) .none kV doc pm an cdv ct) ⟨us, []⟩ = pure (ps.zip us)) :
    ∃ (C f : Addr) (fd : FuncData), ClsF K nm C f [x1, x2, x3] ∧ Fun K "__init__" q s0 f fd ∧ Binds K fd ps [] := by
  have F := fun_mk (st := s0) l c k
  refine ⟨C, f, _, ⟨hn, ⟨pg, hd, po, sa⟩, ⟨mk, fi, isf, kc⟩, fun x hx => ?_⟩, F, F.binds hb⟩
  simp only [List.mem_cons, List.not_mem_nil, or_false] at hx
  rcases hx with rfl | rfl | rfl
  · exact n1
  · exact n2
  · exact n3
theorem cls_f2 {nm x1 x2 : Str} {s0 : Stmt} {ps : List Str} {C f : Addr} {oc : Value} {od an : Option Addr} {sl : Array (Option Value)} {kV dc pm cd ct : Value} {q : Str} (hn : PySem.W.nsIn K mainGlobals nm = some (some (.ref C)))
    (pg : PySem.W.plainGet K C Str.empty = true) (hd : PySem.W.hasDictIn K C = true) (po : PySem.W.plainOver K C = true) (sa : PySem.W.findIn K (.ref C) "__setattr__" = some (some (.builtin "object.__setattr__"))) (mk : PySem.W.makesIn K C = true) (fi : PySem.W.findIn K (.ref C) "__init__" = some (some (.ref f))) (isf : PySem.W.isFn K (.ref f) = true) (kc : PySem.W.keepIn K (.ref C) = true)
    (n1 : PySem.W.findIn K (.ref C) x1 = some none) (n2 : PySem.W.findIn K (.ref C) x2 = some none)
    (l : K.lookup f = some ⟨oc, od, .func (PySem.W.fnOf "__init__" q (defArgs s0) (defBody s0) (defScope s0) .none kV dc pm an cd ct), sl⟩) (c : PySem.W.codeIn K cd q = true) (k : PySem.W.keepIn K (.ref f) = true)
    (hb : ∀ (kV doc pm : Value) (an : Option Addr) (cdv ct : Value) (us : List Value), us.length = ps.length → bindArgs (PySem.W.fnOf "__init__" q (defArgs s0) (defBody s0) (defScope s0) .none kV doc pm an cdv ct) ⟨us, []⟩ = pure (ps.zip us)) :
    ∃ (C f : Addr) (fd : FuncData), ClsF K nm C f [x1, x2] ∧ Fun K "__init__" q s0 f fd ∧ Binds K fd ps [] := by
  have F := fun_mk (st := s0) l c k
  refine ⟨C, f, _, ⟨hn, ⟨pg, hd, po, sa⟩, ⟨mk, fi, isf, kc⟩, fun x hx => ?_⟩, F, F.binds hb⟩
  simp only [List.mem_cons, List.not_mem_nil, or_false] at hx
  rcases hx with rfl | rfl
  · exact n1
  · exact n2
end
structure AllF (K : PySem.W.Frag) : Prop where
  d_cut_rows : DefF K "cut_rows" s_cut_rows ["calls", "start", "how_many"]
  d_cut_call : DefF K "cut_call" s_cut_call ["calls", "start"]
  d_length_of : DefF K "length_of" s_length_of ["call"]
  d_cut_calls : DefF K "cut_calls" s_cut_calls ["calls"]
  d_common_divisor : DefF K "common_divisor" s_common_divisor ["first", "second"]
  d_shortened : DefF K "shortened" s_shortened ["place"]
  d_put_once : DefF K "put_once" s_put_once ["a", "b", "place"]
  d_letter_of : DefF K "letter_of" s_letter_of ["place"]
  d_row_of : DefF K "row_of" s_row_of ["a", "b", "place", "k"]
  d_lead_of : DefF K "lead_of" s_lead_of ["a", "b", "k"]
  d_compare : DefF K "compare" s_compare ["row", "other"]
  d_row_fits : DefF K "row_fits" s_row_fits ["row", "lead"]
  d_with_a_letter_ahead : DefF K "with_a_letter_ahead" s_with_a_letter_ahead ["rows"]
  d_all_rows : DefF K "all_rows" s_all_rows ["k"]
  d_count_fitting : DefF K "count_fitting" s_count_fitting ["lead", "k"]
  d_place_put_onto_itself : DefF K "place_put_onto_itself" s_place_put_onto_itself ["a", "b", "row"]
  d_place_back_along : DefF K "place_back_along" s_place_back_along ["a", "b", "row"]
  d_is_above_its_turnings : DefF K "is_above_its_turnings" s_is_above_its_turnings ["row"]
  d_rounds_of : DefF K "rounds_of" s_rounds_of ["a", "b", "k"]
  d_stretch_of : DefF K "stretch_of" s_stretch_of ["a", "b", "row"]
  d_places_before : DefF K "places_before" s_places_before ["a", "b", "places"]
  d_count_laps : DefF K "count_laps" s_count_laps ["a", "b", "k"]
  d_is_place : DefF K "is_place" s_is_place ["p", "q"]
  d_is_length : DefF K "is_length" s_is_length ["k"]
  d_is_number_of_steps : DefF K "is_number_of_steps" s_is_number_of_steps ["k"]
  d_is_row_to_order : DefF K "is_row_to_order" s_is_row_to_order ["row"]
  d_is_row_of_sides : DefF K "is_row_of_sides" s_is_row_of_sides ["row"]
  d_answer_begin : DefF K "answer_begin" s_answer_begin ["tent", "a", "b"]
  d_answer_put : DefF K "answer_put" s_answer_put ["tent", "p", "q"]
  d_answer_row : DefF K "answer_row" s_answer_row ["tent", "p", "q", "k"]
  d_answer_lead : DefF K "answer_lead" s_answer_lead ["tent", "k"]
  d_answer_order : DefF K "answer_order" s_answer_order ["row", "other"]
  d_answer_fits : DefF K "answer_fits" s_answer_fits ["tent", "row"]
  d_answer_holds : DefF K "answer_holds" s_answer_holds ["tent", "row"]
  d_answer_comes : DefF K "answer_comes" s_answer_comes ["tent", "row"]
  d_answer_count : DefF K "answer_count" s_answer_count ["tent", "k"]
  d_answer_laps : DefF K "answer_laps" s_answer_laps ["tent", "k"]
  d_answer_rounds : DefF K "answer_rounds" s_answer_rounds ["tent", "k"]
  d_answer_round_of : DefF K "answer_round_of" s_answer_round_of ["tent", "k", "j"]
  d_answer_inner : DefF K "answer_inner" s_answer_inner ["tent"]
  d_answer_state : DefF K "answer_state" s_answer_state ["tent"]
  d_answer_begun : DefF K "answer_begun" s_answer_begun ["tent", "call"]
  d_answer_call : DefF K "answer_call" s_answer_call ["tent", "call"]
  d_answers : DefF K "answers" s_answers ["calls"]
  i_LESS : IntF K "LESS" (0)
  i_ALIKE : IntF K "ALIKE" (1)
  i_GREATER : IntF K "GREATER" (2)
  i_LEFT : IntF K "LEFT" (0)
  i_RIGHT : IntF K "RIGHT" (2)
  i_NOT_BEGUN : IntF K "NOT_BEGUN" (-11)
  i_NOT_AS_TOLD : IntF K "NOT_AS_TOLD" (-22)
  i_TOO_MANY : IntF K "TOO_MANY" (-28)
  i_THERE_IS_NONE : IntF K "THERE_IS_NONE" (-33)
  i_MOST_B : IntF K "MOST_B" (400)
  i_MOST_Q : IntF K "MOST_Q" (1000)
  i_MOST_LETTERS : IntF K "MOST_LETTERS" (16)
  i_MOST_STEPS : IntF K "MOST_STEPS" (9)
  i_BEGIN : IntF K "BEGIN" (0)
  i_PUT : IntF K "PUT" (1)
  i_ROW : IntF K "ROW" (2)
  i_LEAD : IntF K "LEAD" (3)
  i_ORDER : IntF K "ORDER" (4)
  i_FITS : IntF K "FITS" (5)
  i_COUNT : IntF K "COUNT" (6)
  i_HOLDS : IntF K "HOLDS" (7)
  i_LAPS : IntF K "LAPS" (8)
  i_COMES : IntF K "COMES" (9)
  i_ROUNDS : IntF K "ROUNDS" (10)
  i_ROUND_OF : IntF K "ROUND_OF" (11)
  i_INNER : IntF K "INNER" (12)
  b_len : PySem.W.nsIn K mainGlobals "len" = some none
  b_min : PySem.W.nsIn K mainGlobals "min" = some none
  b_range : PySem.W.nsIn K mainGlobals "range" = some none
  b_sum : PySem.W.nsIn K mainGlobals "sum" = some none
  b_all : PySem.W.nsIn K mainGlobals "all" = some none
  b_list : PySem.W.nsIn K mainGlobals "list" = some none
  b_reversed : PySem.W.nsIn K mainGlobals "reversed" = some none
  t_HOW_MANY_NUMBERS : TupF K "HOW_MANY_NUMBERS" numsI
  t_HOW_MANY_ROWS : TupF K "HOW_MANY_ROWS" rowsI
  k_Call : ∃ (C f : Addr) (fd : FuncData), ClsF K "Call" C f ["number", "numbers", "rows"] ∧ Fun K "__init__" "Call.__init__" s_Call_init f fd ∧ Binds K fd ["self", "number", "numbers", "rows"] []
  k_Tent : ∃ (C f : Addr) (fd : FuncData), ClsF K "Tent" C f ["a", "b"] ∧ Fun K "__init__" "Tent.__init__" s_Tent_init f fd ∧ Binds K fd ["self"] []

theorem all_mk {P : Program} {w : World} {K : PySem.W.Frag} {h : Heap} {mg : Str → Option Value} {fa : Addr} (X : K.In h) (G : h.Ns mainGlobals mg) (hfa : mg "answers" = some (.ref fa)) (A : AllF K) :
    ∃ fd : FuncData, (∀ (s : Shared) (us : List Value), us.length = (["calls"] : List Str).length → BindsTo s fd ⟨us, []⟩ ((["calls"] : List Str).zip us)) ∧ ∀ base : Heap, K.In base → base.Ns mainGlobals mg → FnOk P w K mg base CX0 8 fa fd ["calls"] (PG (R_answers K)) := by
  refine end_of A.d_answers X G hfa fun base => ?_
  have T : Tp mg := ⟨PySem.W.mg_none_of X G A.b_len, PySem.W.mg_none_of X G A.b_min, PySem.W.mg_none_of X G A.b_range, PySem.W.mg_none_of X G A.b_sum, PySem.W.mg_none_of X G A.b_all, PySem.W.mg_none_of X G A.b_list, PySem.W.mg_none_of X G A.b_reversed, A.i_LESS.at' X G, A.i_ALIKE.at' X G, A.i_GREATER.at' X G, A.i_LEFT.at' X G, A.i_RIGHT.at' X G, A.i_NOT_BEGUN.at' X G, A.i_NOT_AS_TOLD.at' X G, A.i_MOST_B.at' X G, A.i_MOST_Q.at' X G, A.i_MOST_LETTERS.at' X G, A.i_MOST_STEPS.at' X G, A.i_TOO_MANY.at' X G, A.i_THERE_IS_NONE.at' X G⟩
  have Tc : Tn mg := ⟨A.i_BEGIN.at' X G, A.i_PUT.at' X G, A.i_ROW.at' X G, A.i_LEAD.at' X G, A.i_ORDER.at' X G, A.i_FITS.at' X G, A.i_COUNT.at' X G, A.i_HOLDS.at' X G, A.i_LAPS.at' X G, A.i_COMES.at' X G, A.i_ROUNDS.at' X G, A.i_ROUND_OF.at' X G, A.i_INNER.at' X G⟩
  obtain ⟨C, fC, fdC, kC, FC, bC⟩ := A.k_Call
  obtain ⟨CT, fT, fdT, kT, FT, bT⟩ := A.k_Tent
  have TC : ClsCall K C := ⟨kC.cl, kC.na _ (by simp), kC.na _ (by simp), kC.na _ (by simp)⟩
  have TT : ClsTent K CT := ⟨kT.cl, kT.na _ (by simp), kT.na _ (by simp)⟩
  have hC : NewAt P w K mg base "Call" C ["self", "number", "numbers", "rows"] 1 (sp_Call_init C) := ⟨PySem.W.mg_of X G kC.nm, fC, fdC, kC.mk', bC, ok_Call_init FC TC⟩
  have hT : NewAt P w K mg base "Tent" CT ["self"] 1 (sp_Tent_init CT) := ⟨PySem.W.mg_of X G kT.nm, fT, fdT, kT.mk', bT, ok_Tent_init FT TT⟩
  have h_cut_rows := ok_cut_rows (P := P) (w := w) (base := base) T (A.d_cut_rows.at' X G)
  have h_cut_call := ok_cut_call (A.t_HOW_MANY_NUMBERS.at' X G) (A.t_HOW_MANY_ROWS.at' X G) (A.d_cut_call.at' X G) h_cut_rows hC
  have h_length_of := ok_length_of (P := P) (w := w) (base := base) T TC (A.d_length_of.at' X G)
  have h_cut_calls := ok_cut_calls T (A.d_cut_calls.at' X G) h_cut_call h_length_of
  have h_common := ok_common_divisor (P := P) (w := w) (base := base) (A.d_common_divisor.at' X G)
  have h_short := ok_shortened (A.d_shortened.at' X G) h_common
  have h_put := ok_put_once (P := P) (w := w) (base := base) (A.d_put_once.at' X G)
  have h_letter := ok_letter_of (P := P) (w := w) (base := base) (A.d_letter_of.at' X G)
  have h_row := ok_row_of T.b_range (A.d_row_of.at' X G) h_letter h_put
  have h_lead := ok_lead_of (A.d_lead_of.at' X G) h_row h_put
  have h_compare := ok_compare (P := P) (w := w) (base := base) T (A.d_compare.at' X G)
  have h_fits := ok_row_fits T (A.d_row_fits.at' X G) h_compare
  have h_ahead := ok_with_a_letter_ahead (P := P) (w := w) (base := base) T (A.d_with_a_letter_ahead.at' X G)
  have h_all := ok_all_rows T (A.d_all_rows.at' X G) h_ahead
  have h_count := ok_count_fitting T (A.d_count_fitting.at' X G) h_compare h_ahead
  have h_itself := ok_place_put_onto_itself (P := P) (w := w) (base := base) T (A.d_place_put_onto_itself.at' X G)
  have h_back := ok_place_back_along T (A.d_place_back_along.at' X G) h_itself h_row h_short
  have h_above := ok_is_above_its_turnings T (A.d_is_above_its_turnings.at' X G) h_compare
  have h_rounds := ok_rounds_of T (A.d_rounds_of.at' X G) h_all h_above h_back
  have h_stretch := ok_stretch_of T (A.d_stretch_of.at' X G) h_short
  have h_before := ok_places_before (P := P) (w := w) (base := base) (A.d_places_before.at' X G)
  have h_laps := ok_count_laps T (A.d_count_laps.at' X G) h_before
  have h_isp := ok_is_place (P := P) (w := w) (base := base) T (A.d_is_place.at' X G)
  have h_isl := ok_is_length (P := P) (w := w) (base := base) T (A.d_is_length.at' X G)
  have h_isn := ok_is_number_of_steps (P := P) (w := w) (base := base) T (A.d_is_number_of_steps.at' X G)
  have h_iso := ok_is_row_to_order (P := P) (w := w) (base := base) T (A.d_is_row_to_order.at' X G)
  have h_iss := ok_is_row_of_sides T (A.d_is_row_of_sides.at' X G) h_isl
  have a_put := ok_answer_put T TT (A.d_answer_put.at' X G) h_isp h_put h_short
  have a_row := ok_answer_row T TT (A.d_answer_row.at' X G) h_isp h_isl h_row
  have a_lead := ok_answer_lead T TT (A.d_answer_lead.at' X G) h_isl h_lead
  have a_order := ok_answer_order T (A.d_answer_order.at' X G) h_iso h_compare
  have a_fits := ok_answer_fits T TT (A.d_answer_fits.at' X G) h_iss h_lead h_fits
  have a_holds := ok_answer_holds T TT (A.d_answer_holds.at' X G) h_iss h_stretch
  have a_comes := ok_answer_comes T TT (A.d_answer_comes.at' X G) h_iss h_back
  have a_count := ok_answer_count T TT (A.d_answer_count.at' X G) h_isn h_lead h_count
  have a_laps := ok_answer_laps T TT (A.d_answer_laps.at' X G) h_isn h_laps
  have a_rounds := ok_answer_rounds T TT (A.d_answer_rounds.at' X G) h_isn h_rounds
  have a_round := ok_answer_round_of T TT (A.d_answer_round_of.at' X G) h_isn h_rounds
  have a_state := ok_answer_state (P := P) (w := w) (base := base) TT (A.d_answer_state.at' X G)
  have a_inner := ok_answer_inner T TT (A.d_answer_inner.at' X G) a_state
  have h_begin := ok_answer_begin (P := P) (w := w) (base := base) T TT (A.d_answer_begin.at' X G)
  have h_begun := ok_answer_begun (C := C) Tc TC TT (A.d_answer_begun.at' X G) a_put a_row a_lead a_order a_fits a_count a_holds a_laps a_comes a_rounds a_round a_inner a_state
  have h_call := ok_answer_call T Tc TC TT (A.d_answer_call.at' X G) h_begin h_begun
  exact ok_answers T (A.d_answers.at' X G) hT h_cut_calls h_call
/-- what is asked of the request -/
theorem asked_of {ns : List Int} (h : PySu185.answers_asked ns = true) : ∃ raw : List (List (List Int)), ns = PyFlat.put raw ∧ (∀ c ∈ raw, okRaw c) ∧ raw.length ≤ 1000 ∧ PySu185.answers ns = PyFlat.told (outs none raw) ∧ (PySu185.answers ns).length ≤ 10000000 := by
  unfold PySu185.answers_asked at h
  cases e : PyFlat.calls PySu185.shape ns.length ns with
  | none =>
    rw [e] at h
    cases h
  | some raw =>
    rw [e] at h
    have h : (!raw.isEmpty && PyFlat.atMost 400 raw && PyInside.calls PySu185.bound raw && Su185Neutral.asked ((raw.map PySu185.whole).map fun c => c.headD []) && PyFlat.short 10000000 (PySu185.answers ns)) = true := h
    obtain ⟨e1, e2⟩ := PyFlat.put_calls _ _ _ e
    have h1 := and1 (and1 (and1 h))
    have hl : raw.length ≤ 400 := of_decide_eq_true (and2 h1)
    have hi : raw.all (PyInside.call PySu185.bound) = true := and2 (and1 (and1 h))
    rw [List.all_eq_true] at hi
    refine ⟨raw, e1, fun c hc => ⟨e2 c hc, hi c hc⟩, by omega, ?_, of_decide_eq_true (and2 h)⟩
    unfold PySu185.answers PySu185.calls
    rw [e]
    rfl
end Ft

set_option Elab.async false
set_option linter.all false
open PySem PySem.W PyProof.Rows
set_option maxRecDepth 100000 in
set_option maxHeartbeats 8000000 in
theorem PySem.Challenge.cw_foldedtent_s01_answers_holds : PySem.Challenge.rw_foldedtent_s01_answers.Holds := by
  w_on; k_headS; (case hw => exact ⟨[.list [.int 13]], by decide +kernel, by decide +kernel⟩)
  k_fillS
  refine L2.walk_specK (r := PySem.Challenge.rw_foldedtent_s01_answers) (k := 8) (CX := L2.CX0) (ps := ["calls"]) (sp := fun K => Ft.PG (Ft.R_answers K)) (by decide +kernel) rfl rfl ⟨rfl, by decide, by decide⟩ (fun w h Y => PySem.W.kIn_of Y) ?F ?S (fun _ _ _ _ z => z)
  case F =>
    intro w mg fa h Y KX G hmg
    refine Ft.all_mk KX G hmg ?AF
    case AF =>
      refine' Ft.AllF.mk ?d_cut_rows ?d_cut_call ?d_length_of ?d_cut_calls ?d_common_divisor ?d_shortened ?d_put_once ?d_letter_of ?d_row_of ?d_lead_of ?d_compare ?d_row_fits ?d_with_a_letter_ahead ?d_all_rows ?d_count_fitting ?d_place_put_onto_itself ?d_place_back_along ?d_is_above_its_turnings ?d_rounds_of ?d_stretch_of ?d_places_before ?d_count_laps ?d_is_place ?d_is_length ?d_is_number_of_steps ?d_is_row_to_order ?d_is_row_of_sides ?d_answer_begin ?d_answer_put ?d_answer_row ?d_answer_lead ?d_answer_order ?d_answer_fits ?d_answer_holds ?d_answer_comes ?d_answer_count ?d_answer_laps ?d_answer_rounds ?d_answer_round_of ?d_answer_inner ?d_answer_state ?d_answer_begun ?d_answer_call ?d_answers ?i_LESS ?i_ALIKE ?i_GREATER ?i_LEFT ?i_RIGHT ?i_NOT_BEGUN ?i_NOT_AS_TOLD ?i_TOO_MANY ?i_THERE_IS_NONE ?i_MOST_B ?i_MOST_Q ?i_MOST_LETTERS ?i_MOST_STEPS ?i_BEGIN ?i_PUT ?i_ROW ?i_LEAD ?i_ORDER ?i_FITS ?i_COUNT ?i_HOLDS ?i_LAPS ?i_COMES ?i_ROUNDS ?i_ROUND_OF ?i_INNER ?b_len ?b_min ?b_range ?b_sum ?b_all ?b_list ?b_reversed ?t_HOW_MANY_NUMBERS ?t_HOW_MANY_ROWS ?k_Call ?k_Tent
      (case d_cut_rows => (refine' Ft.def_f ?a ?l ?c ?k (fun _ _ _ _ _ _ us hl => match us, hl with | [_, _, _], _ => rfl)); (case a => k_is); (case l => k_is); (case c => k_is); (case k => k_is))
      (case d_cut_call => (refine' Ft.def_f ?a ?l ?c ?k (fun _ _ _ _ _ _ us hl => match us, hl with | [_, _], _ => rfl)); (case a => k_is); (case l => k_is); (case c => k_is); (case k => k_is))
      (case d_length_of => (refine' Ft.def_f ?a ?l ?c ?k (fun _ _ _ _ _ _ us hl => match us, hl with | [_], _ => rfl)); (case a => k_is); (case l => k_is); (case c => k_is); (case k => k_is))
      (case d_cut_calls => (refine' Ft.def_f ?a ?l ?c ?k (fun _ _ _ _ _ _ us hl => match us, hl with | [_], _ => rfl)); (case a => k_is); (case l => k_is); (case c => k_is); (case k => k_is))
      (case d_common_divisor => (refine' Ft.def_f ?a ?l ?c ?k (fun _ _ _ _ _ _ us hl => match us, hl with | [_, _], _ => rfl)); (case a => k_is); (case l => k_is); (case c => k_is); (case k => k_is))
      (case d_shortened => (refine' Ft.def_f ?a ?l ?c ?k (fun _ _ _ _ _ _ us hl => match us, hl with | [_], _ => rfl)); (case a => k_is); (case l => k_is); (case c => k_is); (case k => k_is))
      (case d_put_once => (refine' Ft.def_f ?a ?l ?c ?k (fun _ _ _ _ _ _ us hl => match us, hl with | [_, _, _], _ => rfl)); (case a => k_is); (case l => k_is); (case c => k_is); (case k => k_is))
      (case d_letter_of => (refine' Ft.def_f ?a ?l ?c ?k (fun _ _ _ _ _ _ us hl => match us, hl with | [_], _ => rfl)); (case a => k_is); (case l => k_is); (case c => k_is); (case k => k_is))
      (case d_row_of => (refine' Ft.def_f ?a ?l ?c ?k (fun _ _ _ _ _ _ us hl => match us, hl with | [_, _, _, _], _ => rfl)); (case a => k_is); (case l => k_is); (case c => k_is); (case k => k_is))
      (case d_lead_of => (refine' Ft.def_f ?a ?l ?c ?k (fun _ _ _ _ _ _ us hl => match us, hl with | [_, _, _], _ => rfl)); (case a => k_is); (case l => k_is); (case c => k_is); (case k => k_is))
      (case d_compare => (refine' Ft.def_f ?a ?l ?c ?k (fun _ _ _ _ _ _ us hl => match us, hl with | [_, _], _ => rfl)); (case a => k_is); (case l => k_is); (case c => k_is); (case k => k_is))
      (case d_row_fits => (refine' Ft.def_f ?a ?l ?c ?k (fun _ _ _ _ _ _ us hl => match us, hl with | [_, _], _ => rfl)); (case a => k_is); (case l => k_is); (case c => k_is); (case k => k_is))
      (case d_with_a_letter_ahead => (refine' Ft.def_f ?a ?l ?c ?k (fun _ _ _ _ _ _ us hl => match us, hl with | [_], _ => rfl)); (case a => k_is); (case l => k_is); (case c => k_is); (case k => k_is))
      (case d_all_rows => (refine' Ft.def_f ?a ?l ?c ?k (fun _ _ _ _ _ _ us hl => match us, hl with | [_], _ => rfl)); (case a => k_is); (case l => k_is); (case c => k_is); (case k => k_is))
      (case d_count_fitting => (refine' Ft.def_f ?a ?l ?c ?k (fun _ _ _ _ _ _ us hl => match us, hl with | [_, _], _ => rfl)); (case a => k_is); (case l => k_is); (case c => k_is); (case k => k_is))
      (case d_place_put_onto_itself => (refine' Ft.def_f ?a ?l ?c ?k (fun _ _ _ _ _ _ us hl => match us, hl with | [_, _, _], _ => rfl)); (case a => k_is); (case l => k_is); (case c => k_is); (case k => k_is))
      (case d_place_back_along => (refine' Ft.def_f ?a ?l ?c ?k (fun _ _ _ _ _ _ us hl => match us, hl with | [_, _, _], _ => rfl)); (case a => k_is); (case l => k_is); (case c => k_is); (case k => k_is))
      (case d_is_above_its_turnings => (refine' Ft.def_f ?a ?l ?c ?k (fun _ _ _ _ _ _ us hl => match us, hl with | [_], _ => rfl)); (case a => k_is); (case l => k_is); (case c => k_is); (case k => k_is))
      (case d_rounds_of => (refine' Ft.def_f ?a ?l ?c ?k (fun _ _ _ _ _ _ us hl => match us, hl with | [_, _, _], _ => rfl)); (case a => k_is); (case l => k_is); (case c => k_is); (case k => k_is))
      (case d_stretch_of => (refine' Ft.def_f ?a ?l ?c ?k (fun _ _ _ _ _ _ us hl => match us, hl with | [_, _, _], _ => rfl)); (case a => k_is); (case l => k_is); (case c => k_is); (case k => k_is))
      (case d_places_before => (refine' Ft.def_f ?a ?l ?c ?k (fun _ _ _ _ _ _ us hl => match us, hl with | [_, _, _], _ => rfl)); (case a => k_is); (case l => k_is); (case c => k_is); (case k => k_is))
      (case d_count_laps => (refine' Ft.def_f ?a ?l ?c ?k (fun _ _ _ _ _ _ us hl => match us, hl with | [_, _, _], _ => rfl)); (case a => k_is); (case l => k_is); (case c => k_is); (case k => k_is))
      (case d_is_place => (refine' Ft.def_f ?a ?l ?c ?k (fun _ _ _ _ _ _ us hl => match us, hl with | [_, _], _ => rfl)); (case a => k_is); (case l => k_is); (case c => k_is); (case k => k_is))
      (case d_is_length => (refine' Ft.def_f ?a ?l ?c ?k (fun _ _ _ _ _ _ us hl => match us, hl with | [_], _ => rfl)); (case a => k_is); (case l => k_is); (case c => k_is); (case k => k_is))
      (case d_is_number_of_steps => (refine' Ft.def_f ?a ?l ?c ?k (fun _ _ _ _ _ _ us hl => match us, hl with | [_], _ => rfl)); (case a => k_is); (case l => k_is); (case c => k_is); (case k => k_is))
      (case d_is_row_to_order => (refine' Ft.def_f ?a ?l ?c ?k (fun _ _ _ _ _ _ us hl => match us, hl with | [_], _ => rfl)); (case a => k_is); (case l => k_is); (case c => k_is); (case k => k_is))
      (case d_is_row_of_sides => (refine' Ft.def_f ?a ?l ?c ?k (fun _ _ _ _ _ _ us hl => match us, hl with | [_], _ => rfl)); (case a => k_is); (case l => k_is); (case c => k_is); (case k => k_is))
      (case d_answer_begin => (refine' Ft.def_f ?a ?l ?c ?k (fun _ _ _ _ _ _ us hl => match us, hl with | [_, _, _], _ => rfl)); (case a => k_is); (case l => k_is); (case c => k_is); (case k => k_is))
      (case d_answer_put => (refine' Ft.def_f ?a ?l ?c ?k (fun _ _ _ _ _ _ us hl => match us, hl with | [_, _, _], _ => rfl)); (case a => k_is); (case l => k_is); (case c => k_is); (case k => k_is))
      (case d_answer_row => (refine' Ft.def_f ?a ?l ?c ?k (fun _ _ _ _ _ _ us hl => match us, hl with | [_, _, _, _], _ => rfl)); (case a => k_is); (case l => k_is); (case c => k_is); (case k => k_is))
      (case d_answer_lead => (refine' Ft.def_f ?a ?l ?c ?k (fun _ _ _ _ _ _ us hl => match us, hl with | [_, _], _ => rfl)); (case a => k_is); (case l => k_is); (case c => k_is); (case k => k_is))
      (case d_answer_order => (refine' Ft.def_f ?a ?l ?c ?k (fun _ _ _ _ _ _ us hl => match us, hl with | [_, _], _ => rfl)); (case a => k_is); (case l => k_is); (case c => k_is); (case k => k_is))
      (case d_answer_fits => (refine' Ft.def_f ?a ?l ?c ?k (fun _ _ _ _ _ _ us hl => match us, hl with | [_, _], _ => rfl)); (case a => k_is); (case l => k_is); (case c => k_is); (case k => k_is))
      (case d_answer_holds => (refine' Ft.def_f ?a ?l ?c ?k (fun _ _ _ _ _ _ us hl => match us, hl with | [_, _], _ => rfl)); (case a => k_is); (case l => k_is); (case c => k_is); (case k => k_is))
      (case d_answer_comes => (refine' Ft.def_f ?a ?l ?c ?k (fun _ _ _ _ _ _ us hl => match us, hl with | [_, _], _ => rfl)); (case a => k_is); (case l => k_is); (case c => k_is); (case k => k_is))
      (case d_answer_count => (refine' Ft.def_f ?a ?l ?c ?k (fun _ _ _ _ _ _ us hl => match us, hl with | [_, _], _ => rfl)); (case a => k_is); (case l => k_is); (case c => k_is); (case k => k_is))
      (case d_answer_laps => (refine' Ft.def_f ?a ?l ?c ?k (fun _ _ _ _ _ _ us hl => match us, hl with | [_, _], _ => rfl)); (case a => k_is); (case l => k_is); (case c => k_is); (case k => k_is))
      (case d_answer_rounds => (refine' Ft.def_f ?a ?l ?c ?k (fun _ _ _ _ _ _ us hl => match us, hl with | [_, _], _ => rfl)); (case a => k_is); (case l => k_is); (case c => k_is); (case k => k_is))
      (case d_answer_round_of => (refine' Ft.def_f ?a ?l ?c ?k (fun _ _ _ _ _ _ us hl => match us, hl with | [_, _, _], _ => rfl)); (case a => k_is); (case l => k_is); (case c => k_is); (case k => k_is))
      (case d_answer_inner => (refine' Ft.def_f ?a ?l ?c ?k (fun _ _ _ _ _ _ us hl => match us, hl with | [_], _ => rfl)); (case a => k_is); (case l => k_is); (case c => k_is); (case k => k_is))
      (case d_answer_state => (refine' Ft.def_f ?a ?l ?c ?k (fun _ _ _ _ _ _ us hl => match us, hl with | [_], _ => rfl)); (case a => k_is); (case l => k_is); (case c => k_is); (case k => k_is))
      (case d_answer_begun => (refine' Ft.def_f ?a ?l ?c ?k (fun _ _ _ _ _ _ us hl => match us, hl with | [_, _], _ => rfl)); (case a => k_is); (case l => k_is); (case c => k_is); (case k => k_is))
      (case d_answer_call => (refine' Ft.def_f ?a ?l ?c ?k (fun _ _ _ _ _ _ us hl => match us, hl with | [_, _], _ => rfl)); (case a => k_is); (case l => k_is); (case c => k_is); (case k => k_is))
      (case d_answers => (refine' Ft.def_f ?a ?l ?c ?k (fun _ _ _ _ _ _ us hl => match us, hl with | [_], _ => rfl)); (case a => k_is); (case l => k_is); (case c => k_is); (case k => k_is))
      (case i_LESS => (refine' Ft.int_f ?a); (case a => k_is))
      (case i_ALIKE => (refine' Ft.int_f ?a); (case a => k_is))
      (case i_GREATER => (refine' Ft.int_f ?a); (case a => k_is))
      (case i_LEFT => (refine' Ft.int_f ?a); (case a => k_is))
      (case i_RIGHT => (refine' Ft.int_f ?a); (case a => k_is))
      (case i_NOT_BEGUN => (refine' Ft.int_f ?a); (case a => k_is))
      (case i_NOT_AS_TOLD => (refine' Ft.int_f ?a); (case a => k_is))
      (case i_TOO_MANY => (refine' Ft.int_f ?a); (case a => k_is))
      (case i_THERE_IS_NONE => (refine' Ft.int_f ?a); (case a => k_is))
      (case i_MOST_B => (refine' Ft.int_f ?a); (case a => k_is))
      (case i_MOST_Q => (refine' Ft.int_f ?a); (case a => k_is))
      (case i_MOST_LETTERS => (refine' Ft.int_f ?a); (case a => k_is))
      (case i_MOST_STEPS => (refine' Ft.int_f ?a); (case a => k_is))
      (case i_BEGIN => (refine' Ft.int_f ?a); (case a => k_is))
      (case i_PUT => (refine' Ft.int_f ?a); (case a => k_is))
      (case i_ROW => (refine' Ft.int_f ?a); (case a => k_is))
      (case i_LEAD => (refine' Ft.int_f ?a); (case a => k_is))
      (case i_ORDER => (refine' Ft.int_f ?a); (case a => k_is))
      (case i_FITS => (refine' Ft.int_f ?a); (case a => k_is))
      (case i_COUNT => (refine' Ft.int_f ?a); (case a => k_is))
      (case i_HOLDS => (refine' Ft.int_f ?a); (case a => k_is))
      (case i_LAPS => (refine' Ft.int_f ?a); (case a => k_is))
      (case i_COMES => (refine' Ft.int_f ?a); (case a => k_is))
      (case i_ROUNDS => (refine' Ft.int_f ?a); (case a => k_is))
      (case i_ROUND_OF => (refine' Ft.int_f ?a); (case a => k_is))
      (case i_INNER => (refine' Ft.int_f ?a); (case a => k_is))
      (case b_len => k_is)
      (case b_min => k_is)
      (case b_range => k_is)
      (case b_sum => k_is)
      (case b_all => k_is)
      (case b_list => k_is)
      (case b_reversed => k_is)
      (case t_HOW_MANY_NUMBERS => (refine' Ft.tup_f ?a ?l ?z ?v); (case a => k_is); (case l => k_is); (case z => decide); (case v => exact (.cons ⟨_, rfl⟩ (.cons ⟨_, rfl⟩ (.cons ⟨_, rfl⟩ (.cons ⟨_, rfl⟩ (.cons ⟨_, rfl⟩ (.cons ⟨_, rfl⟩ (.cons ⟨_, rfl⟩ (.cons ⟨_, rfl⟩ (.cons ⟨_, rfl⟩ (.cons ⟨_, rfl⟩ (.cons ⟨_, rfl⟩ (.cons ⟨_, rfl⟩ (.cons ⟨_, rfl⟩ (.cons ⟨_, rfl⟩ (.nil)))))))))))))))))
      (case t_HOW_MANY_ROWS => (refine' Ft.tup_f ?a ?l ?z ?v); (case a => k_is); (case l => k_is); (case z => decide); (case v => exact (.cons ⟨_, rfl⟩ (.cons ⟨_, rfl⟩ (.cons ⟨_, rfl⟩ (.cons ⟨_, rfl⟩ (.cons ⟨_, rfl⟩ (.cons ⟨_, rfl⟩ (.cons ⟨_, rfl⟩ (.cons ⟨_, rfl⟩ (.cons ⟨_, rfl⟩ (.cons ⟨_, rfl⟩ (.cons ⟨_, rfl⟩ (.cons ⟨_, rfl⟩ (.cons ⟨_, rfl⟩ (.cons ⟨_, rfl⟩ (.nil)))))))))))))))))
      (case k_Call => (refine' Ft.cls_f3 ?nm ?pg ?hd ?po ?sa ?mk ?fi ?isf ?kc ?n0 ?n1 ?n2 ?l ?c ?k (fun _ _ _ _ _ _ us hl => match us, hl with | [_, _, _, _], _ => rfl)); (case nm => k_is); (case pg => k_is); (case hd => k_is); (case po => k_is); (case sa => k_is); (case mk => k_is); (case fi => k_is); (case isf => k_is); (case kc => k_is); (case n0 => k_is); (case n1 => k_is); (case n2 => k_is); (case l => k_is); (case c => k_is); (case k => k_is))
      (case k_Tent => (refine' Ft.cls_f2 ?nm ?pg ?hd ?po ?sa ?mk ?fi ?isf ?kc ?n0 ?n1 ?l ?c ?k (fun _ _ _ _ _ _ us hl => match us, hl with | [_], _ => rfl)); (case nm => k_is); (case pg => k_is); (case hd => k_is); (case po => k_is); (case sa => k_is); (case mk => k_is); (case fi => k_is); (case isf => k_is); (case kc => k_is); (case n0 => k_is); (case n1 => k_is); (case l => k_is); (case c => k_is); (case k => k_is))
  case S =>
    intro K H xs a hO hwi hask hx
    cases hx with
    | cons h1 h2 =>
      cases h2
      cases h1 with
      | lst hs ha =>
        have e := L2.ints_dw a.1 _ ha
        subst e
        have hq : PySu185.answers_asked a.1 = true := hask
        obtain ⟨raw, r1, r2, r3, r4, r5⟩ := Ft.asked_of hq
        exact ⟨H, ((⟨a.1⟩ : Ft.Scr K), ()), PySu185.answers a.1, L2.Same.refl H, ⟨_, _, rfl, ⟨_, rfl, hs⟩, rfl⟩, ⟨raw, r1, r2, r3, r4, r5⟩, fun v Hv H2 at' r => by
          obtain ⟨p, vs, rfl, hp, ra⟩ := r
          have e := Ft.all2_int ra
          subst e
          exact .lst (L2.SqL.of (at'.inn _ _ hp)) (L2.dw_ints _)⟩

