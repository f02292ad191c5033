/- Products of polynomials as sums of products: they ask for no order, nor for brackets. -/
import Derived.Test.YtigkehblnlghkaaGreatPolE
namespace Go.Proofs.YtigkehblnlghkaaGreat.Sym
open Go.RowKit
def conv (f g : Nat → Int) : Nat → Int
  | 0 => f 0 * g 0
  | p + 1 => f 0 * g (p + 1) + conv (fun x => f (x + 1)) g p
theorem conv_last : ∀ (p : Nat) (f g : Nat → Int), conv f g (p + 1) = conv f (fun x => g (x + 1)) p + f (p + 1) * g 0
  | 0, f, g => rfl
  | p + 1, f, g => by
    rw [conv, conv_last p (fun x => f (x + 1)) g]
    simp only [conv]
    omega
theorem conv_comm : ∀ (p : Nat) (f g : Nat → Int), conv f g p = conv g f p
  | 0, f, g => Int.mul_comm _ _
  | p + 1, f, g => by
    rw [conv, conv_last p g f, conv_comm p (fun x => f (x + 1)) g, Int.mul_comm (f 0)]
    omega
theorem conv_congr : ∀ {p : Nat} {f f' g g' : Nat → Int}, (∀ i, i ≤ p → f i = f' i) → (∀ i, i ≤ p → g i = g' i) → conv f g p = conv f' g' p
  | 0, _, _, _, _, hf, hg => by simp only [conv]; rw [hf 0 (Nat.le_refl _), hg 0 (Nat.le_refl _)]
  | p + 1, _, _, _, _, hf, hg => by
    simp only [conv]
    rw [hf 0 (by omega), hg (p + 1) (Nat.le_refl _), conv_congr (fun i hi => hf (i + 1) (by omega)) (fun i hi => hg i (by omega))]
theorem conv_mulL : ∀ (p : Nat) (c : Int) (f g : Nat → Int), conv (fun x => c * f x) g p = c * conv f g p
  | 0, c, f, g => Int.mul_assoc _ _ _
  | p + 1, c, f, g => by
    simp only [conv]
    rw [conv_mulL p, Int.mul_add, Int.mul_assoc]
theorem upto_coef (L : List Int) (i : Nat) : upto L.length (coef L) i = coef L i := by
  unfold upto
  split
  · rfl
  · exact (coef_out (by omega)).symm
theorem Bd.add1' {A B i : Nat} (h : Bd A i) (k : Bd B i) : Bd (A + B) (i + 1) := by
  unfold Bd at *
  rw [Nat.pow_succ]
  generalize 4294967296 ^ i = M at *
  omega
/-- Sums up to a place. -/
def sumTo (f : Nat → Int) : Nat → Int
  | 0 => 0
  | n + 1 => sumTo f n + f n
theorem sumTo_congr {f g : Nat → Int} : ∀ {n : Nat}, (∀ i, i < n → f i = g i) → sumTo f n = sumTo g n
  | 0, _ => rfl
  | n + 1, h => by simp only [sumTo]; rw [sumTo_congr fun i hi => h i (by omega), h n (by omega)]
theorem sumTo_more {f : Nat → Int} {n : Nat} : ∀ {k : Nat}, (∀ i, n ≤ i → i < n + k → f i = 0) → sumTo f (n + k) = sumTo f n
  | 0, _ => rfl
  | k + 1, h => by
    rw [show n + (k + 1) = (n + k) + 1 by omega, sumTo, sumTo_more fun i h1 h2 => h i h1 (by omega), h (n + k) (by omega) (by omega)]
    omega
theorem sumTo_first (f : Nat → Int) : ∀ n, sumTo f (n + 1) = f 0 + sumTo (fun i => f (i + 1)) n
  | 0 => by simp [sumTo]
  | n + 1 => by
    rw [sumTo, sumTo_first f n]
    simp only [sumTo]
    omega
theorem conv_sum : ∀ (p : Nat) (f g : Nat → Int), conv f g p = sumTo (fun x => f x * g (p - x)) (p + 1)
  | 0, f, g => by simp [conv, sumTo]
  | p + 1, f, g => by
    rw [conv, conv_sum p, sumTo_first (fun x => f x * g (p + 1 - x)) (p + 1)]
    refine congrArg (f 0 * g (p + 1) + ·) (sumTo_congr fun i _ => ?_)
    show f (i + 1) * g (p - i) = f (i + 1) * g (p + 1 - (i + 1))
    rw [Nat.add_sub_add_right]
theorem cvS_sum (z y : Nat → Int) (l p : Nat) : ∀ j, cvS z y l j p = sumTo (fun x => if x ≤ p ∧ p < x + l then z x * y (p - x) else 0) j
  | 0 => rfl
  | j + 1 => by rw [cvS, cvS_sum z y l p j]; rfl
theorem tl_out {z : Nat → Int} {n i : Nat} (h : tl z n ≤ i) : upto n z i = 0 := by
  unfold upto
  split
  · rename_i hi
    exact tl_zero z n i h hi
  · rfl
/-- The numbers that Mul leaves are those of the product. -/
theorem cvS_conv (z y : Nat → Int) (n m p : Nat) : cvS z y (tl y m) (tl z n) p = conv (upto n z) (upto m y) p := by
  rw [cvS_sum, conv_sum]
  have hz := tl_le z n
  have hy := tl_le y m
  have e1 : sumTo (fun x => if x ≤ p ∧ p < x + tl y m then z x * y (p - x) else 0) (tl z n) = sumTo (fun x => if x ≤ p then upto n z x * upto m y (p - x) else 0) (tl z n) := sumTo_congr fun x hx => by
    by_cases h1 : x ≤ p
    · rw [if_pos h1, upto_lt (by omega)]
      by_cases h2 : p < x + tl y m
      · rw [if_pos ⟨h1, h2⟩, upto_lt (by omega)]
      · rw [if_neg (fun h => h2 h.2), tl_out (by omega), Int.mul_zero]
    · rw [if_neg (fun h => h1 h.1), if_neg h1]
  have e2 : sumTo (fun x => upto n z x * upto m y (p - x)) (p + 1) = sumTo (fun x => if x ≤ p then upto n z x * upto m y (p - x) else 0) (p + 1) := sumTo_congr fun x hx => (if_pos (by omega)).symm
  rw [e1, e2]
  rcases Nat.le_total (tl z n) (p + 1) with h | h
  · have := sumTo_more (f := fun x => if x ≤ p then upto n z x * upto m y (p - x) else 0) (n := tl z n) (k := p + 1 - tl z n) fun i h1 _ => by
      rw [tl_out h1, Int.zero_mul]
      split <;> rfl
    rw [show tl z n + (p + 1 - tl z n) = p + 1 by omega] at this
    exact this.symm
  · have := sumTo_more (f := fun x => if x ≤ p then upto n z x * upto m y (p - x) else 0) (n := p + 1) (k := tl z n - (p + 1)) fun i h1 _ => if_neg (by omega)
    rw [show p + 1 + (tl z n - (p + 1)) = tl z n by omega] at this
    exact this
def mulL (z : Nat → Int) (n : Nat) (y : Nat → Int) (m : Nat) : List Int := if tl z n = 0 ∨ tl y m = 0 then [] else mk (tl z n + tl y m - 1) (cvS z y (tl y m) (tl z n))
theorem conv_zeroL : ∀ {f g : Nat → Int}, (∀ i, f i = 0) → ∀ p, conv f g p = 0
  | _, _, h, 0 => by simp only [conv]; rw [h, Int.zero_mul]
  | _, _, h, p + 1 => by
    simp only [conv]
    rw [h, Int.zero_mul, Int.zero_add, conv_zeroL (fun i => h (i + 1)) p]
theorem conv_out {f g : Nat → Int} {a b p : Nat} (hf : ∀ i, a ≤ i → f i = 0) (hg : ∀ i, b ≤ i → g i = 0) (h : a + b ≤ p + 1) : conv f g p = 0 := by
  rw [conv_sum, show p + 1 = 0 + (p + 1) by omega, sumTo_more (n := 0) fun i _ hi => ?_]
  · rfl
  · rcases Nat.lt_or_ge i a with h1 | h1
    · rw [hg _ (by omega), Int.mul_zero]
    · rw [hf _ h1, Int.zero_mul]
theorem coef_mul (z : Nat → Int) (n : Nat) (y : Nat → Int) (m p : Nat) : coef (mulL z n y m) p = conv (upto n z) (upto m y) p := by
  unfold mulL
  split
  · rename_i h
    rw [coef_out (by simp)]
    rcases h with h | h
    · exact (conv_zeroL (fun i => tl_out (by omega)) p).symm
    · rw [conv_comm]; exact (conv_zeroL (fun i => tl_out (by omega)) p).symm
  · rename_i h
    rw [coef_mk]
    split
    · exact cvS_conv z y n m p
    · exact (conv_out (a := tl z n) (b := tl y m) (fun i hi => tl_out hi) (fun i hi => tl_out hi) (by omega)).symm
theorem mulL_le (z : Nat → Int) (n : Nat) (y : Nat → Int) (m : Nat) : (mulL z n y m).length ≤ n + m := by
  have := tl_le z n
  have := tl_le y m
  unfold mulL
  split
  · simp
  · rw [mk_length]; omega
/-- The sizes on the way to a product. -/
theorem cvS_bd {z y : Nat → Int} {l k k' c n : Nat} (hz : ∀ i, i < n → Bd (z i).natAbs k) (hy : ∀ i, i < l → Bd (y i).natAbs k') : ∀ {j}, j ≤ n → j ≤ c → ∀ p, Bd (cvS z y l j p).natAbs (k + k' + j)
  | 0, _, _, p => Nat.pow_pos (by omega)
  | j + 1, h1, h2, p => by
    have h3 := cvS_bd (c := c) hz hy (j := j) (by omega) (by omega) p
    rw [cvS]
    have h4 : Bd (if j ≤ p ∧ p < j + l then z j * y (p - j) else 0).natAbs (k + k' + j) := by
      split
      · rw [Int.natAbs_mul]
        exact (Bd.mul (hz j (by omega)) (hy _ (by omega))).more (by omega)
      · exact Nat.pow_pos (by omega)
    exact (Bd.add1' h3 h4).le (Int.natAbs_add_le _ _)
theorem cvI_bd {z y : Nat → Int} {l k k' c n i : Nat} (hz : ∀ i, i < n → Bd (z i).natAbs k) (hy : ∀ i, i < l → Bd (y i).natAbs k') {j : Nat} (h1 : j < n) (h2 : n ≤ c) (hi : i ≤ l) (p : Nat) : Bd (cvI z y l j i p).natAbs (k + k' + c + 1) := by
  have h3 := cvS_bd (c := c) hz hy (j := j) (by omega) (by omega) p
  have h4 : Bd (if j ≤ p ∧ p < j + i then z j * y (p - j) else 0).natAbs (k + k' + j) := by
    split
    · rw [Int.natAbs_mul]
      exact (Bd.mul (hz j h1) (hy _ (by omega))).more (by omega)
    · exact Nat.pow_pos (by omega)
  exact ((Bd.add1' h3 h4).le (Int.natAbs_add_le _ _)).more (by omega)
end Go.Proofs.YtigkehblnlghkaaGreat.Sym
