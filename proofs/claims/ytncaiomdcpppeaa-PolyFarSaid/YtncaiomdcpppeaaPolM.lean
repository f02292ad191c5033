/- Bounds of Horner's sums; their signs far out. -/
import Derived.Test.YtncaiomdcpppeaaPolZ
namespace Go.Proofs.Ytncaiomdcpppeaa.Sym
open Go.RowKit
theorem Bd.add1 {A B i : Nat} (h : Bd A i) (k : Bd B i) : Bd (A + B) (i + 1) := by
  unfold Bd at *
  rw [Nat.pow_succ]
  generalize 4294967296 ^ i = M at *
  omega
theorem Bd.pow1 {A k : Nat} (h : Bd A k) : ∀ j, Bd (A ^ j) (j * k + 1)
  | 0 => by rw [Nat.pow_zero, Nat.zero_mul]; show 1 < _; decide
  | j + 1 => by
    rw [Nat.pow_succ, Nat.succ_mul, show j * k + k + 1 = (j * k + 1) + k by omega]
    exact Bd.mul (Bd.pow1 h j) h
theorem hN_bd {z : Nat → Int} {m k kt : Nat} {u d : Int} (hm : 0 < m) (hz : ∀ i, i < m → Bd (z i).natAbs k) (hu : Bd u.natAbs kt) (hd : Bd d.natAbs kt) : ∀ j, Bd (hN z m u d j).natAbs (k + j * (kt + 1) + 1)
  | 0 => by
    simp only [hN]
    rw [if_neg (by omega)]
    exact (hz _ (by omega)).more (by omega)
  | j + 1 => by
    have h1 := Bd.mul (hN_bd hm hz hu hd j) hu
    have h2 := Bd.mul (hz (m - 2 - j) (by omega)) (Bd.pow1 hd (j + 1))
    have h3 : j * (kt + 1) = j * kt + j := by rw [Nat.mul_add, Nat.mul_one]
    have h4 : (j + 1) * (kt + 1) = j * kt + j + kt + 1 := by rw [Nat.succ_mul, h3]; omega
    have h5 : (j + 1) * kt = j * kt + kt := Nat.succ_mul _ _
    rw [h3] at h1
    rw [h5] at h2
    have h6 := Bd.add1 h1 (h2.more (j := k + (j * kt + j) + 1 + kt) (by omega))
    rw [← Int.natAbs_mul, ← Int.natAbs_pow, ← Int.natAbs_mul] at h6
    rw [h4]
    refine (h6.le ?_).more (by omega)
    simp only [hN]
    exact Int.natAbs_add_le _ _
theorem key_mul {f x : Int} (hf : 0 ≤ f) (hx : 1 ≤ x) : f ≤ x * f := by
  have := Int.mul_le_mul_of_nonneg_right hx hf
  omega
/-- Far out each of Horner's sums has the sign that the leading number gives it. -/
theorem far_step {z : Nat → Int} {m : Nat} {f e s : Int} (he : e = 1 ∨ e = -1) (hs : s = 1 ∨ s = -1) (hf : ∀ i, i < m → ((z i).natAbs : Int) + 1 ≤ f) (hm : 0 < m) (h0 : 1 ≤ s * z (m - 1)) : ∀ j, ∃ a : Int, (a = 1 ∨ a = -1) ∧ a = (if j % 2 = 0 then s else s * e) ∧ 1 ≤ a * hN z m (f * e) 1 j
  | 0 => ⟨s, hs, rfl, by simp only [hN]; rw [if_neg (by omega)]; exact h0⟩
  | j + 1 => by
    obtain ⟨a, ha, h1, h2⟩ := far_step he hs hf hm h0 j
    have hz := hf (m - 2 - j) (by omega)
    refine ⟨a * e, by rcases ha with rfl | rfl <;> rcases he with rfl | rfl <;> simp, ?_, ?_⟩
    · rw [h1]
      by_cases hj : j % 2 = 0
      · rw [if_pos hj, if_neg (by omega)]
      · rw [if_neg hj, if_pos (by omega)]
        rcases he with rfl | rfl <;> omega
    · simp only [hN, Int.one_pow, Int.mul_one]
      have k1 := fun hx => key_mul (f := f) (x := hN z m (f * e) 1 j) (by omega) hx
      have k2 := fun hx => key_mul (f := f) (x := -hN z m (f * e) 1 j) (by omega) hx
      rw [Int.neg_mul] at k2
      generalize hN z m (f * e) 1 j = x at *
      generalize z (m - 2 - j) = y at *
      rcases ha with rfl | rfl <;> rcases he with rfl | rfl <;> simp only [Int.mul_one, Int.one_mul, Int.mul_neg, Int.neg_mul, Int.neg_neg] at * <;> omega
theorem cmpI_sign {a x : Int} (ha : a = 1 ∨ a = -1) (h : 1 ≤ a * x) : cmpI x 0 = a := by
  unfold cmpI
  rcases ha with rfl | rfl
  · rw [if_neg (by omega), if_neg (by omega)]
  · rw [if_pos (by omega)]
theorem sign_cmpI {x : Int} (h : x ≠ 0) : (cmpI x 0 = 1 ∨ cmpI x 0 = -1) ∧ 1 ≤ cmpI x 0 * x := by
  unfold cmpI
  rcases Int.lt_trichotomy x 0 with h1 | h1 | h1
  · rw [if_pos h1]; omega
  · exact absurd h1 h
  · rw [if_neg (by omega), if_neg h]; omega
theorem ld_top {z : Nat → Int} {n : Nat} (h : 0 < tl z n) : ldZ z (tl z n) = z (tl z n - 1) := by
  unfold ldZ
  rw [tl_idem, if_neg (by omega)]
theorem far_plus {z : Nat → Int} {n : Nat} {f : Int} (hf : ∀ i, i < tl z n → ((z i).natAbs : Int) + 1 ≤ f) (h : 0 < tl z n) : cmpI (hN z (tl z n) f 1 (tl z n - 1)) 0 = eSg z n := by
  obtain ⟨hs, h0⟩ := sign_cmpI (tl_last z n h)
  obtain ⟨a, ha, h1, h2⟩ := far_step (e := 1) (.inl rfl) hs hf h h0 (tl z n - 1)
  rw [Int.mul_one] at h2
  rw [cmpI_sign ha h2, h1, eSg, ld_top h, Int.mul_one]
  split <;> rfl
theorem far_minus {z : Nat → Int} {n : Nat} {f : Int} (hf : ∀ i, i < tl z n → ((z i).natAbs : Int) + 1 ≤ f) (h : 0 < tl z n) : cmpI (hN z (tl z n) (-f) 1 (tl z n - 1)) 0 = eMin z n := by
  obtain ⟨hs, h0⟩ := sign_cmpI (tl_last z n h)
  obtain ⟨a, ha, h1, h2⟩ := far_step (e := -1) (.inr rfl) hs hf h h0 (tl z n - 1)
  rw [Int.mul_neg, Int.mul_one] at h2
  rw [cmpI_sign ha h2, h1, eMin, eSg, ld_top h]
  by_cases ho : tl z n % 2 = 0
  · rw [if_neg (by omega), if_pos ⟨ho, h⟩]; omega
  · rw [if_pos (by omega), if_neg (by omega)]
/-- 1 and the sum of the sizes. -/
def fS (z : Nat → Int) : Nat → Int
  | 0 => 1
  | j + 1 => fS z j + ((z j).natAbs : Int)
theorem fS_pos (z : Nat → Int) : ∀ j, 1 ≤ fS z j
  | 0 => Int.le_refl 1
  | j + 1 => by have := fS_pos z j; simp only [fS]; omega
theorem fS_le {z : Nat → Int} : ∀ {n i : Nat}, i < n → ((z i).natAbs : Int) + 1 ≤ fS z n
  | 0, i, h => by omega
  | n + 1, i, h => by
    simp only [fS]
    rcases Nat.lt_or_ge i n with h1 | h1
    · have := fS_le (z := z) h1; omega
    · obtain rfl : i = n := by omega
      have := fS_pos z i; omega
theorem fS_bd {z : Nat → Int} {C : Nat} : ∀ {n : Nat}, (∀ i, i < n → (z i).natAbs ≤ C) → fS z n ≤ 1 + ((n * C : Nat) : Int)
  | 0, _ => by simp [fS]
  | n + 1, h => by
    have h1 := fS_bd (n := n) fun i hi => h i (by omega)
    have h2 := h n (by omega)
    simp only [fS]
    rw [Nat.succ_mul]
    omega
end Go.Proofs.Ytncaiomdcpppeaa.Sym
