/- Derivatives of products; polynomials of the same values; what is moved there and back. -/
import Derived.Test.YtigkehblnlghkaaGreatPolN
namespace Go.Proofs.YtigkehblnlghkaaGreat.Sym
open Go.RowKit
/-- The numbers of a derivative. -/
def drv (z : Nat → Int) (i : Nat) : Int := ((i : Int) + 1) * z (i + 1)
theorem conv_drv : ∀ (p : Nat) (f g : Nat → Int), drv (conv f g) p = conv (drv f) g p + conv f (drv g) p
  | 0, f, g => by simp [conv, drv]; omega
  | p + 1, f, g => by
    have h := conv_drv p (fun x => f (x + 1)) g
    have e : (fun x => drv f (x + 1)) = fun x => drv (fun y => f (y + 1)) x + f (x + 1 + 1) := funext fun x => by
      simp only [drv]; push_cast; grind
    have h2 : conv (drv f) g (p + 1) = drv f 0 * g (p + 1) + conv (fun x => drv f (x + 1)) g p := rfl
    rw [e, conv_addL p (drv fun y => f (y + 1)) (fun x => f (x + 1 + 1)) g] at h2
    have h3 : conv f (drv g) (p + 1) = f 0 * drv g (p + 1) + conv (fun x => f (x + 1)) (drv g) p := rfl
    have h4 : conv (fun x => f (x + 1)) g (p + 1) = f (0 + 1) * g (p + 1) + conv (fun x => f (x + 1 + 1)) g p := rfl
    have h5 : conv f g (p + 1 + 1) = f 0 * g (p + 1 + 1) + conv (fun x => f (x + 1)) g (p + 1) := rfl
    rw [h2, h3]
    unfold drv at h ⊢
    rw [h5]
    push_cast at h ⊢
    grind
/-- A polynomial that is 0 at all places from 1 on has no number but 0. -/
theorem hV_zero : ∀ (n : Nat) (z : Nat → Int), (∀ x : Int, 1 ≤ x → hV x 1 n z = 0) → ∀ i, i < n → z i = 0
  | 0, _, _, i, hi => by omega
  | n + 1, z, h, i, hi => by
    have h0 : z 0 = 0 := by
      have h1 := h ((z 0).natAbs + 1) (by omega)
      simp only [hV, Int.one_pow, Int.mul_one] at h1
      have h2 : ((z 0).natAbs + 1 : Int) ∣ z 0 := ⟨-hV ((z 0).natAbs + 1) 1 n fun i => z (i + 1), by rw [Int.mul_neg]; omega⟩
      exact Int.eq_zero_of_dvd_of_natAbs_lt_natAbs h2 (by omega)
    cases i with
    | zero => exact h0
    | succ i =>
      refine hV_zero n (fun i => z (i + 1)) (fun x hx => ?_) i (by omega)
      have h1 := h x hx
      simp only [hV, Int.one_pow, Int.mul_one] at h1
      rw [h0, Int.zero_add] at h1
      rcases Int.mul_eq_zero.1 h1 with h2 | h2
      · omega
      · exact h2
/-- Two polynomials of the same values have the same numbers. -/
theorem ev_inj {n : Nat} {z y : Nat → Int} (h : ∀ x : Rat, ev x n z = ev x n y) (i : Nat) (hi : i < n) : z i = y i := by
  have h0 := hV_zero n (fun i => z i + -1 * y i) (fun x _ => by
    have h1 := hV_ev (u := x) (d := 1) (x := (x : Rat)) (by push_cast; grind) n (fun i => z i + -1 * y i)
    rw [ev_add n z (fun i => -1 * y i), ev_mul (-1) n y, h (x : Rat)] at h1
    have h2 : ((hV x 1 n (fun i => z i + -1 * y i) : Int) : Rat) = 0 := by
      push_cast at h1
      rw [Rat.mul_one] at h1
      rw [h1]; grind
    exact_mod_cast h2) i hi
  have h1 : z i + -1 * y i = 0 := h0
  omega
theorem shS_top {c : Nat → Int} {u : Int} {m : Nat} (hm : 0 < m) : ∀ j, j ≤ m → shS c u m j (m - 1) = c (m - 1)
  | 0, _ => rfl
  | j + 1, h => by
    have h1 := shS_top (c := c) (u := u) hm j (by omega)
    simp only [shS]
    split
    · exact h1
    · rw [show m - (m - 1) = 0 + 1 by omega]
      simp only [hsum]
      rw [h1]; omega
/-- A polynomial that is moved keeps its length. -/
theorem tl_mvL {d : Int} (hd : d ≠ 0) (z : Nat → Int) (n : Nat) (u : Int) : tl (coef (mvL z n u d)) (mvL z n u d).length = tl z n := by
  rcases Nat.eq_zero_or_pos (tl z n) with h0 | h0
  · have := tl_le (coef (mvL z n u d)) (mvL z n u d).length
    rw [mvL_length] at this ⊢
    omega
  · have h1 : coef (mvL z n u d) (tl z n - 1) ≠ 0 := by
      rw [coef_mvL (by omega)]
      unfold mvS
      rw [shS_top h0 _ (Nat.le_refl _)]
      unfold wdC
      rw [Nat.sub_self, Int.pow_zero, Int.mul_one]
      exact Int.mul_ne_zero (tl_last z n h0) (Int.pow_ne_zero hd)
    obtain ⟨m, hm⟩ : ∃ m, tl z n = m + 1 := ⟨tl z n - 1, by omega⟩
    rw [mvL_length, hm]
    rw [hm, Nat.add_sub_cancel] at h1
    rw [tl, if_neg h1]
/-- Moved there and back it is a multiple of itself. -/
theorem mvL_back {d : Int} (hd : d ≠ 0) (z : Nat → Int) (n : Nat) (u : Int) (i : Nat) : coef (mvL (coef (mvL z n u d)) (mvL z n u d).length (-u) d) i = d ^ (2 * (tl z n - 1)) * upto n z i := by
  have h0 : (d : Rat) ≠ 0 := by exact_mod_cast hd
  have ht := tl_mvL hd z n u
  have hlen : (mvL (coef (mvL z n u d)) (mvL z n u d).length (-u) d).length = tl z n := by rw [mvL_length, ht]
  have hle := tl_le z n
  have hv : ∀ x : Rat, ev x n (coef (mvL (coef (mvL z n u d)) (mvL z n u d).length (-u) d)) = ev x n (fun i => d ^ (2 * (tl z n - 1)) * z i) := fun x => by
    have h1 := ev_mvL hd x (coef (mvL z n u d)) (mvL z n u d).length (-u)
    rw [ev_mvL hd (x + (-u : Int) / d) z n u, ht, hlen] at h1
    rw [ev_to (n := tl z n) (fun i hi => coef_out (by rw [hlen]; exact hi)) hle, h1, ev_mul (d ^ (2 * (tl z n - 1))) n z]
    have e : x + (-u : Int) / (d : Rat) + u / d = x := by push_cast; grind
    rw [e, Nat.two_mul, Int.pow_add]
    push_cast
    grind
  rcases Nat.lt_or_ge i n with hi | hi
  · rw [ev_inj hv i hi, upto_lt hi]
  · rw [upto_out hi, Int.mul_zero, coef_out (by omega)]
end Go.Proofs.YtigkehblnlghkaaGreat.Sym
