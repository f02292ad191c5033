/- Several steps of Euclid foreseen by windows (Lehmer, Collins's condition): the arithmetic, with no program. -/
import GoSem.Claim
namespace Go.Proofs.Ytmmmpdpgkjcohaa

/-- What some steps of Euclid come to, by sizes: the windows x0, y0 have become x, y; e says whether the number of steps is odd. -/
structure Turned (x0 y0 : Nat) (e : Bool) (P Q R U x y : Nat) : Prop where
  hx : x0 = U * x + Q * y
  hy : y0 = R * x + P * y
  det : if e then Q * R = P * U + 1 else P * U = Q * R + 1
theorem Turned.start (x y : Nat) : Turned x y false 1 0 0 1 x y := ⟨by simp, by simp, by simp⟩
theorem Turned.step {x0 y0 P Q R U x y : Nat} {e : Bool} (h : Turned x0 y0 e P Q R U x y) : Turned x0 y0 (!e) R U (P + x / y * R) (Q + x / y * U) y (x % y) := by
  have e1 := Nat.div_add_mod x y
  obtain ⟨hx, hy, hd⟩ := h
  generalize x / y = q at *
  generalize x % y = r at *
  subst e1
  refine ⟨?_, ?_, ?_⟩
  · rw [hx]; grind
  · rw [hy]; grind
  · cases e <;> simp only [Bool.not_true, Bool.not_false, if_true, if_false, Bool.false_eq_true] at hd ⊢ <;> grind
/-- The factors behind at least one step: those of the first number are not the greater ones. -/
theorem step_le {P Q R U q : Nat} (h1 : P ≤ Q) (h2 : R ≤ U) : P + q * R ≤ Q + q * U := Nat.add_le_add h1 (Nat.mul_le_mul_left q h2)
/-- What the windows say of the factors' sizes. -/
theorem Turned.size {x0 y0 P Q R U x y : Nat} {e : Bool} (h : Turned x0 y0 e P Q R U x y) (hx : 0 < x) : U ≤ x0 := by
  rw [h.hx]
  exact Nat.le_trans (Nat.le_mul_of_pos_right U hx) (Nat.le_add_right _ _)
theorem Turned.small {x0 y0 P Q R U x y n : Nat} {e : Bool} (h : Turned x0 y0 e P Q R U x y) (hU : U ≤ y) (hxy : y ≤ x) (hn : x0 < n * n) : U < n := by
  have h1 : U * U ≤ x0 := by
    rw [h.hx]
    exact Nat.le_trans (Nat.mul_le_mul_left U (Nat.le_trans hU hxy)) (Nat.le_add_right _ _)
  rcases Nat.lt_or_ge U n with h2 | h2
  · exact h2
  · have := Nat.mul_le_mul h2 h2
    omega

/-- The numbers themselves behind the same steps (A, B begin with the windows: s digits more). -/
theorem Turned.numbers {x0 y0 P Q R U x y S α β : Nat} {e : Bool} (h : Turned x0 y0 e P Q R U x y) (hα : α < S) (hβ : β < S) (hPQ : P ≤ Q) (hRU : R ≤ U) (h1 : U ≤ y) (h2 : y + (U + Q) ≤ x) :
    ∃ A' B' : Nat, x0 * S + α = U * A' + Q * B' ∧ y0 * S + β = R * A' + P * B' ∧ B' ≤ A' ∧
      (A' : Int) = (if e then -1 else 1) * ((P : Int) * (x0 * S + α : Nat) - (Q : Int) * (y0 * S + β : Nat)) ∧ (B' : Int) = (if e then -1 else 1) * ((U : Int) * (y0 * S + β : Nat) - (R : Int) * (x0 * S + α : Nat)) := by
  obtain ⟨hx, hy, hd⟩ := h
  have bQ : Q * β ≤ Q * S := Nat.mul_le_mul_left Q (by omega)
  have bU : U * β ≤ U * S := Nat.mul_le_mul_left U (by omega)
  have bP : P * α ≤ Q * S := Nat.mul_le_mul hPQ (by omega)
  have bR : R * α ≤ U * S := Nat.mul_le_mul hRU (by omega)
  have bu : U * S ≤ y * S := Nat.mul_le_mul_right S h1
  have bx : (y + (U + Q)) * S ≤ x * S := Nat.mul_le_mul_right S h2
  rw [Nat.add_mul, Nat.add_mul] at bx
  cases e
  · simp only [Bool.false_eq_true, if_false] at hd ⊢
    obtain ⟨A', hA⟩ : ∃ A' : Nat, A' + Q * β = x * S + P * α := ⟨x * S + P * α - Q * β, by omega⟩
    obtain ⟨B', hB⟩ : ∃ B' : Nat, B' + R * α = y * S + U * β := ⟨y * S + U * β - R * α, by omega⟩
    have k1 : (A' : Int) = x * S + P * α - Q * β := by have : ((A' + Q * β : Nat) : Int) = (x * S + P * α : Nat) := by rw [hA]
                                                       push_cast at this; omega
    have k2 : (B' : Int) = y * S + U * β - R * α := by have : ((B' + R * α : Nat) : Int) = (y * S + U * β : Nat) := by rw [hB]
                                                       push_cast at this; omega
    have k3 : (x0 : Int) = U * x + Q * y := by rw [hx]; push_cast; rfl
    have k4 : (y0 : Int) = R * x + P * y := by rw [hy]; push_cast; rfl
    have k5 : (P : Int) * U = Q * R + 1 := by have : ((P * U : Nat) : Int) = (Q * R + 1 : Nat) := by rw [hd]
                                              push_cast at this; exact this
    refine ⟨A', B', ?_, ?_, ?_, ?_, ?_⟩
    · have : ((x0 * S + α : Nat) : Int) = (U * A' + Q * B' : Nat) := by push_cast; rw [k1, k2, k3]; grind
      omega
    · have : ((y0 * S + β : Nat) : Int) = (R * A' + P * B' : Nat) := by push_cast; rw [k1, k2, k4]; grind
      omega
    · omega
    · push_cast; rw [k1, k3, k4]; grind
    · push_cast; rw [k2, k3, k4]; grind
  · simp only [if_true] at hd ⊢
    obtain ⟨A', hA⟩ : ∃ A' : Nat, A' + P * α = x * S + Q * β := ⟨x * S + Q * β - P * α, by omega⟩
    obtain ⟨B', hB⟩ : ∃ B' : Nat, B' + U * β = y * S + R * α := ⟨y * S + R * α - U * β, by omega⟩
    have k1 : (A' : Int) = x * S + Q * β - P * α := by have : ((A' + P * α : Nat) : Int) = (x * S + Q * β : Nat) := by rw [hA]
                                                       push_cast at this; omega
    have k2 : (B' : Int) = y * S + R * α - U * β := by have : ((B' + U * β : Nat) : Int) = (y * S + R * α : Nat) := by rw [hB]
                                                       push_cast at this; omega
    have k3 : (x0 : Int) = U * x + Q * y := by rw [hx]; push_cast; rfl
    have k4 : (y0 : Int) = R * x + P * y := by rw [hy]; push_cast; rfl
    have k5 : (Q : Int) * R = P * U + 1 := by have : ((Q * R : Nat) : Int) = (P * U + 1 : Nat) := by rw [hd]
                                              push_cast at this; exact this
    refine ⟨A', B', ?_, ?_, ?_, ?_, ?_⟩
    · have : ((x0 * S + α : Nat) : Int) = (U * A' + Q * B' : Nat) := by push_cast; rw [k1, k2, k3]; grind
      omega
    · have : ((y0 * S + β : Nat) : Int) = (R * A' + P * B' : Nat) := by push_cast; rw [k1, k2, k4]; grind
      omega
    · omega
    · push_cast; rw [k1, k3, k4]; grind
    · push_cast; rw [k2, k3, k4]; grind

/-- The greatest common divisor is not touched by such steps. -/
theorem gcd_turned {A B A' B' P Q R U : Nat} {e : Bool} (h1 : A = U * A' + Q * B') (h2 : B = R * A' + P * B')
    (h3 : (A' : Int) = (if e then -1 else 1) * ((P : Int) * A - (Q : Int) * B)) (h4 : (B' : Int) = (if e then -1 else 1) * ((U : Int) * B - (R : Int) * A)) : Nat.gcd A B = Nat.gcd A' B' := by
  apply Nat.dvd_antisymm
  · have dA : (Nat.gcd A B : Int) ∣ A := Int.natCast_dvd_natCast.2 (Nat.gcd_dvd_left A B)
    have dB : (Nat.gcd A B : Int) ∣ B := Int.natCast_dvd_natCast.2 (Nat.gcd_dvd_right A B)
    refine Nat.dvd_gcd ?_ ?_
    · refine Int.natCast_dvd_natCast.1 ?_
      rw [h3]
      exact Int.dvd_mul_of_dvd_right (Int.dvd_sub (Int.dvd_mul_of_dvd_right dA) (Int.dvd_mul_of_dvd_right dB))
    · refine Int.natCast_dvd_natCast.1 ?_
      rw [h4]
      exact Int.dvd_mul_of_dvd_right (Int.dvd_sub (Int.dvd_mul_of_dvd_right dB) (Int.dvd_mul_of_dvd_right dA))
  · have dA := Nat.gcd_dvd_left A' B'
    have dB := Nat.gcd_dvd_right A' B'
    refine Nat.dvd_gcd ?_ ?_
    · rw [h1]; exact Nat.dvd_add (Nat.dvd_mul_left_of_dvd dA U) (Nat.dvd_mul_left_of_dvd dB Q)
    · rw [h2]; exact Nat.dvd_add (Nat.dvd_mul_left_of_dvd dA R) (Nat.dvd_mul_left_of_dvd dB P)

end Go.Proofs.Ytmmmpdpgkjcohaa
