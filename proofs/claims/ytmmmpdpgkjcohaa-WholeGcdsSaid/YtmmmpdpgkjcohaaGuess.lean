/- The guess of a quotient's digit off the topmost digits: it is the digit, or one more. Numbers alone. -/
import GoSem.Claim
namespace Go.Proofs.Ytmmmpdpgkjcohaa

theorem guess_lo {B E b1 b2 bl p0 p1 p2 pl q rest : Nat} (hpl : pl < E) (inv : q * b1 + rest = p0 * B + p1) (t : rest * B + p2 < q * b2) :
    ((p0 * B + p1) * B + p2) * E + pl < q * ((b1 * B + b2) * E + bl) := by
  have h1 : (q * b1) * (B * E) + rest * (B * E) = (p0 * B + p1) * (B * E) := by rw [← Nat.add_mul, inv]
  have h2 : (rest * B + p2 + 1) * E ≤ (q * b2) * E := Nat.mul_le_mul_right E t
  grind
theorem guess_hi1 {B E b1 b2 bl p0 p1 p2 pl q rest : Nat} (hbl : bl < E) (hb1 : 0 < b1) (hq : q < B) (inv : q * b1 + rest = p0 * B + p1) (t : q * b2 ≤ rest * B + p2) :
    q * ((b1 * B + b2) * E + bl) ≤ ((p0 * B + p1) * B + p2) * E + pl + ((b1 * B + b2) * E + bl) := by
  have h1 : (q * b1) * (B * E) + rest * (B * E) = (p0 * B + p1) * (B * E) := by rw [← Nat.add_mul, inv]
  have h2 : (q * b2) * E ≤ (rest * B + p2) * E := Nat.mul_le_mul_right E t
  have h3 : q * bl ≤ B * E := Nat.mul_le_mul (Nat.le_of_lt hq) (Nat.le_of_lt hbl)
  have h4 : 1 * (B * E) ≤ b1 * (B * E) := Nat.mul_le_mul_right _ hb1
  clear hbl hb1 hq inv t
  grind
theorem guess_hi2 {B E b1 b2 bl p0 p1 p2 pl q rest : Nat} (hbl : bl < E) (hb2 : b2 < B) (hq : q ≤ B) (hr : B ≤ rest) (inv : q * b1 + rest = p0 * B + p1) :
    q * ((b1 * B + b2) * E + bl) ≤ ((p0 * B + p1) * B + p2) * E + pl := by
  have h1 : (q * b1) * (B * E) + rest * (B * E) = (p0 * B + p1) * (B * E) := by rw [← Nat.add_mul, inv]
  have h2 : B * (B * E) ≤ rest * (B * E) := Nat.mul_le_mul_right _ hr
  have h3 : b2 * E + bl ≤ B * E := by
    have := Nat.mul_le_mul_right E (show b2 + 1 ≤ B from hb2)
    rw [Nat.add_mul] at this; omega
  have h4 : q * (b2 * E + bl) ≤ B * (B * E) := Nat.mul_le_mul hq h3
  clear hbl hb2 hq hr inv h3
  grind
theorem guess_start {B E b1 b2 bl p0 p1 p2 pl Q : Nat} (hpl : pl < E) (hp2 : p2 < B) (h : Q * ((b1 * B + b2) * E + bl) ≤ ((p0 * B + p1) * B + p2) * E + pl) (hb1 : 0 < b1) :
    Q ≤ (p0 * B + p1) / b1 := by
  rw [Nat.le_div_iff_mul_le hb1]
  have h1 : p2 * E + pl < B * E := by
    have := Nat.mul_le_mul_right E (show p2 + 1 ≤ B from hp2)
    rw [Nat.add_mul] at this; omega
  have h2 : (Q * b1) * (B * E) < (p0 * B + p1 + 1) * (B * E) := by
    clear hpl hp2 hb1
    grind
  have h3 := Nat.lt_of_mul_lt_mul_right h2
  omega
theorem guess_top {B E b1 b2 bl p0 p1 p2 pl : Nat} (hbl : bl < E) (hb2 : b2 < B) (h : ((p0 * B + p1) * B + p2) * E + pl < ((b1 * B + b2) * E + bl) * B) : p0 ≤ b1 := by
  have h3 : b2 * E + bl < B * E := by
    have := Nat.mul_le_mul_right E (show b2 + 1 ≤ B from hb2)
    rw [Nat.add_mul] at this; omega
  have h5 : (b2 * E + bl) * B ≤ (B * E) * B := Nat.mul_le_mul_right B (Nat.le_of_lt h3)
  have h4 : p0 * (B * (B * E)) < (b1 + 1) * (B * (B * E)) := by
    clear hbl hb2 h3
    grind
  have := Nat.lt_of_mul_lt_mul_right h4
  omega
theorem guess_first {B b1 p0 p1 : Nat} (h0 : p0 ≤ b1) (h1 : p1 < B) (h2 : B ≤ 2 * b1) (hb : 0 < b1) : (p0 * B + p1) / b1 ≤ B + 1 := by
  have h3 : p0 * B ≤ b1 * B := Nat.mul_le_mul_right B h0
  have h4 : (p0 * B + p1) / b1 < B + 2 := by
    rw [Nat.div_lt_iff_lt_mul hb, Nat.add_mul, Nat.mul_comm B b1]
    omega
  omega

/-- A guessed digit that was too great is made less by one; the loop's test says when. -/
structure Tops (B E b1 b2 bl p0 p1 p2 pl P D : Nat) : Prop where
  hbl : bl < E
  hpl : pl < E
  hb1 : 0 < b1
  hb1B : b1 < B
  hb2 : b2 < B
  hp0 : p0 < B
  hp1 : p1 < B
  hp2 : p2 < B
  hbig : B ≤ 2 * b1
  hd : D = (b1 * B + b2) * E + bl
  hp : P = ((p0 * B + p1) * B + p2) * E + pl
  hlt : P < D * B

section
variable {B E b1 b2 bl p0 p1 p2 pl P D q rest : Nat}
theorem Tops.dpos (h : Tops B E b1 b2 bl p0 p1 p2 pl P D) : 0 < D := by
  rcases Nat.eq_zero_or_pos D with h0 | h0
  · have := h.hlt; rw [h0] at this; omega
  · exact h0
theorem Tops.qlt (h : Tops B E b1 b2 bl p0 p1 p2 pl P D) : P / D < B := by
  rw [Nat.div_lt_iff_lt_mul h.dpos, Nat.mul_comm]; exact h.hlt
theorem Tops.start (h : Tops B E b1 b2 bl p0 p1 p2 pl P D) : P / D ≤ (p0 * B + p1) / b1 ∧ (p0 * B + p1) / b1 ≤ B + 1 := by
  constructor
  · refine guess_start h.hpl h.hp2 (b2 := b2) (bl := bl) (E := E) (pl := pl) ?_ h.hb1
    have := Nat.div_mul_le_self P D
    have hd := h.hd
    have hp := h.hp
    rw [← hd, ← hp]
    exact this
  · have hd := h.hd
    have hp := h.hp
    have hl := h.hlt
    rw [hd, hp] at hl
    exact guess_first (guess_top h.hbl h.hb2 hl) h.hp1 h.hbig h.hb1
theorem Tops.less (h : Tops B E b1 b2 bl p0 p1 p2 pl P D) (inv : q * b1 + rest = p0 * B + p1) (t : B ≤ q ∨ rest * B + p2 < q * b2) : P / D + 1 ≤ q := by
  rcases t with t | t
  · have := h.qlt; omega
  · have k := guess_lo (bl := bl) h.hpl inv t
    rw [← h.hd, ← h.hp] at k
    exact (Nat.div_lt_iff_lt_mul h.dpos).2 k
theorem Tops.done (h : Tops B E b1 b2 bl p0 p1 p2 pl P D) (inv : q * b1 + rest = p0 * B + p1) (hq : q < B) (t : q * b2 ≤ rest * B + p2) : q ≤ P / D + 1 := by
  have k := guess_hi1 (p2 := p2) (pl := pl) h.hbl h.hb1 hq inv t
  rw [← h.hd, ← h.hp] at k
  cases q with
  | zero => exact Nat.zero_le _
  | succ q =>
    have : q ≤ P / D := by
      rw [Nat.le_div_iff_mul_le h.dpos]
      rw [Nat.add_mul, Nat.one_mul] at k
      omega
    omega
theorem Tops.grown (h : Tops B E b1 b2 bl p0 p1 p2 pl P D) (inv : q * b1 + rest = p0 * B + p1) (hq : q ≤ B) (hr : B ≤ rest) : q ≤ P / D := by
  have k := guess_hi2 (p2 := p2) (pl := pl) h.hbl h.hb2 hq hr inv
  rw [← h.hd, ← h.hp] at k
  rw [Nat.le_div_iff_mul_le h.dpos]
  exact k
end

end Go.Proofs.Ytmmmpdpgkjcohaa
