/- Numbers told by facts as arguments of Of, Pow, ratio.Of and Within; a row of two numbers; sizes of what is moved. -/
import Derived.Test.YtigkehblnlghkaaGreatPolM
import Derived.Test.YtigkehblnlghkaaGreatPolS
import Derived.Test.YtigkehblnlghkaaGreatPolK
import Derived.Test.YtigkehblnlghkaaGreatPolN
import Derived.Test.YtigkehblnlghkaaGreatPows
namespace Go.Proofs.YtigkehblnlghkaaGreat.Sym
open Go.RowKit
def z2 (a b : Int) : Nat → Int
  | 0 => a
  | _ => b
section
variable {Φ : Nat → World → Value → Prop} {p q x x1 x2 j i K : Nat} {a b t z y m : Int}
theorem sPowJ (k : Nat) (hp : ∀ w v, Φ p w v → IntV w v a i) (hq : ∀ w v, Φ q w v → v = .int .i64 (k : Int)) (hx : Φ x = fun w v => NorV w v t K) (hk : k ≤ 256) (hi : i ≤ 1000) (ht : a ^ k = t) (hK : Bd t.natAbs K) : SiteOk Φ Tryz.prog ⟨23, [.fact p, .fact q], [⟨iS, [(0, 0, x)]⟩], false⟩ :=
  viaG (Ψ := ph [fun w v => IntV w v a i, fun _ v => v = .int .i64 (k : Int), fun w v => NorV w v t (i * 256 + 1)]) (ar' := [.fact 0, .fact 1]) (outs' := [⟨iS, [(0, 0, 2)]⟩])
    (site2 fun _ w v u h0 h1 => by
      rw [show u = .int .i64 (k : Int) from get h1]
      exact ((Pow_i k k (.inr (.inl ⟨rfl, hk⟩)) (get h0) hi).mono fun _ _ h => h.got).mono fun _ _ h => pstI (show _ = fun w v => NorV w v (a ^ k) (i * 256 + 1) by rw [ht]; rfl) h)
    ⟨hp, hq, trivial⟩ ⟨⟨rfl, ⟨rfl, rfl, fun _ _ h => hx ▸ NorV.re h hK⟩, trivial⟩, trivial⟩
end
theorem hsum_bd {c : Nat → Int} {u : Int} {K ku m : Nat} (hc : ∀ i, i < m → Bd (c i).natAbs K) (hu : Bd u.natAbs ku) : ∀ r i, i + r ≤ m → Bd (hsum c u r i).natAbs (K + r * (ku + 1))
  | 0, _, _ => by
    simp only [hsum]
    exact Nat.pow_pos (by omega)
  | r + 1, i, h => by
    have h1 := Bd.mul (hsum_bd hc hu r (i + 1) (by omega)) hu
    have h2 := Bd.add1 ((hc i (by omega)).more (j := K + r * (ku + 1) + ku) (by omega)) h1
    rw [← Int.natAbs_mul] at h2
    simp only [hsum]
    refine (h2.le (Int.natAbs_add_le _ _)).more ?_
    rw [Nat.succ_mul]; omega
theorem shS_bd {c : Nat → Int} {u : Int} {K ku m : Nat} (hc : ∀ i, i < m → Bd (c i).natAbs K) (hu : Bd u.natAbs ku) : ∀ j i, i < m → Bd (shS c u m j i).natAbs (K + j * (m * (ku + 1)))
  | 0, i, hi => by
    simp only [shS]
    exact (hc i hi).more (by omega)
  | j + 1, i, hi => by
    have e : (j + 1) * (m * (ku + 1)) = j * (m * (ku + 1)) + m * (ku + 1) := Nat.succ_mul _ _
    simp only [shS]
    split
    · exact (shS_bd hc hu j i hi).more (by omega)
    · refine (hsum_bd (shS_bd hc hu j) hu (m - i) i (by omega)).more ?_
      have := Nat.mul_le_mul_right (ku + 1) (show m - i ≤ m by omega)
      omega
theorem wdC_bd {z : Nat → Int} {n : Nat} {d : Int} {k kd : Nat} (hz : ∀ i, i < tl z n → Bd (z i).natAbs k) (hd : Bd d.natAbs kd) (i : Nat) (hi : i < tl z n) : Bd (wdC z n d i).natAbs (k + (tl z n * kd + 1)) := by
  unfold wdC
  rw [Int.natAbs_mul, Int.natAbs_pow]
  refine (Bd.mul (hz i hi) (Bd.pow1 hd _)).more ?_
  have := Nat.mul_le_mul_right kd (show tl z n - 1 - i ≤ tl z n by omega)
  omega
theorem mvS_bd {z : Nat → Int} {n : Nat} {u d : Int} {k kd ku : Nat} (hz : ∀ i, i < tl z n → Bd (z i).natAbs k) (hd : Bd d.natAbs kd) (hu : Bd u.natAbs ku) (j a : Nat) (ha : a < tl z n) : Bd (mvS z n u d j a).natAbs (k + (tl z n * kd + 1) + j * (tl z n * (ku + 1))) :=
  shS_bd (wdC_bd hz hd) hu j a ha
theorem bd_zero (k : Nat) : Bd (0 : Int).natAbs k := Nat.pow_pos (by omega)
theorem mulL_bd {z y : Nat → Int} {n m k k' : Nat} (hz : ∀ i, i < n → Bd (z i).natAbs k) (hy : ∀ i, i < m → Bd (y i).natAbs k') (i : Nat) : Bd (coef (mulL z n y m) i).natAbs (k + k' + n) := by
  unfold mulL
  split
  · rw [coef_out (by simp)]; exact bd_zero _
  · rw [coef_mk]
    split
    · have h1 := tl_le z n
      have h2 := tl_le y m
      exact (cvS_bd (c := n) hz (fun i hi => hy i (by omega)) h1 h1 i).more (by omega)
    · exact bd_zero _
/-- What the laws ask of sizes on the way to a value. -/
theorem at_bd {z : Nat → Int} {n k kt kn c : Nat} {q : Rat} (hz : ∀ i, i < n → Bd (z i).natAbs k) (hq : Bd q.num.natAbs kt ∧ Bd q.den kt) (hc : tl z n ≤ c) (hk : k + c * (kt + 1) + 1 ≤ kn) (j : Nat) (hj : j ≤ tl z n - 1) : Bd (hN z (tl z n) q.num q.den j).natAbs kn ∧ Bd (((q.den : Nat) : Int) ^ j).natAbs kn := by
  have hl := tl_le z n
  have h1 := Nat.mul_le_mul_right (kt + 1) (show j ≤ c by omega)
  have h2 : j * (kt + 1) = j * kt + j := by rw [Nat.mul_add, Nat.mul_one]
  constructor
  · rcases Nat.eq_zero_or_pos (tl z n) with h0 | h0
    · obtain rfl : j = 0 := by omega
      simp only [hN]; rw [if_pos h0]; exact bd_zero _
    · exact (hN_bd h0 (fun i hi => hz i (by omega)) hq.1 (by rw [Int.natAbs_natCast]; exact hq.2) j).more (by omega)
  · rw [Int.natAbs_pow, Int.natAbs_natCast]
    exact (Bd.pow1 hq.2 j).more (by omega)
end Go.Proofs.YtigkehblnlghkaaGreat.Sym
