/- Machine words: what wraps, masks and shifts come to. -/
import Derived.WalkKit
import Derived.Laws.BitsAllLaws
namespace Go.Proofs.Ytmmmpdpgkjcohaa

theorem and1 (a : Int) (h : 0 ≤ a) (h' : a < 18446744073709551616) : bits .and .u64 a 1 = a % 2 := by
  rw [u64_and a 1 h h' (by omega) (by omega)]
  rw [show (1 : Int).toNat = 1 from rfl, Nat.and_one_is_mod]
  omega
theorem borrow_no (x y c : Nat) (hx : x < 4294967296) (h : y + c ≤ x) : bits .and .u64 (((x : Int) - (y : Int) - (c : Int)) / 4294967296) 1 = 0 := by
  rw [and1 _ (by omega) (by omega)]
  omega
theorem borrow_lt (x y c : Nat) (hy : y < 4294967296) (hc : c ≤ 1) (h : x < y) :
    bits .and .u64 (IntKind.u64.wrap (IntKind.u64.wrap ((x : Int) - (y : Int)) - (c : Int)) / 4294967296) 1 = 1 := by
  rw [IntKind.wrap_u64, IntKind.wrap_u64, and1 _ (by omega) (by omega)]
  omega
theorem borrow_lt_d (x y c : Nat) (hy : y < 4294967296) (hc : c ≤ 1) (h : x < y) :
    IntKind.u64.wrap (IntKind.u64.wrap ((x : Int) - (y : Int)) - (c : Int)) % 4294967296 = (x : Int) + 4294967296 - (y + c) := by
  rw [IntKind.wrap_u64, IntKind.wrap_u64]
  omega
theorem borrow_eq (x y c : Nat) (h : y ≤ x) (hc : c ≤ 1) (h' : x < y + c) :
    bits .and .u64 (IntKind.u64.wrap ((x : Int) - (y : Int) - (c : Int)) / 4294967296) 1 = 1 := by
  rw [IntKind.wrap_u64, and1 _ (by omega) (by omega)]
  omega
theorem borrow_eq_d (x y c : Nat) (h : y ≤ x) (hc : c ≤ 1) (h' : x < y + c) :
    IntKind.u64.wrap ((x : Int) - (y : Int) - (c : Int)) % 4294967296 = (x : Int) + 4294967296 - (y + c) := by
  rw [IntKind.wrap_u64]
  omega

theorem pow_le31 {n : Nat} (h : n < 32) : 2 ^ n ≤ 2147483648 := Nat.pow_le_pow_right (by omega) (show n ≤ 31 by omega)
theorem or_shl (cr y n : Nat) (h : cr < 2 ^ n) (hn : n < 32) (hy : y < 4294967296) : bits .or .u64 (cr : Int) (IntKind.u64.wrap ((y : Int) * 2 ^ n)) = ((cr + y * 2 ^ n : Nat) : Int) := by
  have hp := pow_le31 hn
  have hm : y * 2 ^ n ≤ 4294967295 * 2147483648 := Nat.mul_le_mul (by omega) hp
  have e : ((y : Int) * 2 ^ n) = ((y * 2 ^ n : Nat) : Int) := by push_cast; rfl
  rw [e, IntKind.wrap_u64]
  rw [show ((y * 2 ^ n : Nat) : Int) % 18446744073709551616 = ((y * 2 ^ n : Nat) : Int) by omega]
  rw [u64_or_nat _ _ (by omega) (by omega), Nat.or_comm, nat_join n _ _ (by rw [Nat.mul_mod_left]) h]
  omega
theorem or_up (hi lo : Nat) (h2 : lo < 4294967296) : bits .or .u64 (IntKind.u64.wrap ((hi : Int) * 4294967296)) (lo : Int) = (((hi % 4294967296) * 4294967296 + lo : Nat) : Int) := by
  rw [IntKind.wrap_u64]
  rw [show (hi : Int) * 4294967296 % 18446744073709551616 = (((hi % 4294967296) * 4294967296 : Nat) : Int) by omega]
  rw [u64_or_nat _ _ (by omega) (by omega), nat_join 32 _ _ (by omega) (by omega)]
theorem shr_cast (a n : Nat) : ((a : Nat) : Int) / 2 ^ n = ((a / 2 ^ n : Nat) : Int) := by push_cast; rfl

theorem mul_le32 {x y : Nat} (h1 : x < 4294967296) (h2 : y < 4294967296) : x * y ≤ 18446744065119617025 :=
  Nat.le_trans (Nat.mul_le_mul (show x ≤ 4294967295 by omega) (show y ≤ 4294967295 by omega)) (by omega)
theorem mul_le32i {x y : Nat} (h1 : x < 4294967296) (h2 : y < 4294967296) : (x : Int) * (y : Int) ≤ 18446744065119617025 := by
  have := mul_le32 h1 h2
  rw [← Int.natCast_mul]
  omega
theorem mul_ge32i (x y : Nat) : 0 ≤ (x : Int) * (y : Int) := by
  rw [← Int.natCast_mul]
  omega
end Go.Proofs.Ytmmmpdpgkjcohaa
