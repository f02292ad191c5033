/- Package orreryref01: PowN, BitsN. -/
import Derived.Test.YtmmmpdpgkjcohaaRefH
namespace Go.Proofs.Ytmmmpdpgkjcohaa
open Go.RowKit

theorem pow_len (i : Nat) : (dig 10000 (2 ^ i)).length ≤ i + 1 := by
  refine dig_len_le (by omega) _ _ ?_
  exact Nat.lt_of_lt_of_le (Nat.pow_lt_pow_right (a := 2) (by omega) (Nat.lt_succ_self i)) (Nat.pow_le_pow_left (by omega) _)

set_option maxHeartbeats 1000000 in
set_option maxRecDepth 100000 in
theorem RPow (n : Nat) (w : World) (hn : n ≤ 1000000) : Calls Try.prog 35 #[.int .i64 n] w (DecM w (2 ^ n)) := by
  have OO := Lib.hid (one_own w 3 .i64 1 w.heap.size (Nat.le_refl _))
  have G0 := Lib.hid (grown_alloc w (.cells #[.int .i64 1] 3) none)
  go_enter Try.func35, Try.ntmps35
  go_wp2_with fail
  go_loopw [3, 4] (fun o i wr => ∃ k : Nat, k ≤ n ∧ i = .int .i64 k ∧ Own wr 3 .i64 w.heap.size o (dig 10000 (2 ^ k)) ∧ w.grownBy wr none) (fun _ i _ => (n - (intOf i).toNat))
  case atStart => exact ⟨0, by omega, rfl, by rw [Nat.pow_zero, dig_small (by omega) (by omega) (by omega)]; exact OO.out, G0.out⟩
  case round =>
    obtain ⟨k, hk, rfl, ho, gr⟩ := hrel
    have Ho := Lib.hid ho
    have Gr := Lib.hid gr
    clear ho gr
    by_cases hlt : k < n
    · have hl := Lib.hid (pow_len k)
      go_wp2_with fail
      refine (RmulAdd_n 2 0 Ho.out.sl (by omega) (by omega) (by have := hl.out; omega)).mono ?_
      rintro e w4 ⟨v4, rfl, ho4, g4⟩
      have Ho4 := Lib.hid (ho4.mono Gr.out.size)
      have G4 := Lib.hid (grown_trans Gr.out g4)
      clear ho4 g4
      go_wp2_with fail
      go_roundw
      case rel => exact ⟨k + 1, by omega, by go_num, by rw [Nat.pow_succ]; exact Ho4.out, G4.out⟩
      case measure => simp [intOf]; omega
    · obtain rfl : k = n := by omega
      go_wp2_with fail
      go_ret
      exact ⟨_, rfl, Ho.out, Gr.out⟩

theorem bit_step (X j : Nat) : (dig 2 (X % 2 ^ (j + 1))).length = if X / 2 ^ j % 2 = 1 then j + 1 else (dig 2 (X % 2 ^ j)).length := by
  rw [Nat.mod_pow_succ]
  have h := Nat.mod_lt X (show 0 < 2 ^ j from Nat.pow_pos (by omega))
  split
  · rename_i hb
    rw [hb]
    exact dig_len_of (by omega) (by omega) (by rw [Nat.pow_succ]; omega)
  · rename_i hb
    rw [show X / 2 ^ j % 2 = 0 by omega]
    simp
theorem and1_32 (a : Int) (h : 0 ≤ a) (h' : a < 4294967296) : bits .and .u32 a 1 = a % 2 := by
  rw [u32_and a 1 h h' (by omega) (by omega)]
  rw [show (1 : Int).toNat = 1 from rfl, Nat.and_one_is_mod]
  omega
theorem bit_at (X i k : Nat) (hk : k < 32) : nth (dig 4294967296 X) i / 2 ^ k % 2 = X / 2 ^ (32 * i + k) % 2 := by
  rw [dig_nth (by omega), Nat.pow_add, Nat.pow_mul, ← Nat.div_div_eq_div_mul, show (2 : Nat) ^ 32 = 4294967296 from rfl]
  generalize X / 4294967296 ^ i = T
  have e : (4294967296 : Nat) = 2 ^ k * (2 * 2 ^ (31 - k)) := by
    rw [← Nat.pow_succ', ← Nat.pow_add, show k + (31 - k).succ = 32 by omega]
  rw [e, Nat.mod_mul_right_div_self, Nat.mod_mul_right_mod]

end Go.Proofs.Ytmmmpdpgkjcohaa
