/- Package orreryref01: PowN, BitsN. -/
import Derived.Test.YtkebkdmdhhpinaaRefH
namespace Go.Proofs.Ytkebkdmdhhpinaa
open Go.RowKit

theorem pow_len (i : Nat) : (dig 10000 (2 ^ i)).length ≤ i + 1 := by
  refine dig_len_le (by omega) _ _ ?_
  exact Nat.lt_of_lt_of_le (Nat.pow_lt_pow_right (a := 2) (by omega) (Nat.lt_succ_self i)) (Nat.pow_le_pow_left (by omega) _)

set_option maxHeartbeats 1000000 in
theorem RPow (n : Nat) (w : World) (hn : n ≤ 1000000) : Calls Try.prog 32 #[.int .i64 n] w (DecM w (2 ^ n)) := by
  have OO := Lib.hid (one_own w 3 .i64 1 w.heap.size (Nat.le_refl _))
  have G0 := Lib.hid (grown_alloc w (.cells #[.int .i64 1] 3) none)
  go_enter Try.func32, Try.ntmps32
  go_wp2_with fail
  go_loopw [3, 4] (fun o i wr => ∃ k : Nat, k ≤ n ∧ i = .int .i64 k ∧ Own wr 3 .i64 w.heap.size o (dig 10000 (2 ^ k)) ∧ w.grownBy wr none) (fun _ i _ => (n - (intOf i).toNat))
  case atStart => exact ⟨0, by omega, rfl, by rw [Nat.pow_zero, dig_small (by omega) (by omega) (by omega)]; exact OO.out, G0.out⟩
  case round =>
    obtain ⟨k, hk, rfl, ho, gr⟩ := hrel
    have Ho := Lib.hid ho
    have Gr := Lib.hid gr
    clear ho gr
    by_cases hlt : k < n
    · have hl := Lib.hid (pow_len k)
      go_wp2_with fail
      refine (RmulAdd_n 2 0 Ho.out.sl (by omega) (by omega) (by have := hl.out; omega)).mono ?_
      rintro e w4 ⟨v4, rfl, ho4, g4⟩
      have Ho4 := Lib.hid (ho4.mono Gr.out.size)
      have G4 := Lib.hid (grown_trans Gr.out g4)
      clear ho4 g4
      go_wp2_with fail
      go_roundw
      case rel => exact ⟨k + 1, by omega, by go_num, by rw [Nat.pow_succ]; exact Ho4.out, G4.out⟩
      case measure => simp [intOf]; omega
    · obtain rfl : k = n := by omega
      go_wp2_with fail
      go_ret
      exact ⟨_, rfl, Ho.out, Gr.out⟩

theorem bit_step (X j : Nat) : (dig 2 (X % 2 ^ (j + 1))).length = if X / 2 ^ j % 2 = 1 then j + 1 else (dig 2 (X % 2 ^ j)).length := by
  rw [Nat.mod_pow_succ]
  have h := Nat.mod_lt X (show 0 < 2 ^ j from Nat.pow_pos (by omega))
  split
  · rename_i hb
    rw [hb]
    exact dig_len_of (by omega) (by omega) (by rw [Nat.pow_succ]; omega)
  · rename_i hb
    rw [show X / 2 ^ j % 2 = 0 by omega]
    simp
theorem and1_32 (a : Int) (h : 0 ≤ a) (h' : a < 4294967296) : bits .and .u32 a 1 = a % 2 := by
  rw [u32_and a 1 h h' (by omega) (by omega)]
  rw [show (1 : Int).toNat = 1 from rfl, Nat.and_one_is_mod]
  omega
theorem bit_at (X i k : Nat) (hk : k < 32) : nth (dig 4294967296 X) i / 2 ^ k % 2 = X / 2 ^ (32 * i + k) % 2 := by
  rw [dig_nth (by omega), Nat.pow_add, Nat.pow_mul, ← Nat.div_div_eq_div_mul, show (2 : Nat) ^ 32 = 4294967296 from rfl]
  generalize X / 4294967296 ^ i = T
  have e : (4294967296 : Nat) = 2 ^ k * (2 * 2 ^ (31 - k)) := by
    rw [← Nat.pow_succ', ← Nat.pow_add, show k + (31 - k).succ = 32 by omega]
  rw [e, Nat.mod_mul_right_div_self, Nat.mod_mul_right_mod]

set_option maxHeartbeats 2000000 in
theorem RBits {v : Value} {X : Nat} {w : World} (hx : Sl w .i64 v (dig 10000 X)) (hlen : (dig 10000 X).length ≤ 4000000) :
    Calls Try.prog 36 #[v] w fun e w' => e = .returned (.int .i64 ((dig 2 X).length : Nat)) ∧ w.grownBy w' none := by
  have Hx := Lib.hid hx
  have LL := Lib.hid (show (dig 4294967296 X).length ≤ 4000000 from Nat.le_trans (dig_len_le (by omega) _ _ (Nat.lt_of_lt_of_le (dig_lt_pow (b := 10000) (by omega) X) (Nat.pow_le_pow_left (by omega) _))) hlen)
  clear hx
  go_enter Try.func36, Try.ntmps36
  go_wp2_with fail
  refine (RTo Hx.out hlen).mono ?_
  rintro e w1 ⟨v1, rfl, ho1, g1⟩
  obtain ⟨p, cap, rfl, h1, h2, h3⟩ := id ho1.sl
  have Lb := Lib.hid (dig_all (b := 4294967296) (by omega) X)
  have Ba := Lib.hid (bit_at X)
  have Xe := Lib.hid (show X % 2 ^ (32 * (dig 4294967296 X).length) = X from Nat.mod_eq_of_lt (by
    rw [Nat.pow_mul]; exact dig_lt_pow (by omega) X))
  generalize dig 4294967296 X = l at *
  obtain ⟨n, hn⟩ : ∃ n, l.length = n := ⟨_, rfl⟩
  rw [hn] at LL h1 Xe ⊢
  have Hn := Lib.hid hn
  have H3 := Lib.hid h3
  have Ho1 := Lib.hid ho1
  have G1 := Lib.hid g1
  have ln := LL.out
  clear hn h3 ho1 g1
  go_wp2_with fail
  go_loopw [3, 11] (fun bv iv wr => ∃ i : Nat, i ≤ n ∧ iv = .int .i64 i ∧ bv = .int .i64 ((dig 2 (X % 2 ^ (32 * i))).length : Nat) ∧ w1 = wr) (fun _ iv _ => (n - (intOf iv).toNat))
  case atStart => exact ⟨0, by omega, rfl, by simp [Nat.mod_one, dig_zero], rfl⟩
  case round =>
    obtain ⟨i, hi, rfl, rfl, rfl⟩ := hrel
    by_cases hlt : i < n
    · rcases H3.out with h3 | ⟨b, off, rfl, hbl, hy⟩
      · have := Hn.out; rw [h3] at this; simp at this; omega
      have c1 : w1.cell? ⟨b, off + i, none⟩ = some (.int .u32 (nth l i)) := hy i (by rw [Hn.out]; omega)
      have b1 : nth l i < 4294967296 := nth_lt (by omega) Lb.out i
      have i1 : (i : Int) < (n : Int) := by omega
      clear hy
      go_wp2_with fail
      go_loopw [3, 6] (fun bv kv wr => ∃ k : Nat, k ≤ 32 ∧ kv = .int .i64 k ∧ bv = .int .i64 ((dig 2 (X % 2 ^ (32 * i + k))).length : Nat) ∧ w1 = wr) (fun _ kv _ => (32 - (intOf kv).toNat))
      case atStart => exact ⟨0, by omega, rfl, rfl, rfl⟩
      case round =>
        obtain ⟨k, hk, rfl, rfl, rfl⟩ := hrel
        have Bs := Lib.hid (bit_step X (32 * i + k))
        by_cases hk2 : k < 32
        · have Bk := Lib.hid (Ba.out i k hk2)
          have ha := and1_32 (((nth l i : Nat) : Int) / 2 ^ k) (by rw [shr_cast]; exact Int.natCast_nonneg _) (by rw [shr_cast]; have := Nat.div_le_self (nth l i) (2 ^ k); omega)
          rw [show ((nth l i : Nat) : Int) / 2 ^ k % 2 = ((nth l i / 2 ^ k % 2 : Nat) : Int) by rw [shr_cast]; omega, Bk.out] at ha
          by_cases hb : X / 2 ^ (32 * i + k) % 2 = 1
          · have hd : (bits BinOp.and IntKind.u32 (((nth l i : Nat) : Int) / 2 ^ k) 1 == 1) = true := by rw [ha, hb]; rfl
            have Be := Lib.hid (show (dig 2 (X % 2 ^ (32 * i + k + 1))).length = 32 * i + k + 1 by rw [Bs.out, if_pos hb])
            clear hb ha
            go_wp2
            go_roundw
            case rel => exact ⟨k + 1, by omega, by go_num, int_eq (by rw [← Nat.add_assoc, Be.out]; omega), trivial⟩
            case measure => simp [intOf] <;> omega
          · have hd : (bits BinOp.and IntKind.u32 (((nth l i : Nat) : Int) / 2 ^ k) 1 == 1) = false := by
              rw [ha, show X / 2 ^ (32 * i + k) % 2 = 0 by omega]; rfl
            have Be := Lib.hid (show (dig 2 (X % 2 ^ (32 * i + k + 1))).length = (dig 2 (X % 2 ^ (32 * i + k))).length by rw [Bs.out, if_neg hb])
            clear hb ha
            go_wp2
            go_roundw
            case rel => exact ⟨k + 1, by omega, by go_num, int_eq (by rw [← Nat.add_assoc, Be.out]), trivial⟩
            case measure => simp [intOf] <;> omega
        · obtain rfl : k = 32 := by omega
          have e : 32 * i + 32 = 32 * (i + 1) := by omega
          rw [e]
          clear e
          go_wp2
          go_roundw
          case rel => exact ⟨i + 1, by omega, by go_num, rfl, trivial⟩
          case measure => simp [intOf] <;> omega
    · obtain rfl : i = n := by omega
      rw [Xe.out]
      go_wp2
      go_ret
      exact ⟨rfl, G1.out⟩

end Go.Proofs.Ytkebkdmdhhpinaa
