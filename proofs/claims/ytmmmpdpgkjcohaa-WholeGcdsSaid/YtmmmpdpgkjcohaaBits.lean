/- Package math/bits: Len32, LeadingZeros32, Div32. -/
import Derived.Test.YtmmmpdpgkjcohaaBase
import Derived.Test.YtmmmpdpgkjcohaaProg
import Derived.Lib.BitFns
import Derived.Deep.QuietTactic
import Derived.BigQuiet
namespace Go.Proofs.Ytmmmpdpgkjcohaa
open Go.RowKit

theorem ret_int {k : IntKind} {a b : Int} (h : a = b) : Ending.returned (.int k a) = .returned (.int k b) := by rw [h]
set_option maxHeartbeats 4000000 in
set_option maxRecDepth 100000 in
theorem Len32_any (x : Int) (w : World) (h0 : 0 ≤ x) (h1 : x ≤ 4294967295) :
    Calls Try.prog 80 #[.int .u32 x] w fun e w' => e = .returned (.int .i64 (Lib.bitLen x.toNat)) ∧ w = w' := by
  have R : ∀ (i : Int) (w : World), 0 ≤ i → i ≤ 255 → (Instr.index 9 (.string Lib.len8tab) (.int .u8 i)).run Try.prog w = .ok (.int .u8 (Lib.len8 i)) w := fun i w a b => Lib.run_index_len8tab w 9 .u8 i Try.underlying9 a (by omega)
  by_cases c1 : 65536 ≤ x
  · by_cases c2 : 256 ≤ x / 65536
    · have r := fun w => R (x / 65536 / 256) w (by omega) (by omega)
      have B := Lib.hid (Lib.bitLen_shift24 x.toNat (by omega) (by omega))
      have E := Lib.hid (show (x / 65536 / 256).toNat = x.toNat / 16777216 by omega)
      have L := Lib.hid (Lib.bitLen_le8' (x / 65536 / 256) (by omega) (by omega))
      have K := Lib.hid (Lib.len8_of (x / 65536 / 256) (by omega) (by omega))
      clear R
      have a1 : 0 ≤ Lib.len8 (x / 65536 / 256) := by rw [K.out]; omega
      have a2 : Lib.len8 (x / 65536 / 256) ≤ 8 := by rw [K.out]; have := L.out; omega
      go_enter Try.func80, Try.ntmps80
      go_wp2
      go_ret
      refine ⟨ret_int ?_, rfl⟩
      rw [B.out, ← E.out, K.out]; omega
    · have r := fun w => R (x / 65536) w (by omega) (by omega)
      have B := Lib.hid (Lib.bitLen_shift16 x.toNat (by omega) (by omega))
      have E := Lib.hid (show (x / 65536).toNat = x.toNat / 65536 by omega)
      have L := Lib.hid (Lib.bitLen_le8' (x / 65536) (by omega) (by omega))
      have K := Lib.hid (Lib.len8_of (x / 65536) (by omega) (by omega))
      clear R
      have a1 : 0 ≤ Lib.len8 (x / 65536) := by rw [K.out]; omega
      have a2 : Lib.len8 (x / 65536) ≤ 8 := by rw [K.out]; have := L.out; omega
      go_enter Try.func80, Try.ntmps80
      go_wp2
      go_ret
      refine ⟨ret_int ?_, rfl⟩
      rw [B.out, ← E.out, K.out]; omega
  · by_cases c2 : 256 ≤ x
    · have r := fun w => R (x / 256) w (by omega) (by omega)
      have B := Lib.hid (Lib.bitLen_shift8 x.toNat (by omega) (by omega))
      have E := Lib.hid (show (x / 256).toNat = x.toNat / 256 by omega)
      have L := Lib.hid (Lib.bitLen_le8' (x / 256) (by omega) (by omega))
      have K := Lib.hid (Lib.len8_of (x / 256) (by omega) (by omega))
      clear R
      have a1 : 0 ≤ Lib.len8 (x / 256) := by rw [K.out]; omega
      have a2 : Lib.len8 (x / 256) ≤ 8 := by rw [K.out]; have := L.out; omega
      go_enter Try.func80, Try.ntmps80
      go_wp2
      go_ret
      refine ⟨ret_int ?_, rfl⟩
      rw [B.out, ← E.out, K.out]; omega
    · have r := fun w => R x w (by omega) (by omega)
      have L := Lib.hid (Lib.bitLen_le8' x (by omega) (by omega))
      have K := Lib.hid (Lib.len8_of x (by omega) (by omega))
      clear R
      have a1 : 0 ≤ Lib.len8 x := by rw [K.out]; omega
      have a2 : Lib.len8 x ≤ 8 := by rw [K.out]; have := L.out; omega
      go_enter Try.func80, Try.ntmps80
      go_wp2
      go_ret
      refine ⟨ret_int ?_, rfl⟩
      rw [K.out]

theorem bitAux (f : Nat) : ∀ x, x < 2 ^ f → x < 2 ^ Lib.bitLenAux f x ∧ (0 < x → 2 ^ (Lib.bitLenAux f x - 1) ≤ x ∧ 0 < Lib.bitLenAux f x) := by
  induction f with
  | zero =>
    intro x h
    obtain rfl : x = 0 := (by simpa using h)
    simp [Lib.bitLenAux]
  | succ f ih =>
    intro x h
    by_cases h0 : x = 0
    · subst h0; simp [Lib.bitLenAux]
    · obtain ⟨h1, h2⟩ := ih (x / 2) (by rw [Nat.pow_succ] at h; omega)
      have e : Lib.bitLenAux (f + 1) x = 1 + Lib.bitLenAux f (x / 2) := by simp [Lib.bitLenAux, h0]
      rw [e]
      have p : (2 : Nat) ^ (1 + Lib.bitLenAux f (x / 2)) = 2 * 2 ^ Lib.bitLenAux f (x / 2) := by rw [Nat.pow_add]
      refine ⟨by rw [p]; omega, fun _ => ⟨?_, by omega⟩⟩
      rw [Nat.add_sub_cancel_left]
      by_cases h3 : x / 2 = 0
      · rw [h3]
        have : Lib.bitLenAux f 0 = 0 := by cases f <;> simp [Lib.bitLenAux]
        rw [this]; omega
      · obtain ⟨h4, h5⟩ := h2 (by omega)
        obtain ⟨m, hm⟩ : ∃ m, Lib.bitLenAux f (x / 2) = m + 1 := ⟨Lib.bitLenAux f (x / 2) - 1, by omega⟩
        rw [hm] at h4 ⊢
        rw [Nat.add_sub_cancel] at h4
        rw [Nat.pow_succ]
        omega
theorem bitLen_lt (x : Nat) (h : x < 18446744073709551616) : x < 2 ^ Lib.bitLen x := (bitAux 64 x h).1
theorem bitLen_ge (x : Nat) (h : x < 18446744073709551616) (h0 : 0 < x) : 2 ^ (Lib.bitLen x - 1) ≤ x ∧ 0 < Lib.bitLen x := (bitAux 64 x h).2 h0

theorem Lead32_any (x : Int) (w : World) (h0 : 0 ≤ x) (h1 : x ≤ 4294967295) :
    Calls Try.prog 92 #[.int .u32 x] w fun e w' => e = .returned (.int .i64 (32 - (Lib.bitLen x.toNat : Int))) ∧ w = w' := by
  have hb := Lib.bitLen_le x.toNat 32 (by omega) (by omega)
  go_enter Try.func92, Try.ntmps92
  go_wp2_with fail
  refine (Len32_any x _ h0 h1).mono ?_
  rintro e w' ⟨rfl, rfl⟩
  generalize hl : Lib.bitLen x.toNat = l at *
  have HL := Lib.hid hl
  clear hl
  go_wp2_with fail
  go_ret
  exact ⟨ret_int (by rw [HL.out]), rfl⟩

theorem small_div (n y : Nat) (h : n / y < 4294967296) : (n : Int) / (y : Int) % 4294967296 = ((n / y : Nat) : Int) := by
  rw [← Int.natCast_ediv]
  generalize n / y = q at *
  omega
theorem small_mod (n y : Nat) (h : n % y < 4294967296) : (n : Int) % (y : Int) % 4294967296 = ((n % y : Nat) : Int) := by
  rw [← Int.natCast_emod]
  generalize n % y = q at *
  omega
theorem shl_or (hi lo : Nat) (h1 : hi < 4294967296) (h2 : lo < 4294967296) : bits .or .u64 ((hi : Int) * 4294967296) (lo : Int) = (hi : Int) * 4294967296 + lo := by
  have e : ((hi : Int) * 4294967296) = ((hi * 4294967296 : Nat) : Int) := by omega
  rw [e, u64_or_nat _ _ (by omega) (by omega), nat_join 32 _ _ (by omega) (by omega)]
  omega

set_option maxHeartbeats 400000 in
theorem Div32_any (hi lo y : Nat) (w : World) (h1 : hi < y) (h2 : lo < 4294967296) (h3 : y < 4294967296) :
    Calls Try.prog 94 #[.int .u32 hi, .int .u32 lo, .int .u32 y] w fun e w' => e = .returned (.tuple #[.int .u32 (((hi * 4294967296 + lo) / y : Nat) : Int), .int .u32 (((hi * 4294967296 + lo) % y : Nat) : Int)]) ∧ ∃ n, w' = w.drewN n := by
  have b1 : (((y : Nat) : Int) != 0) = true := by rw [bne_iff_ne]; omega
  have b2 : decide (((y : Nat) : Int) ≤ ((hi : Nat) : Int)) = false := by simp; omega
  have b3 : decide (y ≤ hi) = false := by simp; omega
  have so := shl_or hi lo (by omega) h2
  go_enter Try.func94, Try.ntmps94
  go_wp2_with fail
  have y0 : 0 < y := by omega
  have hq : (hi * 4294967296 + lo) / y < 4294967296 := by rw [Nat.div_lt_iff_lt_mul (by omega)]; omega
  have hr : (hi * 4294967296 + lo) % y < y := Nat.mod_lt _ y0
  go_quiet (fail)
  go_wp2
  go_ret2
  have f1 : ((hi : Int) * 4294967296 + lo) / (y : Int) % 4294967296 = (((hi * 4294967296 + lo) / y : Nat) : Int) := by
    rw [show ((hi : Int) * 4294967296 + lo) = ((hi * 4294967296 + lo : Nat) : Int) by omega]
    exact small_div _ _ hq
  have f2 : ((hi : Int) * 4294967296 + lo) % (y : Int) % 4294967296 = (((hi * 4294967296 + lo) % y : Nat) : Int) := by
    rw [show ((hi : Int) * 4294967296 + lo) = ((hi * 4294967296 + lo : Nat) : Int) by omega]
    exact small_mod _ _ (Nat.lt_trans hr h3)
  exact ⟨by rw [← f1, ← f2]; rfl, _, rfl⟩

end Go.Proofs.Ytmmmpdpgkjcohaa
