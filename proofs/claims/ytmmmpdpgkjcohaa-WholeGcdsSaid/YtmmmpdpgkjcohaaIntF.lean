/- Package whole: limbsOf, Of, low, Small. -/
import Derived.Test.YtmmmpdpgkjcohaaIntE
namespace Go.Proofs.Ytmmmpdpgkjcohaa
open Go.RowKit

theorem Num.two (w : World) (x y : Nat) (hx : x < 4294967296) (hy : y < 4294967296) : Num (w.alloc (.cells #[.int .u32 x, .int .u32 y] 65)) (.slice (some ⟨w.heap.size, 0, none⟩) 2 2) (x + 4294967296 * y) 2 := by
  refine ⟨[x, y], ⟨_, 2, rfl, Nat.le_refl _, by omega, .inr ⟨w.heap.size, 0, rfl, by simp, fun j hj => ?_⟩⟩, All.cons hx (All.cons hy (All.nil _)), by simp [val], Nat.le_refl _⟩
  have : j = 0 ∨ j = 1 := by simp at hj; omega
  rcases this with rfl | rfl <;> simp [go_sem, nth]
theorem limbsOf_n (X : Nat) (w : World) (hX : X < 18446744073709551616) : Calls Try.prog 64 #[.int .u64 X] w (MadeN w X 2) := by
  have h2 : X / 4294967296 < 4294967296 := by omega
  have e1 : ((X : Int) % 4294967296) = ((X % 4294967296 : Nat) : Int) := by omega
  have e2 : ((X : Int) / 4294967296) = ((X / 4294967296 : Nat) : Int) := by omega
  have hv : X % 4294967296 + 4294967296 * (X / 4294967296) = X := by omega
  generalize hA : X / 4294967296 = A at *
  generalize hB : X % 4294967296 = B at *
  go_enter Try.func64, Try.ntmps64
  go_wp2_with fail
  refine (Norm_n (Num.two w B A (by omega) (by omega)) (by omega)).mono ?_
  rintro e w' ⟨v, rfl, h, bd, hg⟩
  rw [hv] at h bd
  have G := grown_trans (grown_alloc w (.cells #[.int .u32 B, .int .u32 A] 65) none) hg
  have h' := h.mono (grown_alloc w (.cells #[.int .u32 B, .int .u32 A] 65) none).size
  clear hA hB e1 e2 h hg
  go_wp2_with fail
  go_ret
  exact ⟨v, rfl, h', bd, G⟩


set_option maxHeartbeats 1000000 in
theorem Of_pos (N : Nat) (w : World) (hN : N ≤ 9223372036854775807) : Calls Try.prog 31 #[.int .i64 (N : Int)] w (MadeI w ((N : Int)) 2) := by
  have S0 : Kept w [] [w.heap.size] (w.alloc (.cells #[.bool false, .slice none 0 0] 24)) := (Kept.start w).res _ _ _ _ _ rfl
  go_enter Try.func31, Try.ntmps31
  go_wp2_with fail
  have S1 := S0
  refine (limbsOf_n N _ (by omega)).mono ?_
  rintro e w1 ⟨v, rfl, h, bd, hg⟩
  obtain ⟨pv, nv, rfl⟩ := h.slice
  replace S0 := S0.grown _ _ hg
  clear hg
  go_wp2_with fail
  refine (signed_any _ _ _ _ _).mono ?_
  rintro e w2 ⟨rfl, hg⟩
  replace h := h.grown hg (.inl rfl)
  replace S0 := S0.grown _ _ hg
  clear hg
  obtain ⟨r0, r1, f0, f1, G⟩ := id S0
  go_wp2_with fail
  exact end_signed (b := false) Try.results31 rfl rfl (set2_fst r0) (set2_snd r1) (Kept.all _ _ (Kept.set _ _ (by simp) (Nat.le_refl _) S0)) h S1.size (S1.lt (by simp)) rfl bd
set_option maxHeartbeats 1000000 in
theorem Of_neg (N : Nat) (w : World) (hN : N ≤ 9223372036854775808) (h0 : 0 < N) : Calls Try.prog 31 #[.int .i64 (-(N : Int))] w (MadeI w ((-(N : Int))) 2) := by
  have S0 : Kept w [] [w.heap.size] (w.alloc (.cells #[.bool false, .slice none 0 0] 24)) := (Kept.start w).res _ _ _ _ _ rfl
  have E := Lib.hid (show IntKind.u64.wrap (-IntKind.u64.wrap (-(N : Int))) = N by rw [IntKind.wrap_u64, IntKind.wrap_u64]; omega)
  go_enter Try.func31, Try.ntmps31
  go_wp2_with fail
  rw [E.out]
  have S1 := S0
  refine (limbsOf_n N _ (by omega)).mono ?_
  rintro e w1 ⟨v, rfl, h, bd, hg⟩
  obtain ⟨pv, nv, rfl⟩ := h.slice
  replace S0 := S0.grown _ _ hg
  clear hg
  go_wp2_with fail
  refine (signed_any _ _ _ _ _).mono ?_
  rintro e w2 ⟨rfl, hg⟩
  replace h := h.grown hg (.inl rfl)
  replace S0 := S0.grown _ _ hg
  clear hg
  obtain ⟨r0, r1, f0, f1, G⟩ := id S0
  go_wp2_with fail
  exact end_signed (b := true) Try.results31 rfl rfl (set2_fst r0) (set2_snd r1) (Kept.all _ _ (Kept.set _ _ (by simp) (Nat.le_refl _) S0)) h S1.size (S1.lt (by simp)) rfl bd
theorem Of_i (z : Int) (w : World) (h1 : -9223372036854775808 ≤ z) (h2 : z ≤ 9223372036854775807) : Calls Try.prog 31 #[.int .i64 z] w (MadeI w z 2) := by
  rcases Int.lt_or_le z 0 with h | h
  · obtain ⟨N, rfl⟩ : ∃ N : Nat, z = -(N : Int) := ⟨z.natAbs, by omega⟩
    exact Of_neg N w (by omega) (by omega)
  · obtain ⟨N, rfl⟩ : ∃ N : Nat, z = (N : Int) := ⟨z.natAbs, by omega⟩
    exact Of_pos N w (by omega)

/-- The number that the lowest two limbs make. -/
def lowN (xs : List Nat) (n k : Nat) : Nat := val 4294967296 ((xs.take n).drop k)
theorem lowN_step {xs : List Nat} {n k : Nat} (hn : n ≤ xs.length) (hk : k < n) : lowN xs n k = nth xs k + 4294967296 * lowN xs n (k + 1) := by
  unfold lowN
  rw [val_drop_step _ _ (by rw [List.length_take]; omega), nth_take _ hk]
theorem lowN_end (xs : List Nat) {n : Nat} : lowN xs n n = 0 := by
  unfold lowN
  rw [List.drop_of_length_le (by rw [List.length_take]; omega)]
  rfl
theorem lowN_lt {xs : List Nat} (a : All 4294967296 xs) {n k : Nat} (hn : n ≤ 2) (hk : 1 ≤ k) : lowN xs n k < 4294967296 := by
  have := val_lt ((a.take n).drop k)
  have hl : ((xs.take n).drop k).length ≤ 1 := by rw [List.length_drop, List.length_take]; omega
  exact Nat.lt_of_lt_of_le this (Nat.le_trans (Nat.pow_le_pow_right (by omega) hl) (by omega))
set_option maxHeartbeats 1000000 in
theorem low_n {xs : List Nat} {s : Value} {w : World} (n : Nat) (hn : min xs.length 2 = n) (hx : Sl w .u32 s xs) (ax : All 4294967296 xs) :
    Calls Try.prog 63 #[s] w fun e w' => e = .returned (.int .u64 (lowN xs n 0)) ∧ w = w' := by
  obtain ⟨p, cap, rfl, h1, h2, h3⟩ := id hx
  have Ax := Lib.hid ax
  have hm : min (xs.length : Int) 2 = (n : Int) := by omega
  have hl : n ≤ xs.length := by omega
  have h2' : n ≤ 2 := by omega
  obtain ⟨m, hm'⟩ : ∃ m, xs.length = m := ⟨_, rfl⟩
  have Hm := Lib.hid hm'
  rw [hm'] at hm hl h1 hn ⊢
  clear hx ax hm'
  by_cases hc : 2 < m
  · obtain rfl : n = 2 := by omega
    have hc' : (2 : Int) < (m : Int) := by omega
    clear hn hm hl
    go_enter Try.func63, Try.ntmps63
    go_wp2_with fail
    go_loopw [3, 4] (fun nv iv wr => ∃ (k : Nat) (q : Int), k ≤ 2 ∧ iv = .int .i64 q ∧ q = (k : Int) - 1 ∧ nv = .int .u64 (lowN xs 2 k) ∧ wr = w) (fun _ iv _ => (intOf iv + 1).toNat)
    case atStart => exact ⟨2, _, Nat.le_refl _, by go_num, by omega, by rw [lowN_end]; rfl, rfl⟩
    case round =>
      obtain ⟨k, q, hk, rfl, hq, rfl, rfl⟩ := hrel
      cases k with
      | zero =>
        obtain rfl : q = -1 := by omega
        clear hq
        go_wp2_with fail
        go_ret
        exact ⟨rfl, rfl⟩
      | succ k =>
        obtain rfl : q = (k : Int) := by omega
        rcases h3 with h3 | ⟨b, off, rfl, hbl, hyx⟩
        · have := Hm.out; rw [h3] at this; simp at this; omega
        have c1 := hyx k (by rw [Hm.out]; omega)
        have b1 : nth xs k < 4294967296 := nth_lt (by omega) Ax.out k
        have HO := Lib.hid (or_up (lowN xs 2 (k + 1)) (nth xs k) b1)
        have HL := Lib.hid (lowN_lt Ax.out (n := 2) (k := k + 1) (by omega) (by omega))
        have HS := Lib.hid (lowN_step (xs := xs) (n := 2) (k := k) (by rw [Hm.out]; omega) (by omega))
        have i1 : (k : Int) < (m : Int) := by omega
        clear hq hyx
        generalize lowN xs 2 (k + 1) = av at *
        go_wp2_with fail
        go_roundw
        case rel => exact ⟨k, _, by omega, rfl, rfl, int_eq (by rw [HO.out, HS.out]; have := HL.out; omega), trivial⟩
        case measure => simp [intOf] <;> omega
  · obtain rfl : n = m := by omega
    have hc' : ¬ (2 : Int) < (n : Int) := by omega
    clear hn hm hl
    go_enter Try.func63, Try.ntmps63
    go_wp2_with fail
    go_loopw [3, 4] (fun nv iv wr => ∃ (k : Nat) (q : Int), k ≤ n ∧ iv = .int .i64 q ∧ q = (k : Int) - 1 ∧ nv = .int .u64 (lowN xs n k) ∧ wr = w) (fun _ iv _ => (intOf iv + 1).toNat)
    case atStart => exact ⟨n, _, Nat.le_refl _, by go_num, by omega, by rw [lowN_end]; rfl, rfl⟩
    case round =>
      obtain ⟨k, q, hk, rfl, hq, rfl, rfl⟩ := hrel
      cases k with
      | zero =>
        obtain rfl : q = -1 := by omega
        clear hq
        go_wp2_with fail
        go_ret
        exact ⟨rfl, rfl⟩
      | succ k =>
        obtain rfl : q = (k : Int) := by omega
        rcases h3 with h3 | ⟨b, off, rfl, hbl, hyx⟩
        · have := Hm.out; rw [h3] at this; simp at this; omega
        have c1 := hyx k (by rw [Hm.out]; omega)
        have b1 : nth xs k < 4294967296 := nth_lt (by omega) Ax.out k
        have HO := Lib.hid (or_up (lowN xs n (k + 1)) (nth xs k) b1)
        have HL := Lib.hid (lowN_lt Ax.out (n := n) (k := k + 1) (by omega) (by omega))
        have HS := Lib.hid (lowN_step (xs := xs) (n := n) (k := k) (by rw [Hm.out]; omega) (by omega))
        have i1 : (k : Int) < (n : Int) := by omega
        clear hq hyx
        generalize lowN xs n (k + 1) = av at *
        go_wp2_with fail
        go_roundw
        case rel => exact ⟨k, _, by omega, rfl, rfl, int_eq (by rw [HO.out, HS.out]; have := HL.out; omega), trivial⟩
        case measure => simp [intOf] <;> omega

theorem lowN_all {xs : List Nat} {n : Nat} (hn : min xs.length 2 = n) (h : val 4294967296 xs < 18446744073709551616) : lowN xs n 0 = val 4294967296 xs := by
  unfold lowN
  rw [List.drop_zero]
  have e := val_take_drop 4294967296 xs (k := n) (by omega)
  by_cases h2 : xs.length ≤ n
  · rw [List.take_of_length_le h2]
  · obtain rfl : n = 2 := by omega
    have : val 4294967296 (xs.drop 2) = 0 := by
      rcases Nat.eq_zero_or_pos (val 4294967296 (xs.drop 2)) with h0 | h0
      · exact h0
      · have : 4294967296 ^ 2 * 1 ≤ 4294967296 ^ 2 * val 4294967296 (xs.drop 2) := Nat.mul_le_mul_left _ h0
        omega
    rw [this] at e
    omega
theorem bits_few {X : Nat} (h : X < 4611686018427387904) : (dig 2 X).length ≤ 62 := dig_len_le (by omega) 62 X h
theorem bits_many {X : Nat} (h : 4611686018427387904 ≤ X) : 62 < (dig 2 X).length := by
  rcases Nat.lt_or_ge 62 (dig 2 X).length with h1 | h1
  · exact h1
  · have := dig_lt_pow (b := 2) (by omega) X
    have := Nat.pow_le_pow_right (n := 2) (by omega) h1
    omega
set_option maxHeartbeats 1000000 in
theorem Small_no {v : Value} {z : Int} {k : Nat} {w : World} (hx : IntV w v z k) (hk : k ≤ 1000000) (hz : 4611686018427387904 ≤ z.natAbs) :
    Calls Try.prog 30 #[v] w fun e w' => e = .returned (.tuple #[.int .i64 0, .bool false]) ∧ w.grownBy w' none := by
  obtain ⟨b, s, X, rfl, hx, rfl⟩ := hx
  rw [sg_abs] at hz
  obtain ⟨p, n, cap, rfl⟩ := hx.slice
  have Hx := Lib.hid hx
  have S0 : Kept w [(w.heap.size, 0, .bool b), (w.heap.size, 1, .slice p n cap)] [] (w.alloc (.cells #[.bool b, .slice p n cap] 24)) := (Kept.start w).box _ _ _ _ rfl
  have Hz := Lib.hid (bits_many hz)
  clear hx hz
  go_enter Try.func30, Try.ntmps30
  go_wp2_with fail
  refine (Bits_n (Hx.out.grown (Kept.all _ _ S0)) hk).mono ?_
  rintro e w' ⟨rfl, rfl⟩
  have hl := Hz.out
  generalize (dig 2 X).length = l at *
  have hl' : (62 : Int) < (l : Int) := by omega
  go_wp2_with fail
  go_ret2
  exact ⟨rfl, Kept.all _ _ S0⟩
set_option maxHeartbeats 1000000 in
theorem Small_yes {v : Value} {z : Int} {k : Nat} {w : World} (hx : IntV w v z k) (hk : k ≤ 1000000) (hz : z.natAbs < 4611686018427387904) :
    Calls Try.prog 30 #[v] w fun e w' => e = .returned (.tuple #[.int .i64 z, .bool true]) ∧ w.grownBy w' none := by
  obtain ⟨b, s, X, rfl, hx, rfl⟩ := hx
  rw [sg_abs] at hz
  obtain ⟨p, n, cap, rfl⟩ := hx.slice
  have Hx := Lib.hid hx
  have S0 : Kept w [(w.heap.size, 0, .bool b), (w.heap.size, 1, .slice p n cap)] [] (w.alloc (.cells #[.bool b, .slice p n cap] 24)) := (Kept.start w).box _ _ _ _ rfl
  have Hz := Lib.hid (bits_few hz)
  clear hx
  cases b
  all_goals
    go_enter Try.func30, Try.ntmps30
    go_wp2_with fail
    refine (Bits_n (Hx.out.grown (Kept.all _ _ S0)) hk).mono ?_
    rintro e w' ⟨rfl, rfl⟩
    have hl := Hz.out
    generalize (dig 2 X).length = l at *
    have hl' : ¬ (62 : Int) < (l : Int) := by omega
    obtain ⟨c0, c1, G⟩ := id S0
    go_wp2_with fail
    obtain ⟨xs, a1, a2, a3, a4⟩ := Hx.out.grown G
    refine (low_n (min xs.length 2) rfl a1 a2).mono ?_
    rintro e w' ⟨rfl, rfl⟩
    rw [lowN_all rfl (by omega), a3]
    clear a1 a2 a3 a4
    have q0 : (X : Int) < 9223372036854775808 := by omega
    go_wp2_with fail
    go_ret2
    exact ⟨rfl, G⟩

end Go.Proofs.Ytmmmpdpgkjcohaa
