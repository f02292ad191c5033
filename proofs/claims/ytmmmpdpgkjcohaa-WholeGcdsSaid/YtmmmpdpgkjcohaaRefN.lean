/- The reference's small numbers: Of. -/
import Derived.Test.YtmmmpdpgkjcohaaRefM
namespace Go.Proofs.Ytmmmpdpgkjcohaa
open Go.RowKit

theorem bd_2 {X : Nat} (h : X < 18446744073709551616) : Bd X 2 := by unfold Bd; omega
theorem dig_low {m : Nat} (h : m < 9223372036854775809) : (dig 10000 m).length ≤ 5 := dig_len_le (by omega) 5 m (by omega)
theorem dig_next (l : List Nat) {m : Nat} (h : 0 < m) : l ++ dig 10000 m = (l ++ [m % 10000]) ++ dig 10000 (m / 10000) := by
  rw [dig_pos (by omega) h]; simp

set_option maxHeartbeats 2000000 in
set_option maxRecDepth 100000 in
theorem Of_pos_r (N : Nat) (w : World) (hN : N ≤ 9223372036854775807) :
    Calls Try.prog 29 #[.int .i64 (N : Int)] w (MadeR w ((N : Int)) 2) := by
  obtain ⟨i0, hi, hz0, hz1, hz2⟩ := info_parts Try.infoI
  have S0 : Kept w [] [w.heap.size] (w.alloc (.cells #[.slice none 0 0, .bool false] 28)) := (Kept.start w).res _ _ _ _ _ rfl
  have hq : ((N : Int) == (-9223372036854775808 : Int)) = false := by
    rw [beq_eq_false_iff_ne]
    omega
  have NL := Lib.hid (dig_low (m := N) (by omega))
  go_enter Try.func29, Try.ntmps29
  go_wp2_with fail
  generalize w.alloc (.cells #[.slice none 0 0, .bool false] 28) = W1 at *
  have Hs := S0.size
  have Hl := S0.lt (g := w.heap.size) (by simp)
  go_loopw [0, 4] (fun nv ov wr => ∃ (m : Nat) (l : List Nat), m ≤ N ∧ nv = .int .i64 m ∧ Hid (dig 10000 N = l ++ dig 10000 m) ∧ Own wr 3 .i64 W1.heap.size ov l ∧ W1.grownBy wr none) (fun nv _ _ => (intOf nv).toNat)
  case atStart => exact ⟨N, [], Nat.le_refl _, by go_num, rfl, Own.nil _ _ _ _, grown_refl _ _⟩
  case round =>
    obtain ⟨m, l, hm, rfl, hd, ho, gr⟩ := hrel
    obtain ⟨op, ocap, rfl⟩ := ho.slice
    have Ho := Lib.hid ho
    have Gr := Lib.hid gr
    clear ho gr
    by_cases h0 : m = 0
    · subst h0
      have hd' := hd.out
      rw [dig_zero, List.append_nil] at hd'
      subst hd'
      clear hd
      go_wp2_with fail
      refine (made_any _ _ _ _ _).mono ?_
      rintro e w2 ⟨rfl, hg⟩
      have h := Ho.out.grown hg (.inl rfl)
      replace S0 := S0.grown _ _ (grown_trans Gr.out hg)
      clear hg
      obtain ⟨r0, r1, f0, f1, G⟩ := id S0
      go_wp2_with fail
      exact end_dec (b := false) Try.results29 rfl rfl (set2_fst r0) (set2_snd r1) (Kept.all _ _ (Kept.set _ _ (by simp) (Nat.le_refl _) S0)) h Hs Hl rfl rfl (bd_2 (by omega))
    · have hp : 0 < m := by omega
      have Hd2 := Lib.hid (show _ = _ from hd.out.trans (dig_next l hp))
      have Lz := Lib.hid (show l.length ≤ 5 by
        have := NL.out
        rw [hd.out, List.length_append] at this
        omega)
      clear hd
      have hp' : (0 : Int) < (m : Int) := by omega
      go_wp2_with (at_builtin; refine wp_append1 rfl _ _ 26 rfl 3 i0 (.int .i64 0) .i64 Try.underlying26 hi hz0 hz1 (by omega) rfl W1.heap.size (.slice op l.length ocap) l (m % 10000) rfl (Ho.out.grown (grown_alloc _ _ none) (.inl rfl)) wr.heap.size rfl ?c1 (by have := Lz.out; omega) (by have := Gr.out.size; simp; omega) ?_; (case c1 => exact (World.cell?_alloc_at _ _ _ _ rfl).trans (by simp; try omega)); intro v' w3 ho3 g3; have Ho3 := Lib.hid ho3; have G3 := Lib.hid (grown_own (v := .slice op l.length ocap) g3 (Ho.out.grown (grown_alloc _ _ none) (.inl rfl)) (grown_trans Gr.out (grown_alloc _ _ _))); clear ho3 g3)
      go_roundw
      case rel => exact ⟨m / 10000, l ++ [m % 10000], by omega, by go_num, Hd2.out, Ho3.out, G3.out⟩
      case measure => simp [intOf]; omega

set_option maxHeartbeats 2000000 in
set_option maxRecDepth 100000 in
theorem Of_neg_r (N : Nat) (w : World) (hN : N ≤ 9223372036854775807) (h0 : 0 < N) :
    Calls Try.prog 29 #[.int .i64 (-(N : Int))] w (MadeR w ((-(N : Int))) 2) := by
  obtain ⟨i0, hi, hz0, hz1, hz2⟩ := info_parts Try.infoI
  have S0 : Kept w [] [w.heap.size] (w.alloc (.cells #[.slice none 0 0, .bool false] 28)) := (Kept.start w).res _ _ _ _ _ rfl
  have hq : ((-(N : Int)) == (-9223372036854775808 : Int)) = false := by
    rw [beq_eq_false_iff_ne]
    omega
  have NL := Lib.hid (dig_low (m := N) (by omega))
  go_enter Try.func29, Try.ntmps29
  go_wp2_with fail
  generalize w.alloc (.cells #[.slice none 0 0, .bool false] 28) = W1 at *
  have Hs := S0.size
  have Hl := S0.lt (g := w.heap.size) (by simp)
  go_loopw [0, 4] (fun nv ov wr => ∃ (m : Nat) (l : List Nat), m ≤ N ∧ nv = .int .i64 m ∧ Hid (dig 10000 N = l ++ dig 10000 m) ∧ Own wr 3 .i64 W1.heap.size ov l ∧ W1.grownBy wr none) (fun nv _ _ => (intOf nv).toNat)
  case atStart => exact ⟨N, [], Nat.le_refl _, by go_num, rfl, Own.nil _ _ _ _, grown_refl _ _⟩
  case round =>
    obtain ⟨m, l, hm, rfl, hd, ho, gr⟩ := hrel
    obtain ⟨op, ocap, rfl⟩ := ho.slice
    have Ho := Lib.hid ho
    have Gr := Lib.hid gr
    clear ho gr
    by_cases h0 : m = 0
    · subst h0
      have hd' := hd.out
      rw [dig_zero, List.append_nil] at hd'
      subst hd'
      clear hd
      go_wp2_with fail
      refine (made_any _ _ _ _ _).mono ?_
      rintro e w2 ⟨rfl, hg⟩
      have h := Ho.out.grown hg (.inl rfl)
      replace S0 := S0.grown _ _ (grown_trans Gr.out hg)
      clear hg
      obtain ⟨r0, r1, f0, f1, G⟩ := id S0
      go_wp2_with fail
      exact end_dec (b := true) Try.results29 rfl rfl (set2_fst r0) (set2_snd r1) (Kept.all _ _ (Kept.set _ _ (by simp) (Nat.le_refl _) S0)) h Hs Hl rfl rfl (bd_2 (by omega))
    · have hp : 0 < m := by omega
      have Hd2 := Lib.hid (show _ = _ from hd.out.trans (dig_next l hp))
      have Lz := Lib.hid (show l.length ≤ 5 by
        have := NL.out
        rw [hd.out, List.length_append] at this
        omega)
      clear hd
      have hp' : (0 : Int) < (m : Int) := by omega
      go_wp2_with (at_builtin; refine wp_append1 rfl _ _ 26 rfl 3 i0 (.int .i64 0) .i64 Try.underlying26 hi hz0 hz1 (by omega) rfl W1.heap.size (.slice op l.length ocap) l (m % 10000) rfl (Ho.out.grown (grown_alloc _ _ none) (.inl rfl)) wr.heap.size rfl ?c1 (by have := Lz.out; omega) (by have := Gr.out.size; simp; omega) ?_; (case c1 => exact (World.cell?_alloc_at _ _ _ _ rfl).trans (by simp; try omega)); intro v' w3 ho3 g3; have Ho3 := Lib.hid ho3; have G3 := Lib.hid (grown_own (v := .slice op l.length ocap) g3 (Ho.out.grown (grown_alloc _ _ none) (.inl rfl)) (grown_trans Gr.out (grown_alloc _ _ _))); clear ho3 g3)
      go_roundw
      case rel => exact ⟨m / 10000, l ++ [m % 10000], by omega, by go_num, Hd2.out, Ho3.out, G3.out⟩
      case measure => simp [intOf]; omega

set_option maxHeartbeats 1000000 in
theorem Of_min_r (w : World) : Calls Try.prog 29 #[.int .i64 (-9223372036854775808)] w (MadeR w (-9223372036854775808) 2) := by
  have S0 : Kept w [] [w.heap.size] (w.alloc (.cells #[.slice none 0 0, .bool false] 28)) := (Kept.start w).res _ _ _ _ _ rfl
  have hz : sg true (2 ^ 63) = -9223372036854775808 := by simp [sg]
  go_enter Try.func29, Try.ntmps29
  go_wp2_with fail
  have S1 := S0
  refine (PowD_n 63 2 (by omega) (by omega)).mono ?_
  rintro e w1 ⟨v, rfl, h, bd, hg⟩
  obtain ⟨pv, nv, rfl⟩ := h.slice
  replace S0 := S0.grown _ _ hg
  clear hg
  generalize hP : (2 : Nat) ^ 63 = P at *
  go_wp2_with fail
  refine (made_any _ _ _ _ _).mono ?_
  rintro e w2 ⟨rfl, hg⟩
  replace h := h.grown hg (.inl rfl)
  replace S0 := S0.grown _ _ hg
  clear hg
  obtain ⟨r0, r1, f0, f1, G⟩ := id S0
  go_wp2_with fail
  exact end_dec (b := true) Try.results29 rfl rfl (set2_fst r0) (set2_snd r1) (Kept.all _ _ (Kept.set _ _ (by simp) (Nat.le_refl _) S0)) h S1.size (S1.lt (by simp)) rfl hz bd
theorem Of_r (z : Int) (w : World) (h1 : -9223372036854775808 ≤ z) (h2 : z ≤ 9223372036854775807) : Calls Try.prog 29 #[.int .i64 z] w (MadeR w z 2) := by
  by_cases h3 : z = -9223372036854775808
  · subst h3
    exact Of_min_r w
  · rcases Int.lt_or_le z 0 with h | h
    · obtain ⟨N, rfl⟩ : ∃ N : Nat, z = -(N : Int) := ⟨z.natAbs, by omega⟩
      exact Of_neg_r N w (by omega) (by omega)
    · obtain ⟨N, rfl⟩ : ∃ N : Nat, z = (N : Int) := ⟨z.natAbs, by omega⟩
      exact Of_pos_r N w (by omega)

end Go.Proofs.Ytmmmpdpgkjcohaa
