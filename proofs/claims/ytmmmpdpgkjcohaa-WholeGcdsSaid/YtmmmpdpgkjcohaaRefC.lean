/- Package orreryref01: ToN. -/
import Derived.Test.YtmmmpdpgkjcohaaRefB
namespace Go.Proofs.Ytmmmpdpgkjcohaa
open Go.RowKit

theorem own_apart {w w' : World} {e e' : TypeId} {k k' : IntKind} {B B' : Nat} {v u : Value} {xs ys : List Nat} (h : Own w e k B v xs) (h' : Own w' e' k' B' u ys) (hs : w'.heap.size ≤ B) : u.ownBlock = none ∨ v.ownBlock ≠ u.ownBlock := by
  cases hu : u.ownBlock with
  | none => exact .inl rfl
  | some g =>
    right
    intro e
    have := (h.lt g e).1
    have := (h'.lt g hu).2
    omega
theorem dig_len_mono {b m n : Nat} (hb : 2 ≤ b) (h : m ≤ n) : (dig b m).length ≤ (dig b n).length :=
  dig_len_le hb _ _ (Nat.lt_of_le_of_lt h (dig_lt_pow hb n))
theorem dig_len_down {n : Nat} (h : 0 < n) : (dig 10000 (n / 4294967296)).length < (dig 10000 n).length := by
  have h1 := dig_pos (b := 10000) (by omega) h
  have h2 := dig_len_mono (b := 10000) (by omega) (show n / 4294967296 ≤ n / 10000 by omega)
  rw [h1]
  simp
  omega
theorem take_dig {X Y j : Nat} (hY : Y = X / 4294967296 ^ j) (h : 0 < Y) : (dig 4294967296 X).take j ++ [Y % 4294967296] = (dig 4294967296 X).take (j + 1) ∧ j < (dig 4294967296 X).length := by
  have hj : j < (dig 4294967296 X).length := by
    rcases Nat.lt_or_ge j (dig 4294967296 X).length with hh | hh
    · exact hh
    · have h1 := dig_lt_pow (b := 4294967296) (by omega) X
      have h2 : X < 4294967296 ^ j := Nat.lt_of_lt_of_le h1 (Nat.pow_le_pow_right (by omega) hh)
      rw [Nat.div_eq_of_lt h2] at hY
      omega
  refine ⟨?_, hj⟩
  rw [take_step _ hj, dig_nth (by omega), ← hY]
theorem take_dig_end {X j : Nat} (hY : 0 = X / 4294967296 ^ j) : (dig 4294967296 X).take j = dig 4294967296 X := by
  refine List.take_of_length_le (dig_len_le (by omega) _ _ ?_)
  rcases Nat.lt_or_ge X (4294967296 ^ j) with h | h
  · exact h
  · have := Nat.div_pos h (Nat.pow_pos (by omega))
    omega

set_option maxHeartbeats 1000000 in
theorem RTo {v : Value} {X : Nat} {w : World} (hx : Sl w .i64 v (dig 10000 X)) (hlen : (dig 10000 X).length ≤ 4000000) :
    Calls Try.prog 68 #[v] w (Made 65 .u32 w (dig 4294967296 X)) := by
  obtain ⟨p, cap, rfl, -⟩ := id hx
  obtain ⟨i0, hi, hz0, hz1, hz2⟩ := info_parts Try.infoU
  obtain ⟨L, hL⟩ : ∃ L, (dig 10000 X).length = L := ⟨_, rfl⟩
  have Lx := Lib.hid (show (dig 4294967296 X).length ≤ (dig 10000 X).length from dig_len_le (by omega) _ _ (Nat.lt_of_lt_of_le (dig_lt_pow (b := 10000) (by omega) X) (Nat.pow_le_pow_left (by omega) _)))
  rw [hL] at hx hlen Lx ⊢
  have Hx := Lib.hid hx
  have HL := Lib.hid hL
  clear hx hL
  go_enter Try.func68, Try.ntmps68
  go_wp2_with fail
  go_loopw [0, 3] (fun av o wr => ∃ (j Y : Nat), Hid (Y = X / 4294967296 ^ j) ∧ (dig 10000 Y).length ≤ L ∧ Sl wr .i64 av (dig 10000 Y) ∧ Own wr 65 .u32 w.heap.size o ((dig 4294967296 X).take j) ∧ w.grownBy wr none) (fun av _ _ => lenOf av)
  case atStart =>
    refine ⟨0, X, by show X = _; simp, by rw [HL.out]; omega, Hx.out, Own.nil _ _ _ _, grown_refl _ _⟩
  case round =>
    obtain ⟨j, Y, hY, hl, ha, ho, gr⟩ := hrel
    obtain ⟨ap, acap, rfl, -⟩ := id ha
    obtain ⟨op, ocap, rfl⟩ := ho.slice
    have Ha := Lib.hid ha
    have Ho := Lib.hid ho
    have Gr := Lib.hid gr
    by_cases h0 : Y = 0
    · subst h0
      clear ha ho gr
      have e := dig_zero 10000
      rw [e] at Ha ⊢
      rw [take_dig_end hY.out] at Ho ⊢
      clear e
      go_wp2_with fail
      go_ret
      exact ⟨_, rfl, Ho.out, Gr.out⟩
    · have hp : 0 < Y := by omega
      have hl0 : 0 < (dig 10000 Y).length := by
        have := dig_len_zero (b := 10000) (n := Y) (by omega)
        omega
      have Td := Lib.hid (take_dig hY.out hp)
      have Dn := Lib.hid (dig_len_down hp)
      have Dm := Lib.hid (show (dig 10000 (Y / 65536)).length ≤ L from Nat.le_trans (dig_len_mono (by omega) (Nat.div_le_self _ _)) hl)
      obtain ⟨LY, hLY⟩ : ∃ LY, (dig 10000 Y).length = LY := ⟨_, rfl⟩
      have HLY := Lib.hid hLY
      rw [hLY] at hl0 hl Ha ⊢
      obtain ⟨Z, hZ⟩ : ∃ Z, (dig 4294967296 X).take j = Z := ⟨_, rfl⟩
      have HZ := Lib.hid hZ
      rw [hZ] at Ho ⊢
      have zl : Z.length ≤ L := by
        rw [← hZ, List.length_take]
        have := Lx.out
        omega
      clear ha ho gr h0 hLY hZ
      go_wp2_with fail
      refine (Rsmall_n Ha.out (by rw [HLY.out]; omega)).mono ?_
      rintro e w2 ⟨v2, rfl, ho2, g2⟩
      have Ho2 := Lib.hid ho2
      have G2 := Lib.hid (grown_trans Gr.out g2)
      have OO := Lib.hid (Ho.out.grown g2 (.inl rfl))
      clear ho2 g2
      go_wp2_with fail
      refine (Rsmall_n Ho2.out.sl (by have := Dm.out; omega)).mono ?_
      rintro e w3 ⟨v3, rfl, ho3, g3⟩
      have Ho3 := Lib.hid ho3
      have G3 := Lib.hid (grown_trans G2.out g3)
      have OO3 := Lib.hid (OO.out.grown g3 (.inl rfl))
      clear ho3 g3
      have oa := own_apart Ho3.out OO.out (Nat.le_refl _)
      have OB := Lib.hid (show w.heap.size ≤ w3.heap.size from G3.out.size)
      have Oa := Lib.hid oa
      clear oa
      go_wp2_with (at_builtin; refine wp_append1 rfl _ _ 22 rfl 65 i0 (.int .u32 0) .u32 Try.underlying22 hi hz0 hz1 (by omega) rfl w.heap.size (.slice op Z.length ocap) Z (Y % 4294967296) rfl (OO3.out.grown (grown_alloc _ _ none) (.inl rfl)) w3.heap.size rfl ?c1 (by omega) (by have := OB.out; simp; omega) ?_; (case c1 => exact (World.cell?_alloc_at _ _ _ _ rfl).trans (by simp; omega)); intro v' w4 ho4 g4; have Ho4 := Lib.hid ho4; have G4 := Lib.hid (grown_own (v := .slice op Z.length ocap) g4 (OO3.out.grown (grown_alloc _ _ none) (.inl rfl)) (grown_trans G3.out (grown_alloc _ _ _))); have A4 := Lib.hid ((Ho3.out.sl.grown (grown_alloc _ _ none) (.inl rfl)).grown g4 Oa.out); clear ho4 g4)
      go_roundw
      case rel =>
        refine ⟨j + 1, Y / 4294967296, ?_, ?_, ?_, ?_, G4.out⟩
        · show _ = _
          rw [hY.out, Nat.pow_succ, Nat.div_div_eq_div_mul]
        · have := Dn.out; have := HLY.out; omega
        · have e : Y / 65536 / 65536 = Y / 4294967296 := by omega
          rw [← e]; exact A4.out
        · rw [← Td.out.1, HZ.out]; exact Ho4.out
      case measure =>
        obtain ⟨p3, cap3, rfl⟩ := Ho3.out.slice
        have := Dn.out
        have := HLY.out
        have e : Y / 65536 / 65536 = Y / 4294967296 := by omega
        simp only [lenOf, e]
        omega

end Go.Proofs.Ytmmmpdpgkjcohaa
