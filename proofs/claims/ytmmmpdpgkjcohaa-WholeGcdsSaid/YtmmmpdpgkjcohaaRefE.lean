/- Package orreryref01: AddN. -/
import Derived.Test.YtmmmpdpgkjcohaaRefD
namespace Go.Proofs.Ytmmmpdpgkjcohaa
open Go.RowKit

theorem add_top {X Y k : Nat} (hx : (dig 10000 X).length ≤ k) (hy : (dig 10000 Y).length ≤ k) (h0 : addC 10000 (nth (dig 10000 X)) (nth (dig 10000 Y)) k = 0)
    (hc : k = 0 ∨ k - 1 < (dig 10000 X).length ∨ k - 1 < (dig 10000 Y).length ∨ 0 < addC 10000 (nth (dig 10000 X)) (nth (dig 10000 Y)) (k - 1)) :
    pre (addD 10000 (nth (dig 10000 X)) (nth (dig 10000 Y))) k = dig 10000 (X + Y) := by
  have hv : val 10000 (pre (addD 10000 (nth (dig 10000 X)) (nth (dig 10000 Y))) k) = X + Y := by
    have := add_val 10000 (nth (dig 10000 X)) (nth (dig 10000 Y)) k
    rw [h0, val_pre_more _ _ hx, val_pre_more _ _ hy, val_dig (by omega), val_dig (by omega)] at this
    omega
  have ha : All 10000 (pre (addD 10000 (nth (dig 10000 X)) (nth (dig 10000 Y))) k) := pre_all (fun j _ => addD_lt (by omega) _ _ _)
  have ht : Top (pre (addD 10000 (nth (dig 10000 X)) (nth (dig 10000 Y))) k) := by
    refine top_of_val ha ?_
    rw [hv, pre_len]
    rcases hc with rfl | hc
    · exact .inl rfl
    right
    by_cases h1 : k - 1 < (dig 10000 X).length
    · have := pow_le_dig (b := 10000) (n := X) (by omega) (by omega)
      rw [show k - 1 = (dig 10000 X).length - 1 by omega]
      omega
    by_cases h2 : k - 1 < (dig 10000 Y).length
    · have := pow_le_dig (b := 10000) (n := Y) (by omega) (by omega)
      rw [show k - 1 = (dig 10000 Y).length - 1 by omega]
      omega
    have h3 : 0 < addC 10000 (nth (dig 10000 X)) (nth (dig 10000 Y)) (k - 1) := by
      rcases hc with hc | hc | hc
      · exact absurd hc h1
      · exact absurd hc h2
      · exact hc
    have := add_val 10000 (nth (dig 10000 X)) (nth (dig 10000 Y)) (k - 1)
    rw [val_pre_more _ _ (by omega), val_pre_more _ _ (by omega), val_dig (by omega), val_dig (by omega)] at this
    have h4 := Nat.mul_le_mul_left (10000 ^ (k - 1)) h3
    omega
  rw [← hv, dig_val (by omega) ha ht]

set_option maxHeartbeats 2000000 in
theorem RAdd {v u : Value} {X Y : Nat} {w : World} (hx : Sl w .i64 v (dig 10000 X)) (hy : Sl w .i64 u (dig 10000 Y)) (lx : (dig 10000 X).length ≤ 4000000) (ly : (dig 10000 Y).length ≤ 4000000) :
    Calls Try.prog 54 #[v, u] w (DecM w (X + Y)) := by
  have tp := Lib.hid (fun k => add_top (X := X) (Y := Y) (k := k))
  have ax := Lib.hid (dig_all (b := 10000) (by omega) X)
  have ay := Lib.hid (dig_all (b := 10000) (by omega) Y)
  obtain ⟨p, cap, rfl, h1, h2, h3⟩ := id hx
  obtain ⟨q, capy, rfl, h1', h2', h3'⟩ := id hy
  obtain ⟨i0, hi, hz0, hz1, hz2⟩ := info_parts Try.infoI
  generalize hdx : dig 10000 X = xs at *
  generalize hdy : dig 10000 Y = ys at *
  obtain ⟨n, hn⟩ : ∃ n, xs.length = n := ⟨_, rfl⟩
  obtain ⟨m, hm⟩ : ∃ m, ys.length = m := ⟨_, rfl⟩
  rw [hn] at lx h1 ⊢
  rw [hm] at ly h1' ⊢
  have H3 := Lib.hid h3
  have H3' := Lib.hid h3'
  have Hn := Lib.hid hn
  have Hm := Lib.hid hm
  clear h3 h3' hn hm hx hy hdx hdy h2 h2'
  have Cb := Lib.hid (fun k => addC_le (b := 10000) (f := nth xs) (g := nth ys) (nth_lt (by omega) ax.out) (nth_lt (by omega) ay.out) k)
  go_enter Try.func54, Try.ntmps54
  go_wp2_with fail
  go_loopw [5, 6, 7] (fun o cv i wr => ∃ k : Nat, i = .int .i64 k ∧ cv = .int .i64 (addC 10000 (nth xs) (nth ys) k : Nat) ∧ k + addC 10000 (nth xs) (nth ys) k ≤ n + m + 1 ∧ Hid (k = 0 ∨ k - 1 < n ∨ k - 1 < m ∨ 0 < addC 10000 (nth xs) (nth ys) (k - 1)) ∧ Own wr 3 .i64 w.heap.size o (pre (addD 10000 (nth xs) (nth ys)) k) ∧ w.grownBy wr none) (fun _ _ i _ => (n + m + 2 - (intOf i).toNat))
  case atStart => exact ⟨0, rfl, rfl, by simp [addC], .inl rfl, Own.nil _ _ _ _, grown_refl _ _⟩
  case round =>
    obtain ⟨k, rfl, rfl, hk, hco, ho, gr⟩ := hrel
    obtain ⟨op, ocap, rfl⟩ := ho.slice
    have cb := Cb.out k
    have cb' := Cb.out (k + 1)
    have HC := Lib.hid (show addC 10000 (nth xs) (nth ys) (k + 1) = (addC 10000 (nth xs) (nth ys) k + (nth xs k + nth ys k)) / 10000 from rfl)
    have HD := Lib.hid (show pre (addD 10000 (nth xs) (nth ys)) (k + 1) = pre (addD 10000 (nth xs) (nth ys)) k ++ [(addC 10000 (nth xs) (nth ys) k + (nth xs k + nth ys k)) % 10000] from pre_succ _ _)
    obtain ⟨Z, hZ⟩ : ∃ Z, pre (addD 10000 (nth xs) (nth ys)) k = Z := ⟨_, rfl⟩
    have zl : Z.length = k := by rw [← hZ, pre_len]
    rw [hZ] at HD ho ⊢
    rw [zl] at ho ⊢
    have HZ := Lib.hid hZ
    have Ho := Lib.hid ho
    have Gr := Lib.hid gr
    have Zl := Lib.hid zl
    generalize hcr : addC 10000 (nth xs) (nth ys) k = cr at *
    have Hcr := Lib.hid hcr
    generalize hcs : addC 10000 (nth xs) (nth ys) (k + 1) = cs at *
    have Hcs := Lib.hid hcs
    have b1 : nth xs k < 10000 := nth_lt (by omega) ax.out k
    have b2 : nth ys k < 10000 := nth_lt (by omega) ay.out k
    clear hZ ho gr hcr hcs zl
    by_cases hx : k < n
    · rcases H3.out with h3 | ⟨b, off, rfl, hbl, hyx⟩
      · have := Hn.out; rw [h3] at this; simp at this; omega
      have c1 : wr.cell? ⟨b, off + k, none⟩ = some (.int .i64 (nth xs k)) := by
        rw [World.cell?_of_block (w := w) (Gr.out.block b hbl (by simp)), hyx k (by rw [Hn.out]; omega)]
      clear hyx
      by_cases hy : k < m
      · rcases H3'.out with h3' | ⟨b', off', rfl, hbl', hyy⟩
        · have := Hm.out; rw [h3'] at this; simp at this; omega
        have c2 : wr.cell? ⟨b', off' + k, none⟩ = some (.int .i64 (nth ys k)) := by
          rw [World.cell?_of_block (w := w) (Gr.out.block b' hbl' (by simp)), hyy k (by rw [Hm.out]; omega)]
        clear hyy
        go_wp2_with (at_builtin; refine wp_append1 rfl _ _ 26 rfl 3 i0 (.int .i64 0) .i64 Try.underlying26 hi hz0 hz1 (by omega) rfl w.heap.size (.slice op k ocap) Z ((cr + (nth xs k + nth ys k)) % 10000) rfl (Ho.out.grown (grown_alloc _ _ none) (.inl rfl)) wr.heap.size rfl ?c1 (by rw [Zl.out]; omega) (by have := Gr.out.size; simp; omega) ?_; (case c1 => exact (World.cell?_alloc_at _ _ _ _ rfl).trans (by simp; try omega)); intro v' w3 ho3 g3; have Ho3 := Lib.hid ho3; have G3 := Lib.hid (grown_own (v := .slice op k ocap) g3 (Ho.out.grown (grown_alloc _ _ none) (.inl rfl)) (grown_trans Gr.out (grown_alloc _ _ _))); clear ho3 g3)
        go_roundw
        case rel =>
          refine ⟨k + 1, by go_num, int_eq (by have := HC.out; have := Hcs.out; omega), by rw [Hcs.out]; have := HC.out; omega, .inr (.inl (by omega)), ?_, G3.out⟩
          rw [HD.out]
          exact Ho3.out
        case measure => simp [intOf]; omega
      · have y1 : nth ys k = 0 := nth_out ys (by rw [Hm.out]; omega)
        rw [y1] at HC HD
        go_wp2_with (at_builtin; refine wp_append1 rfl _ _ 26 rfl 3 i0 (.int .i64 0) .i64 Try.underlying26 hi hz0 hz1 (by omega) rfl w.heap.size (.slice op k ocap) Z ((cr + (nth xs k + 0)) % 10000) rfl (Ho.out.grown (grown_alloc _ _ none) (.inl rfl)) wr.heap.size rfl ?c1 (by rw [Zl.out]; omega) (by have := Gr.out.size; simp; omega) ?_; (case c1 => exact (World.cell?_alloc_at _ _ _ _ rfl).trans (by simp; try omega)); intro v' w3 ho3 g3; have Ho3 := Lib.hid ho3; have G3 := Lib.hid (grown_own (v := .slice op k ocap) g3 (Ho.out.grown (grown_alloc _ _ none) (.inl rfl)) (grown_trans Gr.out (grown_alloc _ _ _))); clear ho3 g3)
        go_roundw
        case rel =>
          refine ⟨k + 1, by go_num, int_eq (by have := HC.out; have := Hcs.out; omega), by rw [Hcs.out]; have := HC.out; omega, .inr (.inl (by omega)), ?_, G3.out⟩
          rw [HD.out]
          exact Ho3.out
        case measure => simp [intOf]; omega
    · have y0 : nth xs k = 0 := nth_out xs (by rw [Hn.out]; omega)
      rw [y0] at HC HD
      by_cases hy : k < m
      · rcases H3'.out with h3' | ⟨b', off', rfl, hbl', hyy⟩
        · have := Hm.out; rw [h3'] at this; simp at this; omega
        have c2 : wr.cell? ⟨b', off' + k, none⟩ = some (.int .i64 (nth ys k)) := by
          rw [World.cell?_of_block (w := w) (Gr.out.block b' hbl' (by simp)), hyy k (by rw [Hm.out]; omega)]
        clear hyy
        go_wp2_with (at_builtin; refine wp_append1 rfl _ _ 26 rfl 3 i0 (.int .i64 0) .i64 Try.underlying26 hi hz0 hz1 (by omega) rfl w.heap.size (.slice op k ocap) Z ((cr + (0 + nth ys k)) % 10000) rfl (Ho.out.grown (grown_alloc _ _ none) (.inl rfl)) wr.heap.size rfl ?c1 (by rw [Zl.out]; omega) (by have := Gr.out.size; simp; omega) ?_; (case c1 => exact (World.cell?_alloc_at _ _ _ _ rfl).trans (by simp; try omega)); intro v' w3 ho3 g3; have Ho3 := Lib.hid ho3; have G3 := Lib.hid (grown_own (v := .slice op k ocap) g3 (Ho.out.grown (grown_alloc _ _ none) (.inl rfl)) (grown_trans Gr.out (grown_alloc _ _ _))); clear ho3 g3)
        go_roundw
        case rel =>
          refine ⟨k + 1, by go_num, int_eq (by have := HC.out; have := Hcs.out; omega), by rw [Hcs.out]; have := HC.out; omega, .inr (.inr (.inl (by omega))), ?_, G3.out⟩
          rw [HD.out]
          exact Ho3.out
        case measure => simp [intOf]; omega
      · have y1 : nth ys k = 0 := nth_out ys (by rw [Hm.out]; omega)
        rw [y1] at HC HD
        by_cases hcr : cr = 0
        · have hl : Hid (pre (addD 10000 (nth xs) (nth ys)) k = dig 10000 (X + Y)) := tp.out k (by rw [Hn.out]; omega) (by rw [Hm.out]; omega) (by rw [Hcr.out]; exact hcr) (by rw [Hn.out, Hm.out]; exact hco.out)
          subst hcr
          go_wp2_with fail
          go_ret
          exact ⟨_, rfl, by rw [← hl.out, HZ.out]; exact Ho.out, Gr.out⟩
        · obtain rfl : cr = 1 := by omega
          clear hcr
          go_wp2_with (at_builtin; refine wp_append1 rfl _ _ 26 rfl 3 i0 (.int .i64 0) .i64 Try.underlying26 hi hz0 hz1 (by omega) rfl w.heap.size (.slice op k ocap) Z ((1 + (0 + 0)) % 10000) rfl (Ho.out.grown (grown_alloc _ _ none) (.inl rfl)) wr.heap.size rfl ?c1 (by rw [Zl.out]; omega) (by have := Gr.out.size; simp; omega) ?_; (case c1 => exact (World.cell?_alloc_at _ _ _ _ rfl).trans (by simp; try omega)); intro v' w3 ho3 g3; have Ho3 := Lib.hid ho3; have G3 := Lib.hid (grown_own (v := .slice op k ocap) g3 (Ho.out.grown (grown_alloc _ _ none) (.inl rfl)) (grown_trans Gr.out (grown_alloc _ _ _))); clear ho3 g3)
          go_roundw
          case rel =>
            refine ⟨k + 1, by go_num, int_eq (by have := HC.out; have := Hcs.out; omega), by rw [Hcs.out]; have := HC.out; omega, .inr (.inr (.inr (by show 0 < addC _ _ _ k; rw [Hcr.out]; omega))), ?_, G3.out⟩
            rw [HD.out]
            exact Ho3.out
          case measure => simp [intOf]; omega

end Go.Proofs.Ytmmmpdpgkjcohaa
