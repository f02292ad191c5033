/- Package orreryref01: MulN. -/
import Derived.Test.YtmmmpdpgkjcohaaRefF
namespace Go.Proofs.Ytmmmpdpgkjcohaa
open Go.RowKit

theorem set_val {b k : Nat} {xs : List Nat} (t : Nat) (h : k < xs.length) : val b (xs.set k t) + b ^ k * nth xs k = val b xs + b ^ k * t := by
  have e1 := val_take_drop b xs (k := k) (by omega)
  have e2 := val_take_drop b (xs.set k t) (k := k) (by rw [List.length_set]; omega)
  rw [set_drop_val t h, List.take_set_of_le (Nat.le_refl _)] at e2
  rw [val_drop_step b xs h] at e1
  rw [e1, e2, Nat.mul_add, Nat.mul_add]
  omega
theorem val_take_any (b : Nat) (ys : List Nat) (k : Nat) : val b (ys.take (k + 1)) = val b (ys.take k) + b ^ k * nth ys k := by
  rcases Nat.lt_or_ge k ys.length with h | h
  · exact val_take_step b ys h
  · rw [List.take_of_length_le (by omega), List.take_of_length_le h, nth_out ys h, Nat.mul_zero, Nat.add_zero]
theorem mul_round {R ys : List Nat} {i k c x V0 s : Nat} (hk : i + k < R.length) (h : val 10000 R + 10000 ^ (i + k) * c = V0 + 10000 ^ i * (x * val 10000 (ys.take k))) (hs : nth R (i + k) + c + x * nth ys k = s) :
    val 10000 (R.set (i + k) (s % 10000)) + 10000 ^ (i + (k + 1)) * (s / 10000) = V0 + 10000 ^ i * (x * val 10000 (ys.take (k + 1))) := by
  have e1 := set_val (b := 10000) (s % 10000) hk
  have e2 := Nat.mod_add_div s 10000
  have e3 : 10000 ^ (i + k) * (s % 10000) + 10000 ^ (i + (k + 1)) * (s / 10000) = 10000 ^ (i + k) * s := by
    rw [← Nat.add_assoc, Nat.pow_succ, Nat.mul_assoc, ← Nat.mul_add, e2]
  have e4 : 10000 ^ (i + k) * s = 10000 ^ (i + k) * nth R (i + k) + 10000 ^ (i + k) * c + 10000 ^ (i + k) * (x * nth ys k) := by rw [← hs, Nat.mul_add, Nat.mul_add]
  have e5 : 10000 ^ i * (x * val 10000 (ys.take (k + 1))) = 10000 ^ i * (x * val 10000 (ys.take k)) + 10000 ^ (i + k) * (x * nth ys k) := by
    rw [val_take_any, Nat.mul_add, Nat.mul_add, Nat.pow_add, Nat.mul_assoc, Nat.mul_left_comm x]
  omega
theorem mul_fit {xs ys R : List Nat} {i k c : Nat} (ax : All 10000 xs) (ay : All 10000 ys) (hi : i < xs.length) (hk : ys.length ≤ k) (hc : 0 < c)
    (h : val 10000 R + 10000 ^ (i + k) * c = val 10000 (xs.take i) * val 10000 ys + 10000 ^ i * (nth xs i * val 10000 (ys.take k))) : k = ys.length := by
  rw [List.take_of_length_le hk, ← Nat.mul_assoc, ← Nat.add_mul, ← val_take_step 10000 xs hi] at h
  have h1 := val_lt (ax.take (i + 1))
  rw [List.length_take, Nat.min_eq_left (by omega)] at h1
  have h2 := val_lt ay
  have h3 : val 10000 (xs.take (i + 1)) * val 10000 ys < 10000 ^ (i + 1) * 10000 ^ ys.length := Nat.mul_lt_mul'' h1 h2
  rw [← Nat.pow_add] at h3
  have h4 : 10000 ^ (i + k) ≤ 10000 ^ (i + k) * c := Nat.le_mul_of_pos_right _ hc
  have h5 : 10000 ^ (i + k) < 10000 ^ (i + 1 + ys.length) := by omega
  have := (Nat.pow_lt_pow_iff_right (a := 10000) (by omega)).1 h5
  omega
theorem mul_done {xs ys R : List Nat} {i k : Nat} (hi : i < xs.length) (hk : ys.length ≤ k)
    (h : val 10000 R + 10000 ^ (i + k) * 0 = val 10000 (xs.take i) * val 10000 ys + 10000 ^ i * (nth xs i * val 10000 (ys.take k))) : val 10000 R = val 10000 (xs.take (i + 1)) * val 10000 ys := by
  rw [List.take_of_length_le hk, ← Nat.mul_assoc, ← Nat.add_mul, ← val_take_step 10000 xs hi] at h
  simpa using h
theorem set_row {w : World} {e : TypeId} {g N : Nat} {k : IntKind} {R : List Nat} {j t : Nat} {v : Value} (hl : R.length = N) (h : RowF w e g N (fun j => .int k (nth R j))) (hj : j < N) (hv : v = .int k (t : Int)) :
    RowF (w.setCell ⟨g, j, none⟩ v) e g N (fun i => .int k (nth (R.set j t) i)) := by
  refine (h.set j v).congr fun i hi => ?_
  by_cases hij : i = j
  · subst hij
    rw [upd_at, nth_set_at _ (by omega), hv]
  · rw [upd_ne _ _ hij, nth_set_ne _ _ hij]

set_option maxHeartbeats 2000000 in
theorem RMul {v u : Value} {X Y : Nat} {w : World} (hx : Sl w .i64 v (dig 10000 X)) (hy : Sl w .i64 u (dig 10000 Y)) (lx : (dig 10000 X).length ≤ 4000000) (ly : (dig 10000 Y).length ≤ 4000000) :
    Calls Try.prog 56 #[v, u] w (DecM w (X * Y)) := by
  have ax := Lib.hid (dig_all (b := 10000) (by omega) X)
  have ay := Lib.hid (dig_all (b := 10000) (by omega) Y)
  have vx := Lib.hid (val_dig (b := 10000) (by omega) X)
  have vy := Lib.hid (val_dig (b := 10000) (by omega) Y)
  obtain ⟨p, cap, rfl, h1, h2, h3⟩ := id hx
  obtain ⟨q, capy, rfl, h1', h2', h3'⟩ := id hy
  obtain ⟨i0, hi, hz0, hz1, hz2⟩ := info_parts Try.infoI
  generalize hdx : dig 10000 X = xs at *
  generalize hdy : dig 10000 Y = ys at *
  obtain ⟨n, hn⟩ : ∃ n, xs.length = n := ⟨_, rfl⟩
  obtain ⟨m, hm⟩ : ∃ m, ys.length = m := ⟨_, rfl⟩
  rw [hn] at lx h1 ⊢
  rw [hm] at ly h1' ⊢
  have H3 := Lib.hid h3
  have H3' := Lib.hid h3'
  have Hn := Lib.hid hn
  have Hm := Lib.hid hm
  clear h3 h3' hn hm hx hy hdx hdy h2 h2'
  go_enter Try.func56, Try.ntmps56
  go_wp2_with (at_make; refine wp_make rfl _ _ 26 rfl 3 i0 (.int .i64 0) Try.underlying26 hi hz0 hz1 (by omega) rfl _ _ _ _ (n + m) (n + m) rfl rfl (by omega) (by omega) (Nat.le_refl _) (by omega) ?_; intro w1 r1 g1 s1; have R1 := Lib.hid r1; have G1 := Lib.hid g1; clear r1 g1)
  go_loopw [18] (fun iv wr => ∃ (i : Nat) (R : List Nat), i ≤ n ∧ iv = .int .i64 i ∧ R.length = n + m ∧ All 10000 R ∧ val 10000 R = val 10000 (xs.take i) * val 10000 ys ∧ RowF wr 3 w.heap.size (n + m) (fun j => .int .i64 (nth R j)) ∧ w.grownBy wr none ∧ w.heap.size < wr.heap.size) (fun iv _ => (n - (intOf iv).toNat))
  case atStart => exact ⟨0, List.replicate (n + m) 0, by omega, rfl, by simp, All.rep (by omega) _, by simp [val_rep0, val], R1.out.congr fun j hj => by simp [nth, hj], G1.out, by omega⟩
  case round =>
    obtain ⟨i, R, hin, rfl, rl, ra, rv, rr, gr, sr⟩ := hrel
    have Rl := Lib.hid rl
    have Ra := Lib.hid ra
    have Rv := Lib.hid rv
    have RR := Lib.hid rr
    have Gr := Lib.hid gr
    clear rl ra rv rr gr
    by_cases hx : i < n
    · go_wp2_with fail
      go_loopw [7, 8] (fun cv kv wr => ∃ (k c : Nat) (R : List Nat), k ≤ m + 1 ∧ kv = .int .i64 k ∧ cv = .int .i64 c ∧ c < 10000 ∧ Hid (R.length = n + m) ∧ Hid (All 10000 R) ∧ Hid (val 10000 R + 10000 ^ (i + k) * c = val 10000 (xs.take i) * val 10000 ys + 10000 ^ i * (nth xs i * val 10000 (ys.take k))) ∧ Hid (RowF wr 3 w.heap.size (n + m) (fun j => .int .i64 (nth R j))) ∧ Hid (w.grownBy wr none) ∧ w.heap.size < wr.heap.size) (fun _ kv _ => (m + 2 - (intOf kv).toNat))
      case atStart => exact ⟨0, 0, R, by omega, rfl, rfl, by omega, Rl, Ra, by show _ = _; rw [Rv.out]; simp [val], RR, Gr, sr⟩
      case round =>
        clear R Rl Ra Rv RR Gr sr
        obtain ⟨k, c, R, hk, rfl, rfl, hc, Rl, Ra, Rv, RR, Gr, sr⟩ := hrel
        have b0 : nth R (i + k) < 10000 := nth_lt (by omega) Ra.out _
        have bx : nth xs i < 10000 := nth_lt (by omega) ax.out _
        by_cases hy : k < m
        · rcases H3.out with h3 | ⟨b, off, rfl, hbl, hyx⟩
          · have := Hn.out; rw [h3] at this; simp at this; omega
          have c1 : wr.cell? ⟨b, off + i, none⟩ = some (.int .i64 (nth xs i)) := by
            rw [World.cell?_of_block (w := w) (Gr.out.block b hbl (by simp)), hyx i (by rw [Hn.out]; omega)]
          clear hyx
          rcases H3'.out with h3' | ⟨b', off', rfl, hbl', hyy⟩
          · have := Hm.out; rw [h3'] at this; simp at this; omega
          have c2 : wr.cell? ⟨b', off' + k, none⟩ = some (.int .i64 (nth ys k)) := by
            rw [World.cell?_of_block (w := w) (Gr.out.block b' hbl' (by simp)), hyy k (by rw [Hm.out]; omega)]
          clear hyy
          have c3 : wr.cell? ⟨w.heap.size, i + k, none⟩ = some (.int .i64 (nth R (i + k))) := RR.out.cell (by omega)
          have f1 : wr.frozen? ⟨w.heap.size, i + k, none⟩ = false := RR.out.frozen _
          have b2 : nth ys k < 10000 := nth_lt (by omega) ay.out k
          have i1 : (k : Int) < (m : Int) := by omega
          have i2 : (i : Int) < (n : Int) := by omega
          have i3 : (i : Int) + (k : Int) < (n : Int) + (m : Int) := by omega
          have HS := Lib.hid (fun s => mul_round (s := s) (by rw [Rl.out]; omega) Rv.out)
          have hp := Nat.mul_le_mul (show nth xs i ≤ 9999 by omega) (show nth ys k ≤ 9999 by omega)
          obtain ⟨t, ht⟩ : ∃ t, nth xs i * nth ys k = t := ⟨_, rfl⟩
          rw [ht] at hp HS
          have ht' : ((nth xs i : Nat) : Int) * ((nth ys k : Nat) : Int) = (t : Int) := by rw [← ht, Int.natCast_mul]
          clear ht
          go_wp2
          go_quiet (fail)
          have c3' : (wr.drewN nq).cell? ⟨w.heap.size, i + k, none⟩ = some (.int .i64 (nth R (i + k))) := c3
          have f1' : (wr.drewN nq).frozen? ⟨w.heap.size, i + k, none⟩ = false := f1
          go_wp2
          go_roundw
          case rel =>
            obtain ⟨s, hs⟩ : ∃ s, nth R (i + k) + c + t = s := ⟨_, rfl⟩
            refine ⟨k + 1, s / 10000, R.set (i + k) (s % 10000), by omega, by go_num, int_eq (by omega), by omega, ?_, ?_, HS.out s hs, ?_, ?_, by simpa using sr⟩
            · show _ = _
              rw [List.length_set, Rl.out]
            · exact Ra.out.set (by omega) _
            · exact set_row Rl.out (show RowF (wr.drewN nq) _ _ _ _ from RR.out) (by omega) (int_eq (by omega))
            · exact grown_new (grown_trans Gr.out (grown_drewN _ _ _)) (grown_set _ _ _ _) (Nat.le_refl _)
          case measure => simp [intOf] <;> omega
        · by_cases hc0 : c = 0
          · subst hc0
            have RD := Lib.hid (mul_done (by rw [Hn.out]; omega) (by rw [Hm.out]; omega) Rv.out)
            go_wp2
            go_roundw
            case rel => exact ⟨i + 1, R, by omega, by go_num, Rl.out, Ra.out, RD.out, RR.out, Gr.out, sr⟩
            case measure => simp [intOf] <;> omega
          · have hkm : k = m := by
              rw [← Hm.out]
              exact mul_fit ax.out ay.out (by rw [Hn.out]; omega) (by rw [Hm.out]; omega) (by omega) Rv.out
            subst hkm
            have y1 : nth ys k = 0 := nth_out ys (by rw [Hm.out]; omega)
            have c3 : wr.cell? ⟨w.heap.size, i + k, none⟩ = some (.int .i64 (nth R (i + k))) := RR.out.cell (by omega)
            have f1 : wr.frozen? ⟨w.heap.size, i + k, none⟩ = false := RR.out.frozen _
            have i3 : (i : Int) + (k : Int) < (n : Int) + (k : Int) := by omega
            have HS := Lib.hid (fun s => mul_round (s := s) (by rw [Rl.out]; omega) Rv.out)
            rw [y1, Nat.mul_zero] at HS
            clear y1
            have hcp : 0 < c := by omega
            go_wp2
            go_roundw
            case rel =>
              obtain ⟨s, hs⟩ : ∃ s, nth R (i + k) + c + 0 = s := ⟨_, rfl⟩
              refine ⟨k + 1, s / 10000, R.set (i + k) (s % 10000), by omega, by go_num, int_eq (by omega), by omega, ?_, ?_, HS.out s hs, ?_, ?_, by simpa using sr⟩
              · show _ = _
                rw [List.length_set, Rl.out]
              · exact Ra.out.set (by omega) _
              · exact set_row Rl.out RR.out (by omega) (int_eq (by omega))
              · exact grown_new Gr.out (grown_set _ _ _ _) (Nat.le_refl _)
            case measure => simp [intOf] <;> omega
    · obtain rfl : i = n := by omega
      have ho : Own wr 3 .i64 w.heap.size (.slice (some ⟨w.heap.size, 0, none⟩) (i + m) (i + m)) R :=
        .inr ⟨w.heap.size, _, _, by rw [Rl.out], Nat.le_refl _, RR.out, by rw [Rl.out]; omega, by omega, fun j hj => rfl⟩
      have Ho := Lib.hid ho
      clear ho
      go_wp2_with fail
      refine (cut_any _ _ _ R _ Ho.out.sl).mono ?_
      rintro e w'' ⟨rfl, rfl⟩
      go_wp2_with fail
      go_ret
      refine ⟨_, rfl, ?_, Gr.out⟩
      have e : X * Y = val 10000 R := by rw [Rv.out, List.take_of_length_le (by rw [Hn.out]; omega), vx.out, vy.out]
      rw [e, ← trim_eq (by omega) Ra.out]
      exact Ho.out.trim

end Go.Proofs.Ytmmmpdpgkjcohaa
