/- WholePows holds: for every whole number and every n the law returns true and leaves them as they were. No condition. -/
import Derived.Test.YtmmmpdpgkjcohaaRowInt
import Derived.Test.YtmmmpdpgkjcohaaPows
namespace Go.Proofs.Ytmmmpdpgkjcohaa.pows
open Go.ChangeShapes Go.WideShapes Go.ChangeAt Go.RowKit

set_option maxHeartbeats 8000000 in
set_option maxRecDepth 100000 in
theorem walk {b1 : Bool} {v1 : Value} {xs : List Nat} {w : World} (hx : Sl w .u32 v1 xs) (ax : All 4294967296 xs) (n : Int) (_ : -9223372036854775808 ≤ n) (_ : n ≤ 9223372036854775807) :
    Calls Try.prog 6 #[.agg #[.bool b1, v1], .int .i64 n] w (Bool_ w true) := by
  obtain ⟨k, hk⟩ : ∃ k : Nat, (n < 0 ∧ k = 0) ∨ (n = k ∧ k ≤ 256) ∨ (256 < n ∧ k = 256) := by
    rcases Int.lt_or_le n 0 with h | h
    · exact ⟨0, .inl ⟨h, rfl⟩⟩
    · rcases Int.lt_or_le 256 n with h2 | h2
      · exact ⟨256, .inr (.inr ⟨h2, rfl⟩)⟩
      · exact ⟨n.toNat, .inr (.inl ⟨by omega, by omega⟩)⟩
  obtain ⟨p1, c1, rfl, -⟩ := id hx
  have Hx := Lib.hid hx
  have Ax := Lib.hid ax
  have S : Bx w [(w.heap.size, .bool b1, .slice p1 xs.length c1)] (w.alloc (.cells #[.bool b1, .slice p1 xs.length c1] 24)) := ((Bx.start w).box (w.heap.size) (.bool b1) (.slice p1 xs.length c1) 24 (by simp))
  clear hx ax
  go_enter Try.func6, Try.ntmps6
  obtain ⟨e0, e1, e2, e3, G⟩ := id S
  go_wp2_with fail
  clear e0 e1 e2 e3 G
  refine (Of_l 2 (Hx.out.grown S.all (.inl rfl)) Ax.out (by omega)).mono ?_
  rintro e w1 ⟨pA, nA, cA, ux, rfl, hs, hd, g⟩
  replace hs := hs.grown g (.inl rfl)
  replace S := S.step _ g
  clear g
  obtain ⟨zx, hzx⟩ : ∃ z, sg b1 (val 4294967296 (xs.take 2)) = z := ⟨_, rfl⟩
  rw [hzx] at hd
  have bdx := hd.bd
  obtain ⟨px, cx, rfl, -⟩ := id hd
  have VA := Lib.hid (show IntV _ (.agg #[.bool b1, .slice pA nA cA]) zx 2 from ⟨_, _, _, rfl, Num.row hs (Ax.out.take 2) 2 (by rw [List.length_take]; omega), hzx.symm⟩)
  have Dx := Lib.hid (hd)
  clear hs hd hzx
  have z1_0 := S.lt (g := w.heap.size) (x := .bool b1) (y := .slice p1 xs.length c1) (by simp)
  obtain ⟨e0, e1, e2, e3, G⟩ := id S
  have K : Kp w1 (((w1.setCell ⟨w.heap.size, 0, none⟩ (.bool b1)).setCell ⟨w.heap.size, 1, none⟩ (.slice pA nA cA)).alloc (.cells #[.slice px (dig 10000 (zx).natAbs).length cx, .bool (decide (zx < 0))] 28)) := (S.kp (g := w.heap.size) (x := .bool b1) (y := .slice p1 xs.length c1) (.bool b1) (.slice pA nA cA) (by simp) (by simp) (by simp)).trans (Kp.of (grown_alloc _ _ _))
  have S2 : Bx w [(w.heap.size, .bool b1, .slice pA nA cA)] ((w1.setCell ⟨w.heap.size, 0, none⟩ (.bool b1)).setCell ⟨w.heap.size, 1, none⟩ (.slice pA nA cA)) := S.put (g := w.heap.size) (u := .bool b1) (v := .slice pA nA cA) (x := .bool b1) (y := .slice p1 xs.length c1) (bs' := []) (by simp) (by simp <;> omega) (by simp <;> omega) (by omega)
  replace S : Bx w [(w1.heap.size, .slice px (dig 10000 (zx).natAbs).length cx, .bool (decide (zx < 0))), (w.heap.size, .bool b1, .slice pA nA cA)] (((w1.setCell ⟨w.heap.size, 0, none⟩ (.bool b1)).setCell ⟨w.heap.size, 1, none⟩ (.slice pA nA cA)).alloc (.cells #[.slice px (dig 10000 (zx).natAbs).length cx, .bool (decide (zx < 0))] 28)) := S2.box (w1.heap.size) (.slice px (dig 10000 (zx).natAbs).length cx) (.bool (decide (zx < 0))) 28 (by simp)
  replace VA := Lib.hid (VA.out.kp K)
  replace Dx := Lib.hid (Dx.out.kp K)
  go_upto_region 2 with fail
  clear K S2 e0 e1 e2 e3 G
  generalize (((w1.setCell ⟨w.heap.size, 0, none⟩ (.bool b1)).setCell ⟨w.heap.size, 1, none⟩ (.slice pA nA cA)).alloc (.cells #[.slice px (dig 10000 (zx).natAbs).length cx, .bool (decide (zx < 0))] 28)) = W1 at *
  go_cut [6] (fun kv wx => kv = .int .i64 (k : Int) ∧ wx = W1)
  case first =>
    rcases hk with ⟨n1, rfl⟩ | ⟨rfl, n1⟩ | ⟨n1, rfl⟩
    · have n2 : ¬ (256 : Int) < 0 := by omega
      go_wp2_with fail
      go_meet
      exact ⟨rfl, rfl⟩
    · have m1 : ¬ (k : Int) < 0 := by omega
      have m2 : ¬ (256 : Int) < (k : Int) := by omega
      go_wp2_with fail
      go_meet
      exact ⟨rfl, rfl⟩
    · have m1 : ¬ n < 0 := by omega
      go_wp2_with fail
      go_meet
      exact ⟨rfl, rfl⟩
  case rest =>
    obtain ⟨rfl, rfl⟩ := hcut
    have Hk := Lib.hid hk
    have k256 : k ≤ 256 := by omega
    clear hk
    by_cases h1 : 1 < (dig 10000 zx.natAbs).length
    · by_cases h2 : 40 < k
      · have t1 : 1 < (dig 10000 zx.natAbs).length := by omega
        have t1' : (1 : Int) < ((dig 10000 zx.natAbs).length : Int) := by omega
        have t2 : (40 : Int) < (k : Int) := by omega
        obtain ⟨e0, e1, e2, e3, e4, e5, e6, e7, G⟩ := id S
        go_wp2_with fail
        clear e0 e1 e2 e3 e4 e5 e6 e7 G
        refine (Within_any (k : Int) 40 _ (by omega) (by omega)).mono ?_
        rintro e w' ⟨j, hj, rfl, rfl⟩
        clear t1 t1' t2
        obtain ⟨e0, e1, e2, e3, e4, e5, e6, e7, G⟩ := id S
        go_wp2_with fail
        clear e0 e1 e2 e3 e4 e5 e6 e7 G
        with_reducible refine (of_1 _).mono ?_
        rintro e w2 ⟨v, rfl, h, bd, g⟩
        obtain ⟨z1, hz1⟩ : ∃ z : Int, 1 = z := ⟨_, rfl⟩
        rw [hz1] at h bd
        replace VA := Lib.hid (VA.out.kp (Kp.of g))
        replace Dx := Lib.hid (Dx.out.kp (Kp.of g))
        replace S := S.step _ g
        obtain ⟨pz, cz, rfl, -⟩ := id h
        have Dz := Lib.hid (h.decI bd)
        have Hz1 := Lib.hid hz1
        clear h bd g hz1
        have x_0 := S.lt (g := w1.heap.size) (x := .slice px (dig 10000 (zx).natAbs).length cx) (y := .bool (decide (zx < 0))) (by simp)
        have x_1 := S.lt (g := w.heap.size) (x := .bool b1) (y := .slice pA nA cA) (by simp)
        replace VA := Lib.hid (VA.out.kp (Kp.of (grown_alloc _ (.cells #[.slice pz (dig 10000 (z1).natAbs).length cz, .bool (decide (z1 < 0))] 28) none)))
        replace Dx := Lib.hid (Dx.out.kp (Kp.of (grown_alloc _ (.cells #[.slice pz (dig 10000 (z1).natAbs).length cz, .bool (decide (z1 < 0))] 28) none)))
        replace Dz := Lib.hid (Dz.out.kp (Kp.of (grown_alloc _ (.cells #[.slice pz (dig 10000 (z1).natAbs).length cz, .bool (decide (z1 < 0))] 28) none)))
        replace S := S.box (w2.heap.size) (.slice pz (dig 10000 (z1).natAbs).length cz) (.bool (decide (z1 < 0))) 28 (by simp)
        obtain ⟨e0, e1, e2, e3, e4, e5, e6, e7, e8, e9, e10, e11, G⟩ := id S
        go_wp2_with fail
        clear e0 e1 e2 e3 e4 e5 e6 e7 e8 e9 e10 e11 G
        have sg : w2.heap.size < (w2.alloc (.cells #[.slice pz (dig 10000 (z1).natAbs).length cz, .bool (decide (z1 < 0))] 28)).heap.size := by simp
        have sl := S.all.size
        generalize (w2.alloc (.cells #[.slice pz (dig 10000 (z1).natAbs).length cz, .bool (decide (z1 < 0))] 28)) = W2 at *
        have y_0 := S.lt (g := w2.heap.size) (x := .slice pz (dig 10000 (z1).natAbs).length cz) (y := .bool (decide (z1 < 0))) (by simp)
        have y_1 := S.lt (g := w1.heap.size) (x := .slice px (dig 10000 (zx).natAbs).length cx) (y := .bool (decide (zx < 0))) (by simp)
        have y_2 := S.lt (g := w.heap.size) (x := .bool b1) (y := .slice pA nA cA) (by simp)
        go_loopw [8] (fun iv wr => ∃ (i : Nat) (z : Int) (p : Option Addr) (c : Nat), i ≤ j ∧ iv = .int .i64 (i : Int) ∧ Hid (z = zx ^ i) ∧ Hid (Bx w [(w2.heap.size, .slice p (dig 10000 (z).natAbs).length c, .bool (decide (z < 0))), (w1.heap.size, .slice px (dig 10000 (zx).natAbs).length cx, .bool (decide (zx < 0))), (w.heap.size, .bool b1, .slice pA nA cA)] wr) ∧ Hid (DecI wr (.agg #[.slice p (dig 10000 (z).natAbs).length c, .bool (decide (z < 0))]) z (2 * i + 2)) ∧ Hid (Kp W2 wr)) (fun iv _ => j - (intOf iv).toNat)
        case atStart => exact ⟨0, z1, pz, cz, Nat.zero_le _, rfl, by show z1 = _; rw [← Hz1.out, Int.pow_zero], S, Dz.out, Kp.refl _⟩
        case round =>
          obtain ⟨i, z, p, c, hi, rfl, Z, S1, DZ, KW⟩ := hrel
          clear S
          have S := S1.out
          have VA := Lib.hid (VA.out.kp KW.out)
          have Dx := Lib.hid (Dx.out.kp KW.out)
          clear S1 Dz
          by_cases hik : i < j
          · have hlt : (i : Int) < (j : Int) := by omega
            have k2b : 2 * i + 2 + 2 ≤ 1000000 := by omega
            obtain ⟨e0, e1, e2, e3, e4, e5, e6, e7, e8, e9, e10, e11, G⟩ := id S
            go_wp2_with fail
            clear e0 e1 e2 e3 e4 e5 e6 e7 e8 e9 e10 e11 G
            with_reducible refine (Mul_r DZ.out Dx.out k2b).mono ?_
            rintro e w8 ⟨v, rfl, h, bd, g⟩
            obtain ⟨zz, hzz⟩ : ∃ t, z * zx = t := ⟨_, rfl⟩
            rw [hzz] at h bd
            have KW8 := Lib.hid (KW.out.trans (Kp.of g))
            replace VA := Lib.hid (VA.out.kp (Kp.of g))
            replace Dx := Lib.hid (Dx.out.kp (Kp.of g))
            replace DZ := Lib.hid (DZ.out.kp (Kp.of g))
            replace S := S.step _ g
            obtain ⟨p8, c8, rfl, -⟩ := id h
            have D8 := Lib.hid (h.decI bd)
            have Z8 := Lib.hid (show zz = zx ^ (i + 1) by rw [← hzz, Z.out, Int.pow_succ])
            clear h bd g hzz KW
            obtain ⟨e0, e1, e2, e3, e4, e5, e6, e7, e8, e9, e10, e11, G⟩ := id S
            have K := S.kp (g := w2.heap.size) (x := .slice p (dig 10000 (z).natAbs).length c) (y := .bool (decide (z < 0))) (.slice p8 (dig 10000 (zz).natAbs).length c8) (.bool (decide (zz < 0))) (by simp) (by simp) (by simp)
            have S9 := Lib.hid (S.put (g := w2.heap.size) (u := .slice p8 (dig 10000 (zz).natAbs).length c8) (v := .bool (decide (zz < 0))) (x := .slice p (dig 10000 (z).natAbs).length c) (y := .bool (decide (z < 0))) (bs' := [(w1.heap.size, .slice px (dig 10000 (zx).natAbs).length cx, .bool (decide (zx < 0))), (w.heap.size, .bool b1, .slice pA nA cA)]) (by simp) (by simp <;> omega) (by simp <;> omega) (by omega))
            have D9 := Lib.hid (D8.out.kp K)
            have K9 := Lib.hid (KW8.out.trans K)
            clear K KW8 D8 DZ VA Dx S
            go_wp2_with fail
            go_roundw
            case rel => exact ⟨i + 1, zz, p8, c8, by omega, by go_num, Z8.out, S9.out, D9.out, K9.out⟩
            case measure => simp [intOf]; omega
          · obtain rfl : i = j := by omega
            have k3b : 2 * i + 2 ≤ 1000000 := by omega
            have k1000 : 2 ≤ 1000 := by omega
            obtain ⟨e0, e1, e2, e3, e4, e5, e6, e7, e8, e9, e10, e11, G⟩ := id S
            go_wp2_with fail
            clear e0 e1 e2 e3 e4 e5 e6 e7 e8 e9 e10 e11 G
            obtain ⟨e0, e1, e2, e3, e4, e5, e6, e7, e8, e9, e10, e11, G⟩ := id S
            have S0 : Kept wr [(w2.heap.size, 0, .slice p (dig 10000 (z).natAbs).length c), (w2.heap.size, 1, .bool (decide (z < 0))), (w1.heap.size, 0, .slice px (dig 10000 (zx).natAbs).length cx), (w1.heap.size, 1, .bool (decide (zx < 0))), (w.heap.size, 0, .bool b1), (w.heap.size, 1, .slice pA nA cA)] [] wr := ⟨e0, e1, e4, e5, e8, e9, grown_refl _ _⟩
            clear e0 e1 e2 e3 e4 e5 e6 e7 e8 e9 e10 e11 G
            go_region_held3 (fun w' => w'.cell? ⟨w2.heap.size, 0, none⟩ = some (.slice p (dig 10000 (z).natAbs).length c) ∧ w'.cell? ⟨w2.heap.size, 1, none⟩ = some (.bool (decide (z < 0))) ∧ w'.cell? ⟨w1.heap.size, 0, none⟩ = some (.slice px (dig 10000 (zx).natAbs).length cx) ∧ w'.cell? ⟨w1.heap.size, 1, none⟩ = some (.bool (decide (zx < 0))) ∧ w'.cell? ⟨w.heap.size, 0, none⟩ = some (.bool b1) ∧ w'.cell? ⟨w.heap.size, 1, none⟩ = some (.slice pA nA cA) ∧ wr.grownBy w' none) (first | exact Kept.step (W := wr) [(w2.heap.size, 0, .slice p (dig 10000 (z).natAbs).length c), (w2.heap.size, 1, .bool (decide (z < 0))), (w1.heap.size, 0, .slice px (dig 10000 (zx).natAbs).length cx), (w1.heap.size, 1, .bool (decide (zx < 0))), (w.heap.size, 0, .bool b1), (w.heap.size, 1, .slice pA nA cA)] [] (by assumption) (by assumption) | exact Kept.step (W := wr) [(w2.heap.size, 0, .slice p (dig 10000 (z).natAbs).length c), (w2.heap.size, 1, .bool (decide (z < 0))), (w1.heap.size, 0, .slice px (dig 10000 (zx).natAbs).length cx), (w1.heap.size, 1, .bool (decide (zx < 0))), (w.heap.size, 0, .bool b1), (w.heap.size, 1, .slice pA nA cA)] [] (grown_alloc _ _ _) (by assumption) | exact Kept.step (W := wr) [(w2.heap.size, 0, .slice p (dig 10000 (z).natAbs).length c), (w2.heap.size, 1, .bool (decide (z < 0))), (w1.heap.size, 0, .slice px (dig 10000 (zx).natAbs).length cx), (w1.heap.size, 1, .bool (decide (zx < 0))), (w.heap.size, 0, .bool b1), (w.heap.size, 1, .slice pA nA cA)] [] (grown_drew _ _) S0)
              (first | (go_at_call 28; (with_reducible refine (wakes_true _).mono ?_); rintro e w' ⟨rfl, hg⟩) | (go_at_call 14; (with_reducible refine (Is_l (DZ.out.grown (by go_split_ands; assumption)) k3b n2).mono ?_); rintro e w' ⟨rfl, hg⟩; clear n2) | (go_at_call 37; (with_reducible refine (Pow_i (i : Int) i (.inr (.inl ⟨rfl, by omega⟩)) (VA.out.grown (by go_split_ands; assumption)) k1000).mono ?_); rintro e w' ⟨v, rfl, h, bd, hg⟩; rw [← Z.out] at h; have n2 := h.nor; clear h bd))
            all_goals (rename_i hend; have g := hend.2.2.2.2.2.2; replace S := S.step _ g; clear g hend S0; go_wp2_with fail; go_ret; exact ⟨rfl, S.all⟩)
      · have t1 : 1 < (dig 10000 zx.natAbs).length := by omega
        have t1' : (1 : Int) < ((dig 10000 zx.natAbs).length : Int) := by omega
        have t2 : ¬ (40 : Int) < (k : Int) := by omega

        obtain ⟨e0, e1, e2, e3, e4, e5, e6, e7, G⟩ := id S
        go_wp2_with fail
        clear e0 e1 e2 e3 e4 e5 e6 e7 G
        with_reducible refine (of_1 _).mono ?_
        rintro e w2 ⟨v, rfl, h, bd, g⟩
        obtain ⟨z1, hz1⟩ : ∃ z : Int, 1 = z := ⟨_, rfl⟩
        rw [hz1] at h bd
        replace VA := Lib.hid (VA.out.kp (Kp.of g))
        replace Dx := Lib.hid (Dx.out.kp (Kp.of g))
        replace S := S.step _ g
        obtain ⟨pz, cz, rfl, -⟩ := id h
        have Dz := Lib.hid (h.decI bd)
        have Hz1 := Lib.hid hz1
        clear h bd g hz1
        have x_0 := S.lt (g := w1.heap.size) (x := .slice px (dig 10000 (zx).natAbs).length cx) (y := .bool (decide (zx < 0))) (by simp)
        have x_1 := S.lt (g := w.heap.size) (x := .bool b1) (y := .slice pA nA cA) (by simp)
        replace VA := Lib.hid (VA.out.kp (Kp.of (grown_alloc _ (.cells #[.slice pz (dig 10000 (z1).natAbs).length cz, .bool (decide (z1 < 0))] 28) none)))
        replace Dx := Lib.hid (Dx.out.kp (Kp.of (grown_alloc _ (.cells #[.slice pz (dig 10000 (z1).natAbs).length cz, .bool (decide (z1 < 0))] 28) none)))
        replace Dz := Lib.hid (Dz.out.kp (Kp.of (grown_alloc _ (.cells #[.slice pz (dig 10000 (z1).natAbs).length cz, .bool (decide (z1 < 0))] 28) none)))
        replace S := S.box (w2.heap.size) (.slice pz (dig 10000 (z1).natAbs).length cz) (.bool (decide (z1 < 0))) 28 (by simp)
        obtain ⟨e0, e1, e2, e3, e4, e5, e6, e7, e8, e9, e10, e11, G⟩ := id S
        go_wp2_with fail
        clear e0 e1 e2 e3 e4 e5 e6 e7 e8 e9 e10 e11 G
        have sg : w2.heap.size < (w2.alloc (.cells #[.slice pz (dig 10000 (z1).natAbs).length cz, .bool (decide (z1 < 0))] 28)).heap.size := by simp
        have sl := S.all.size
        generalize (w2.alloc (.cells #[.slice pz (dig 10000 (z1).natAbs).length cz, .bool (decide (z1 < 0))] 28)) = W2 at *
        have y_0 := S.lt (g := w2.heap.size) (x := .slice pz (dig 10000 (z1).natAbs).length cz) (y := .bool (decide (z1 < 0))) (by simp)
        have y_1 := S.lt (g := w1.heap.size) (x := .slice px (dig 10000 (zx).natAbs).length cx) (y := .bool (decide (zx < 0))) (by simp)
        have y_2 := S.lt (g := w.heap.size) (x := .bool b1) (y := .slice pA nA cA) (by simp)
        go_loopw [8] (fun iv wr => ∃ (i : Nat) (z : Int) (p : Option Addr) (c : Nat), i ≤ k ∧ iv = .int .i64 (i : Int) ∧ Hid (z = zx ^ i) ∧ Hid (Bx w [(w2.heap.size, .slice p (dig 10000 (z).natAbs).length c, .bool (decide (z < 0))), (w1.heap.size, .slice px (dig 10000 (zx).natAbs).length cx, .bool (decide (zx < 0))), (w.heap.size, .bool b1, .slice pA nA cA)] wr) ∧ Hid (DecI wr (.agg #[.slice p (dig 10000 (z).natAbs).length c, .bool (decide (z < 0))]) z (2 * i + 2)) ∧ Hid (Kp W2 wr)) (fun iv _ => k - (intOf iv).toNat)
        case atStart => exact ⟨0, z1, pz, cz, Nat.zero_le _, rfl, by show z1 = _; rw [← Hz1.out, Int.pow_zero], S, Dz.out, Kp.refl _⟩
        case round =>
          obtain ⟨i, z, p, c, hi, rfl, Z, S1, DZ, KW⟩ := hrel
          clear S
          have S := S1.out
          have VA := Lib.hid (VA.out.kp KW.out)
          have Dx := Lib.hid (Dx.out.kp KW.out)
          clear S1 Dz
          by_cases hik : i < k
          · have hlt : (i : Int) < (k : Int) := by omega
            have k2b : 2 * i + 2 + 2 ≤ 1000000 := by omega
            obtain ⟨e0, e1, e2, e3, e4, e5, e6, e7, e8, e9, e10, e11, G⟩ := id S
            go_wp2_with fail
            clear e0 e1 e2 e3 e4 e5 e6 e7 e8 e9 e10 e11 G
            with_reducible refine (Mul_r DZ.out Dx.out k2b).mono ?_
            rintro e w8 ⟨v, rfl, h, bd, g⟩
            obtain ⟨zz, hzz⟩ : ∃ t, z * zx = t := ⟨_, rfl⟩
            rw [hzz] at h bd
            have KW8 := Lib.hid (KW.out.trans (Kp.of g))
            replace VA := Lib.hid (VA.out.kp (Kp.of g))
            replace Dx := Lib.hid (Dx.out.kp (Kp.of g))
            replace DZ := Lib.hid (DZ.out.kp (Kp.of g))
            replace S := S.step _ g
            obtain ⟨p8, c8, rfl, -⟩ := id h
            have D8 := Lib.hid (h.decI bd)
            have Z8 := Lib.hid (show zz = zx ^ (i + 1) by rw [← hzz, Z.out, Int.pow_succ])
            clear h bd g hzz KW
            obtain ⟨e0, e1, e2, e3, e4, e5, e6, e7, e8, e9, e10, e11, G⟩ := id S
            have K := S.kp (g := w2.heap.size) (x := .slice p (dig 10000 (z).natAbs).length c) (y := .bool (decide (z < 0))) (.slice p8 (dig 10000 (zz).natAbs).length c8) (.bool (decide (zz < 0))) (by simp) (by simp) (by simp)
            have S9 := Lib.hid (S.put (g := w2.heap.size) (u := .slice p8 (dig 10000 (zz).natAbs).length c8) (v := .bool (decide (zz < 0))) (x := .slice p (dig 10000 (z).natAbs).length c) (y := .bool (decide (z < 0))) (bs' := [(w1.heap.size, .slice px (dig 10000 (zx).natAbs).length cx, .bool (decide (zx < 0))), (w.heap.size, .bool b1, .slice pA nA cA)]) (by simp) (by simp <;> omega) (by simp <;> omega) (by omega))
            have D9 := Lib.hid (D8.out.kp K)
            have K9 := Lib.hid (KW8.out.trans K)
            clear K KW8 D8 DZ VA Dx S
            go_wp2_with fail
            go_roundw
            case rel => exact ⟨i + 1, zz, p8, c8, by omega, by go_num, Z8.out, S9.out, D9.out, K9.out⟩
            case measure => simp [intOf]; omega
          · obtain rfl : i = k := by omega
            have k3b : 2 * i + 2 ≤ 1000000 := by omega
            have k1000 : 2 ≤ 1000 := by omega
            have HN := Lib.hid (show (n < 0 ∧ i = 0) ∨ (n = (i : Int) ∧ i ≤ 256) ∨ (256 < n ∧ i = 256) from Hk.out)
            obtain ⟨e0, e1, e2, e3, e4, e5, e6, e7, e8, e9, e10, e11, G⟩ := id S
            go_wp2_with fail
            clear e0 e1 e2 e3 e4 e5 e6 e7 e8 e9 e10 e11 G
            obtain ⟨e0, e1, e2, e3, e4, e5, e6, e7, e8, e9, e10, e11, G⟩ := id S
            have S0 : Kept wr [(w2.heap.size, 0, .slice p (dig 10000 (z).natAbs).length c), (w2.heap.size, 1, .bool (decide (z < 0))), (w1.heap.size, 0, .slice px (dig 10000 (zx).natAbs).length cx), (w1.heap.size, 1, .bool (decide (zx < 0))), (w.heap.size, 0, .bool b1), (w.heap.size, 1, .slice pA nA cA)] [] wr := ⟨e0, e1, e4, e5, e8, e9, grown_refl _ _⟩
            clear e0 e1 e2 e3 e4 e5 e6 e7 e8 e9 e10 e11 G
            go_region_held3 (fun w' => w'.cell? ⟨w2.heap.size, 0, none⟩ = some (.slice p (dig 10000 (z).natAbs).length c) ∧ w'.cell? ⟨w2.heap.size, 1, none⟩ = some (.bool (decide (z < 0))) ∧ w'.cell? ⟨w1.heap.size, 0, none⟩ = some (.slice px (dig 10000 (zx).natAbs).length cx) ∧ w'.cell? ⟨w1.heap.size, 1, none⟩ = some (.bool (decide (zx < 0))) ∧ w'.cell? ⟨w.heap.size, 0, none⟩ = some (.bool b1) ∧ w'.cell? ⟨w.heap.size, 1, none⟩ = some (.slice pA nA cA) ∧ wr.grownBy w' none) (first | exact Kept.step (W := wr) [(w2.heap.size, 0, .slice p (dig 10000 (z).natAbs).length c), (w2.heap.size, 1, .bool (decide (z < 0))), (w1.heap.size, 0, .slice px (dig 10000 (zx).natAbs).length cx), (w1.heap.size, 1, .bool (decide (zx < 0))), (w.heap.size, 0, .bool b1), (w.heap.size, 1, .slice pA nA cA)] [] (by assumption) (by assumption) | exact Kept.step (W := wr) [(w2.heap.size, 0, .slice p (dig 10000 (z).natAbs).length c), (w2.heap.size, 1, .bool (decide (z < 0))), (w1.heap.size, 0, .slice px (dig 10000 (zx).natAbs).length cx), (w1.heap.size, 1, .bool (decide (zx < 0))), (w.heap.size, 0, .bool b1), (w.heap.size, 1, .slice pA nA cA)] [] (grown_alloc _ _ _) (by assumption) | exact Kept.step (W := wr) [(w2.heap.size, 0, .slice p (dig 10000 (z).natAbs).length c), (w2.heap.size, 1, .bool (decide (z < 0))), (w1.heap.size, 0, .slice px (dig 10000 (zx).natAbs).length cx), (w1.heap.size, 1, .bool (decide (zx < 0))), (w.heap.size, 0, .bool b1), (w.heap.size, 1, .slice pA nA cA)] [] (grown_drew _ _) S0)
              (first | (go_at_call 28; (with_reducible refine (wakes_true _).mono ?_); rintro e w' ⟨rfl, hg⟩) | (go_at_call 14; (with_reducible refine (Is_l (DZ.out.grown (by go_split_ands; assumption)) k3b n2).mono ?_); rintro e w' ⟨rfl, hg⟩; clear n2) | (go_at_call 37; (with_reducible refine (Pow_i n i HN.out (VA.out.grown (by go_split_ands; assumption)) k1000).mono ?_); rintro e w' ⟨v, rfl, h, bd, hg⟩; rw [← Z.out] at h; have n2 := h.nor; clear h bd))
            all_goals (rename_i hend; have g := hend.2.2.2.2.2.2; replace S := S.step _ g; clear g hend S0; go_wp2_with fail; go_ret; exact ⟨rfl, S.all⟩)
    · have t1 : ¬ 1 < (dig 10000 zx.natAbs).length := by omega
      have t1' : ¬ (1 : Int) < ((dig 10000 zx.natAbs).length : Int) := by omega

      obtain ⟨e0, e1, e2, e3, e4, e5, e6, e7, G⟩ := id S
      go_wp2_with fail
      clear e0 e1 e2 e3 e4 e5 e6 e7 G
      with_reducible refine (of_1 _).mono ?_
      rintro e w2 ⟨v, rfl, h, bd, g⟩
      obtain ⟨z1, hz1⟩ : ∃ z : Int, 1 = z := ⟨_, rfl⟩
      rw [hz1] at h bd
      replace VA := Lib.hid (VA.out.kp (Kp.of g))
      replace Dx := Lib.hid (Dx.out.kp (Kp.of g))
      replace S := S.step _ g
      obtain ⟨pz, cz, rfl, -⟩ := id h
      have Dz := Lib.hid (h.decI bd)
      have Hz1 := Lib.hid hz1
      clear h bd g hz1
      have x_0 := S.lt (g := w1.heap.size) (x := .slice px (dig 10000 (zx).natAbs).length cx) (y := .bool (decide (zx < 0))) (by simp)
      have x_1 := S.lt (g := w.heap.size) (x := .bool b1) (y := .slice pA nA cA) (by simp)
      replace VA := Lib.hid (VA.out.kp (Kp.of (grown_alloc _ (.cells #[.slice pz (dig 10000 (z1).natAbs).length cz, .bool (decide (z1 < 0))] 28) none)))
      replace Dx := Lib.hid (Dx.out.kp (Kp.of (grown_alloc _ (.cells #[.slice pz (dig 10000 (z1).natAbs).length cz, .bool (decide (z1 < 0))] 28) none)))
      replace Dz := Lib.hid (Dz.out.kp (Kp.of (grown_alloc _ (.cells #[.slice pz (dig 10000 (z1).natAbs).length cz, .bool (decide (z1 < 0))] 28) none)))
      replace S := S.box (w2.heap.size) (.slice pz (dig 10000 (z1).natAbs).length cz) (.bool (decide (z1 < 0))) 28 (by simp)
      obtain ⟨e0, e1, e2, e3, e4, e5, e6, e7, e8, e9, e10, e11, G⟩ := id S
      go_wp2_with fail
      clear e0 e1 e2 e3 e4 e5 e6 e7 e8 e9 e10 e11 G
      have sg : w2.heap.size < (w2.alloc (.cells #[.slice pz (dig 10000 (z1).natAbs).length cz, .bool (decide (z1 < 0))] 28)).heap.size := by simp
      have sl := S.all.size
      generalize (w2.alloc (.cells #[.slice pz (dig 10000 (z1).natAbs).length cz, .bool (decide (z1 < 0))] 28)) = W2 at *
      have y_0 := S.lt (g := w2.heap.size) (x := .slice pz (dig 10000 (z1).natAbs).length cz) (y := .bool (decide (z1 < 0))) (by simp)
      have y_1 := S.lt (g := w1.heap.size) (x := .slice px (dig 10000 (zx).natAbs).length cx) (y := .bool (decide (zx < 0))) (by simp)
      have y_2 := S.lt (g := w.heap.size) (x := .bool b1) (y := .slice pA nA cA) (by simp)
      go_loopw [8] (fun iv wr => ∃ (i : Nat) (z : Int) (p : Option Addr) (c : Nat), i ≤ k ∧ iv = .int .i64 (i : Int) ∧ Hid (z = zx ^ i) ∧ Hid (Bx w [(w2.heap.size, .slice p (dig 10000 (z).natAbs).length c, .bool (decide (z < 0))), (w1.heap.size, .slice px (dig 10000 (zx).natAbs).length cx, .bool (decide (zx < 0))), (w.heap.size, .bool b1, .slice pA nA cA)] wr) ∧ Hid (DecI wr (.agg #[.slice p (dig 10000 (z).natAbs).length c, .bool (decide (z < 0))]) z (2 * i + 2)) ∧ Hid (Kp W2 wr)) (fun iv _ => k - (intOf iv).toNat)
      case atStart => exact ⟨0, z1, pz, cz, Nat.zero_le _, rfl, by show z1 = _; rw [← Hz1.out, Int.pow_zero], S, Dz.out, Kp.refl _⟩
      case round =>
        obtain ⟨i, z, p, c, hi, rfl, Z, S1, DZ, KW⟩ := hrel
        clear S
        have S := S1.out
        have VA := Lib.hid (VA.out.kp KW.out)
        have Dx := Lib.hid (Dx.out.kp KW.out)
        clear S1 Dz
        by_cases hik : i < k
        · have hlt : (i : Int) < (k : Int) := by omega
          have k2b : 2 * i + 2 + 2 ≤ 1000000 := by omega
          obtain ⟨e0, e1, e2, e3, e4, e5, e6, e7, e8, e9, e10, e11, G⟩ := id S
          go_wp2_with fail
          clear e0 e1 e2 e3 e4 e5 e6 e7 e8 e9 e10 e11 G
          with_reducible refine (Mul_r DZ.out Dx.out k2b).mono ?_
          rintro e w8 ⟨v, rfl, h, bd, g⟩
          obtain ⟨zz, hzz⟩ : ∃ t, z * zx = t := ⟨_, rfl⟩
          rw [hzz] at h bd
          have KW8 := Lib.hid (KW.out.trans (Kp.of g))
          replace VA := Lib.hid (VA.out.kp (Kp.of g))
          replace Dx := Lib.hid (Dx.out.kp (Kp.of g))
          replace DZ := Lib.hid (DZ.out.kp (Kp.of g))
          replace S := S.step _ g
          obtain ⟨p8, c8, rfl, -⟩ := id h
          have D8 := Lib.hid (h.decI bd)
          have Z8 := Lib.hid (show zz = zx ^ (i + 1) by rw [← hzz, Z.out, Int.pow_succ])
          clear h bd g hzz KW
          obtain ⟨e0, e1, e2, e3, e4, e5, e6, e7, e8, e9, e10, e11, G⟩ := id S
          have K := S.kp (g := w2.heap.size) (x := .slice p (dig 10000 (z).natAbs).length c) (y := .bool (decide (z < 0))) (.slice p8 (dig 10000 (zz).natAbs).length c8) (.bool (decide (zz < 0))) (by simp) (by simp) (by simp)
          have S9 := Lib.hid (S.put (g := w2.heap.size) (u := .slice p8 (dig 10000 (zz).natAbs).length c8) (v := .bool (decide (zz < 0))) (x := .slice p (dig 10000 (z).natAbs).length c) (y := .bool (decide (z < 0))) (bs' := [(w1.heap.size, .slice px (dig 10000 (zx).natAbs).length cx, .bool (decide (zx < 0))), (w.heap.size, .bool b1, .slice pA nA cA)]) (by simp) (by simp <;> omega) (by simp <;> omega) (by omega))
          have D9 := Lib.hid (D8.out.kp K)
          have K9 := Lib.hid (KW8.out.trans K)
          clear K KW8 D8 DZ VA Dx S
          go_wp2_with fail
          go_roundw
          case rel => exact ⟨i + 1, zz, p8, c8, by omega, by go_num, Z8.out, S9.out, D9.out, K9.out⟩
          case measure => simp [intOf]; omega
        · obtain rfl : i = k := by omega
          have k3b : 2 * i + 2 ≤ 1000000 := by omega
          have k1000 : 2 ≤ 1000 := by omega
          have HN := Lib.hid (show (n < 0 ∧ i = 0) ∨ (n = (i : Int) ∧ i ≤ 256) ∨ (256 < n ∧ i = 256) from Hk.out)
          obtain ⟨e0, e1, e2, e3, e4, e5, e6, e7, e8, e9, e10, e11, G⟩ := id S
          go_wp2_with fail
          clear e0 e1 e2 e3 e4 e5 e6 e7 e8 e9 e10 e11 G
          obtain ⟨e0, e1, e2, e3, e4, e5, e6, e7, e8, e9, e10, e11, G⟩ := id S
          have S0 : Kept wr [(w2.heap.size, 0, .slice p (dig 10000 (z).natAbs).length c), (w2.heap.size, 1, .bool (decide (z < 0))), (w1.heap.size, 0, .slice px (dig 10000 (zx).natAbs).length cx), (w1.heap.size, 1, .bool (decide (zx < 0))), (w.heap.size, 0, .bool b1), (w.heap.size, 1, .slice pA nA cA)] [] wr := ⟨e0, e1, e4, e5, e8, e9, grown_refl _ _⟩
          clear e0 e1 e2 e3 e4 e5 e6 e7 e8 e9 e10 e11 G
          go_region_held3 (fun w' => w'.cell? ⟨w2.heap.size, 0, none⟩ = some (.slice p (dig 10000 (z).natAbs).length c) ∧ w'.cell? ⟨w2.heap.size, 1, none⟩ = some (.bool (decide (z < 0))) ∧ w'.cell? ⟨w1.heap.size, 0, none⟩ = some (.slice px (dig 10000 (zx).natAbs).length cx) ∧ w'.cell? ⟨w1.heap.size, 1, none⟩ = some (.bool (decide (zx < 0))) ∧ w'.cell? ⟨w.heap.size, 0, none⟩ = some (.bool b1) ∧ w'.cell? ⟨w.heap.size, 1, none⟩ = some (.slice pA nA cA) ∧ wr.grownBy w' none) (first | exact Kept.step (W := wr) [(w2.heap.size, 0, .slice p (dig 10000 (z).natAbs).length c), (w2.heap.size, 1, .bool (decide (z < 0))), (w1.heap.size, 0, .slice px (dig 10000 (zx).natAbs).length cx), (w1.heap.size, 1, .bool (decide (zx < 0))), (w.heap.size, 0, .bool b1), (w.heap.size, 1, .slice pA nA cA)] [] (by assumption) (by assumption) | exact Kept.step (W := wr) [(w2.heap.size, 0, .slice p (dig 10000 (z).natAbs).length c), (w2.heap.size, 1, .bool (decide (z < 0))), (w1.heap.size, 0, .slice px (dig 10000 (zx).natAbs).length cx), (w1.heap.size, 1, .bool (decide (zx < 0))), (w.heap.size, 0, .bool b1), (w.heap.size, 1, .slice pA nA cA)] [] (grown_alloc _ _ _) (by assumption) | exact Kept.step (W := wr) [(w2.heap.size, 0, .slice p (dig 10000 (z).natAbs).length c), (w2.heap.size, 1, .bool (decide (z < 0))), (w1.heap.size, 0, .slice px (dig 10000 (zx).natAbs).length cx), (w1.heap.size, 1, .bool (decide (zx < 0))), (w.heap.size, 0, .bool b1), (w.heap.size, 1, .slice pA nA cA)] [] (grown_drew _ _) S0)
            (first | (go_at_call 28; (with_reducible refine (wakes_true _).mono ?_); rintro e w' ⟨rfl, hg⟩) | (go_at_call 14; (with_reducible refine (Is_l (DZ.out.grown (by go_split_ands; assumption)) k3b n2).mono ?_); rintro e w' ⟨rfl, hg⟩; clear n2) | (go_at_call 37; (with_reducible refine (Pow_i n i HN.out (VA.out.grown (by go_split_ands; assumption)) k1000).mono ?_); rintro e w' ⟨v, rfl, h, bd, hg⟩; rw [← Z.out] at h; have n2 := h.nor; clear h bd))
          all_goals (rename_i hend; have g := hend.2.2.2.2.2.2; replace S := S.step _ g; clear g hend S0; go_wp2_with fail; go_ret; exact ⟨rfl, S.all⟩)

set_option maxRecDepth 100000 in
theorem lifted (os : Os) (started : os.Started) (H : Type) (enc : TypeId × Value → H) :
    ReturnsInHanded {} Try.checked os 6 .any (Rows.wholePowsSpec.pre6 enc Try.prog Try.f6 Rows.wholePowsRow.domain false) (Rows.wholePowsSpec.post enc Try.prog Try.f6 false true false false) := by
  refine returnsInHanded_of_change (C := Try.checked) Try.own started (by kernel_rfl) Try.func6
    (ChangeSpec.witness6 (enc := enc) (C := Try.checked) false ⟨#[], #[.agg #[.bool false, .slice none 0 0], .int .i64 0], []⟩ 8 (by kernel_rfl) (by kernel_rfl) (by kernel_rfl) (by kernel_rfl)) ?_
  intro W base args ds gs before hval0 hW _ _
  have hval : ∀ (j : Nat) t v, Try.f6.params[j]? = some t → args[j]? = some v → Value.okWide Try.prog W .any base t v := hval0
  obtain ⟨p, q, hA0, hV, rfl, _, _⟩ := id hW
  have hA : DataW.TrodAll enc Try.prog W 0 (fun _ => true) true Try.f6.params.toList args.toList ds p := hA0
  rw [Try.params6] at hA hval
  obtain ⟨v0, vs0, d0, ds0, p0, q0, hargs, rfl, rfl, h0, r0⟩ := trodAll_cons hA
  obtain ⟨v1, vs1, d1, ds1, p1, q1, rfl, rfl, rfl, h1, r1⟩ := trodAll_cons r0
  obtain ⟨rfl, rfl, rfl⟩ := trodAll_nil r1
  obtain rfl : args = #[v0, v1] := by cases args; simp_all
  obtain ⟨b0, w0, xs0, rfl, s0, a0⟩ := int_of_trod h0 (hval 0 24 v0 rfl rfl)
  obtain ⟨n1, rfl, rfl, rfl, f1⟩ := open_int Try.underlying3 (hval 1 3 v1 rfl rfl) h1
  refine (walk s0 a0 n1 (wf_lo f1) (wf_hi f1)).mono fun e W' ⟨he, hg⟩ => ?_
  subst he
  refine ⟨_, rfl, law_post Try.laidOut rfl (by kernel_rfl) Try.underlying4 ?_ ?_ hW hg⟩
  · rw [Try.params6]; decide +kernel
  · rw [Try.params6]
    intro ds h
    match ds, h with
    | [_, _], _ => rfl

theorem holds : Rows.WholePowsSaid :=
  OpenClaim.holds_of_wide 6 Try.f6 rfl rfl rfl rfl rfl rfl rfl ⟨rfl, rfl, rfl, rfl, rfl⟩ rfl rfl rfl rfl rfl (by kernel_rfl) Try.func6 (by kernel_rfl)
    (of_decide_eq_true (by kernel_rfl)) (by unfold Func.isWrapper; first | (rw [if_pos (by decide +kernel)]; kernel_rfl) | (rw [if_neg (by decide +kernel)]; exact ⟨rfl, rfl⟩))
    (fun os started H enc _ => lifted os started H enc)

end Go.Proofs.Ytmmmpdpgkjcohaa.pows
