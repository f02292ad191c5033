/- Package whole: DivMod and Exact of numbers. -/
import Derived.Test.YtmmmpdpgkjcohaaIntD
namespace Go.Proofs.Ytmmmpdpgkjcohaa
open Go.RowKit

theorem DivI.of {w w' : World} {q r q' r' : Int} {i j i' j' : Nat} {e : Ending} (h : DivI w q r i j e w') (h1 : q = q') (h2 : r = r') (hi : i ≤ i') (hj : j ≤ j') : DivI w q' r' i' j' e w' := by
  subst h1 h2
  obtain ⟨v, u, a1, a2, a3, a4, a5, a6⟩ := h
  exact ⟨v, u, a1, a2, a3, a4.more hi, a5.more hj, a6⟩
theorem DivMod_i {v u : Value} {z y : Int} {i j : Nat} {w : World} (hx : IntV w v z i) (hy : IntV w u y j) (hi : i + j ≤ 900000) (h0 : y ≠ 0) :
    Calls Try.prog 42 #[v, u] w (DivI w (z / y) (z % y) (i + 2) j) := by
  obtain ⟨b, s, X, rfl, hx, rfl⟩ := hx
  obtain ⟨b', s', Y, rfl, hy, rfl⟩ := hy
  have hY : Y ≠ 0 := by rintro rfl; exact h0 (by cases b' <;> rfl)
  cases b
  · exact (DivMod_pos_i hx hy hi hY).mono fun _ _ h => h.of rfl rfl (by omega) (by omega)
  · by_cases hR : X % Y = 0
    · exact (DivMod_even_i hx hy hi hY hR).mono fun _ _ h => h.of rfl rfl (by omega) (by omega)
    · exact (DivMod_neg_i hx hy hi hY hR).mono fun _ _ h => h.of rfl rfl (by omega) (by omega)
theorem DivMod_i0 {v u : Value} {z y : Int} {i j : Nat} {w : World} (hx : IntV w v z i) (hy : IntV w u y j) (hi : i + j ≤ 900000) (h0 : y = 0) :
    Calls Try.prog 42 #[v, u] w (fun e w' => e = .returned (.tuple #[ZI, ZI, .int .i64 2]) ∧ w.grownBy w' none) := by
  obtain ⟨b, s, X, rfl, hx, rfl⟩ := hx
  obtain ⟨b', s', Y, rfl, hy, rfl⟩ := hy
  exact DivMod_no_i hx hy hi (by cases b' <;> simp [sg] at h0 <;> exact h0)

set_option maxHeartbeats 2000000 in
theorem Exact_zero {v u : Value} {z y : Int} {i j : Nat} {w : World} (hx : IntV w v z i) (hy : IntV w u y j) (hi : i + j ≤ 900000) (h0 : y = 0) :
    Calls Try.prog 44 #[v, u] w (fun e w' => e = .returned (.tuple #[ZI, .int .i64 2]) ∧ w.grownBy w' none) := by
  have Vx := Lib.hid hx
  have Vy := Lib.hid hy
  have H0 := Lib.hid h0
  obtain ⟨b, s, X, rfl, hx, rfl⟩ := hx
  obtain ⟨p, n, cap, rfl⟩ := hx.slice
  obtain ⟨b', s', Y, rfl, hy, rfl⟩ := hy
  obtain ⟨q, m, cap', rfl⟩ := hy.slice
  have Hx := Lib.hid hx
  have Hy := Lib.hid hy
  have S0 : Kept w [(w.heap.size + 1, 0, .bool b'), (w.heap.size + 1, 1, .slice q m cap'), (w.heap.size, 0, .bool b), (w.heap.size, 1, .slice p n cap)] [w.heap.size + 1 + 1] (((w.alloc (.cells #[.bool b, .slice p n cap] 24)).alloc (.cells #[.bool b', .slice q m cap'] 24)).alloc (.cells #[.bool false, .slice none 0 0] 24)) := (((Kept.start w).box _ _ _ _ rfl).box _ _ _ _ (by simp)).res _ _ _ _ _ (by simp)
  clear hx hy Hx Hy h0
  go_enter Try.func44, Try.ntmps44
  go_wp2_with fail
  refine (DivMod_i0 (Vx.out.grown (Kept.all _ _ S0)) (Vy.out.grown (Kept.all _ _ S0)) hi H0.out).mono ?_
  rintro e w1 ⟨rfl, hg⟩
  replace S0 := (Kept.grown _ _ S0 hg).grown _ _ (grown_trans (grown_alloc _ (.cells #[.bool false, .slice none 0 0] 24) none) (grown_alloc _ (.cells #[.bool false, .slice none 0 0] 24) none))
  unfold ZI
  clear hg
  obtain ⟨c0, c1, c2, c3, r0, r1, r2, r3, G⟩ := id S0
  go_wp2_with fail
  exact post_exact Try.results44 rfl rfl rfl (set2_fst r0) (set2_snd r1) ⟨rfl, Kept.all _ _ (Kept.set _ _ (by simp <;> omega) (by first | omega | (simp <;> omega)) S0)⟩

set_option maxHeartbeats 2000000 in
theorem Exact_even {v u : Value} {z y : Int} {i j : Nat} {w : World} (hx : IntV w v z i) (hy : IntV w u y j) (hi : i + j ≤ 900000) (h0 : y ≠ 0 ∧ z % y = 0) :
    Calls Try.prog 44 #[v, u] w (fun e w' => ∃ v, e = .returned (.tuple #[v, .int .i64 0]) ∧ OwnI w' w.heap.size v (z / y) ∧ Bd (z / y).natAbs (i + 2) ∧ w.grownBy w' none) := by
  have Vx := Lib.hid hx
  have Vy := Lib.hid hy
  have H0 := Lib.hid h0
  obtain ⟨b, s, X, rfl, hx, rfl⟩ := hx
  obtain ⟨p, n, cap, rfl⟩ := hx.slice
  obtain ⟨b', s', Y, rfl, hy, rfl⟩ := hy
  obtain ⟨q, m, cap', rfl⟩ := hy.slice
  have Hx := Lib.hid hx
  have Hy := Lib.hid hy
  have S0 : Kept w [(w.heap.size + 1, 0, .bool b'), (w.heap.size + 1, 1, .slice q m cap'), (w.heap.size, 0, .bool b), (w.heap.size, 1, .slice p n cap)] [w.heap.size + 1 + 1] (((w.alloc (.cells #[.bool b, .slice p n cap] 24)).alloc (.cells #[.bool b', .slice q m cap'] 24)).alloc (.cells #[.bool false, .slice none 0 0] 24)) := (((Kept.start w).box _ _ _ _ rfl).box _ _ _ _ (by simp)).res _ _ _ _ _ (by simp)
  clear hx hy Hx Hy h0
  go_enter Try.func44, Try.ntmps44
  go_wp2_with fail
  have S1 := S0
  refine (DivMod_i (Vx.out.grown (Kept.all _ _ S0)) (Vy.out.grown (Kept.all _ _ S0)) hi H0.out.1).mono ?_
  rintro e w1 ⟨v, u, rfl, hq, hr, bq, br, hg⟩
  obtain ⟨pv, nv, rfl, hq2⟩ := id hq
  obtain ⟨pu, nu, rfl, hr2⟩ := id hr
  replace S0 := ((Kept.grown _ _ S0 hg).box w1.heap.size (.bool (decide (sg b X / sg b' Y < 0))) (.slice pv (dig 4294967296 (sg b X / sg b' Y).natAbs).length nv) 24 rfl).grown _ _ (grown_alloc _ (.cells #[.bool (decide (sg b X % sg b' Y < 0)), .slice pu (dig 4294967296 (sg b X % sg b' Y).natAbs).length nu] 24) none)
  clear hq2 hr2
  obtain ⟨q0, q1, c0, c1, c2, c3, r0, r1, r2, r3, G⟩ := id S0
  go_wp2_with fail
  refine Zero_i.mono ?_
  rintro e w2 ⟨rfl, hg2⟩
  have dz : decide ((dig 4294967296 (sg b X % sg b' Y).natAbs).length = 0) = decide (sg b X % sg b' Y = 0) := by
    have := dig_len_zero (b := 4294967296) (by omega) (n := (sg b X % sg b' Y).natAbs)
    exact decide_eq_decide.2 ⟨fun h => by omega, fun h => by omega⟩
  rw [dz]
  have Gq := Lib.hid (show (OwnI w2 _ _ _) from (hq.grown (grown_trans (grown_alloc _ _ _) (grown_alloc _ _ _))).grown hg2)
  replace S0 := S0.grown _ _ hg2
  have hg1 := hg
  clear dz q0 q1 c0 c1 c2 c3 r0 r1 r2 r3 G hg hg2 hq hr
  obtain ⟨q0, q1, c0, c1, c2, c3, r0, r1, r2, r3, G⟩ := id S0
  have dt : decide (sg b X % sg b' Y = 0) = true := decide_eq_true H0.out.2
  rw [dt]
  go_wp2_with fail
  have hB := S1.size
  have hL := S1.lt (g := w.heap.size + 1 + 1) (by simp)
  refine post_exact Try.results44 rfl rfl rfl (set2_fst r0) (set2_snd r1) ⟨_, rfl, ?_, bq, Kept.all _ _ (Kept.set _ _ ?_ (by first | omega | (simp <;> omega)) S0)⟩
  · obtain ⟨p', cap', h1, h2⟩ := Gq.out
    simp only [Value.agg.injEq, Array.mk.injEq, List.cons.injEq, and_true] at h1
    obtain ⟨-, h1⟩ := h1
    refine ⟨p', cap', by rw [h1], ?_⟩
    exact (h2.mono hB).grown (set2_grown _ _ _ _) (own_ne h2 hL)
  · have hL2 := Nat.lt_of_lt_of_le hL hg1.size
    simp <;> omega

set_option maxHeartbeats 2000000 in
theorem Exact_odd {v u : Value} {z y : Int} {i j : Nat} {w : World} (hx : IntV w v z i) (hy : IntV w u y j) (hi : i + j ≤ 900000) (h0 : y ≠ 0 ∧ z % y ≠ 0) :
    Calls Try.prog 44 #[v, u] w (fun e w' => e = .returned (.tuple #[ZI, .int .i64 3]) ∧ w.grownBy w' none) := by
  have Vx := Lib.hid hx
  have Vy := Lib.hid hy
  have H0 := Lib.hid h0
  obtain ⟨b, s, X, rfl, hx, rfl⟩ := hx
  obtain ⟨p, n, cap, rfl⟩ := hx.slice
  obtain ⟨b', s', Y, rfl, hy, rfl⟩ := hy
  obtain ⟨q, m, cap', rfl⟩ := hy.slice
  have Hx := Lib.hid hx
  have Hy := Lib.hid hy
  have S0 : Kept w [(w.heap.size + 1, 0, .bool b'), (w.heap.size + 1, 1, .slice q m cap'), (w.heap.size, 0, .bool b), (w.heap.size, 1, .slice p n cap)] [w.heap.size + 1 + 1] (((w.alloc (.cells #[.bool b, .slice p n cap] 24)).alloc (.cells #[.bool b', .slice q m cap'] 24)).alloc (.cells #[.bool false, .slice none 0 0] 24)) := (((Kept.start w).box _ _ _ _ rfl).box _ _ _ _ (by simp)).res _ _ _ _ _ (by simp)
  clear hx hy Hx Hy h0
  go_enter Try.func44, Try.ntmps44
  go_wp2_with fail
  have S1 := S0
  refine (DivMod_i (Vx.out.grown (Kept.all _ _ S0)) (Vy.out.grown (Kept.all _ _ S0)) hi H0.out.1).mono ?_
  rintro e w1 ⟨v, u, rfl, hq, hr, bq, br, hg⟩
  obtain ⟨pv, nv, rfl, hq2⟩ := id hq
  obtain ⟨pu, nu, rfl, hr2⟩ := id hr
  replace S0 := ((Kept.grown _ _ S0 hg).box w1.heap.size (.bool (decide (sg b X / sg b' Y < 0))) (.slice pv (dig 4294967296 (sg b X / sg b' Y).natAbs).length nv) 24 rfl).grown _ _ (grown_alloc _ (.cells #[.bool (decide (sg b X % sg b' Y < 0)), .slice pu (dig 4294967296 (sg b X % sg b' Y).natAbs).length nu] 24) none)
  clear hq2 hr2
  obtain ⟨q0, q1, c0, c1, c2, c3, r0, r1, r2, r3, G⟩ := id S0
  go_wp2_with fail
  refine Zero_i.mono ?_
  rintro e w2 ⟨rfl, hg2⟩
  have dz : decide ((dig 4294967296 (sg b X % sg b' Y).natAbs).length = 0) = decide (sg b X % sg b' Y = 0) := by
    have := dig_len_zero (b := 4294967296) (by omega) (n := (sg b X % sg b' Y).natAbs)
    exact decide_eq_decide.2 ⟨fun h => by omega, fun h => by omega⟩
  rw [dz]
  have Gq := Lib.hid (show (OwnI w2 _ _ _) from (hq.grown (grown_trans (grown_alloc _ _ _) (grown_alloc _ _ _))).grown hg2)
  replace S0 := S0.grown _ _ hg2
  have hg1 := hg
  clear dz q0 q1 c0 c1 c2 c3 r0 r1 r2 r3 G hg hg2 hq hr
  obtain ⟨q0, q1, c0, c1, c2, c3, r0, r1, r2, r3, G⟩ := id S0
  have dt : decide (sg b X % sg b' Y = 0) = false := decide_eq_false H0.out.2
  rw [dt]
  clear Gq
  go_wp2_with fail
  have hL := S1.lt (g := w.heap.size + 1 + 1) (by simp)
  refine post_exact Try.results44 rfl rfl rfl (set2_fst r0) (set2_snd r1) ⟨rfl, Kept.all _ _ (Kept.set _ _ ?_ (by first | omega | (simp <;> omega)) S0)⟩
  have hL2 := Nat.lt_of_lt_of_le hL hg1.size
  simp <;> omega

end Go.Proofs.Ytmmmpdpgkjcohaa
