/- WholeLaws holds: for every three whole numbers the law returns true and leaves them as they were. No condition. -/
import Derived.Test.YtmmmpdpgkjcohaaGcd
namespace Go.Proofs.Ytmmmpdpgkjcohaa.laws
open Go.ChangeShapes Go.WideShapes Go.ChangeAt Go.RowKit

theorem cmpI_self (z : Int) : cmpI z z = 0 := by simp [cmpI]
theorem cmpI_ge {z : Int} (h : 0 ≤ z) : 0 ≤ cmpI z 0 := by
  unfold cmpI
  rw [if_neg (by omega)]
  split <;> omega
theorem cmpI_lt {z y : Int} (h : z < y) : cmpI z y = -1 := by unfold cmpI; rw [if_pos h]
theorem gcd_ne {a b : Int} (h : b ≠ 0) : ((Nat.gcd a.natAbs b.natAbs : Nat) : Int) ≠ 0 := by
  have := Nat.gcd_pos_of_pos_right a.natAbs (show 0 < b.natAbs by omega)
  omega
theorem gcd_mod_l (a b : Int) : a % ((Nat.gcd a.natAbs b.natAbs : Nat) : Int) = 0 := Int.emod_eq_zero_of_dvd (Int.gcd_dvd_left a b)
theorem gcd_mod_r (a b : Int) : b % ((Nat.gcd a.natAbs b.natAbs : Nat) : Int) = 0 := Int.emod_eq_zero_of_dvd (Int.gcd_dvd_right a b)
theorem gcd_left (a b : Int) (h : b ≠ 0) : ((Nat.gcd (a / ((Nat.gcd a.natAbs b.natAbs : Nat) : Int)).natAbs (b / ((Nat.gcd a.natAbs b.natAbs : Nat) : Int)).natAbs : Nat) : Int) = 1 := by
  have hp := Nat.gcd_pos_of_pos_right a.natAbs (show 0 < b.natAbs by omega)
  exact congrArg (Nat.cast : Nat → Int) (Int.gcd_ediv_gcd_ediv_gcd (i := a) (j := b) hp)
set_option maxHeartbeats 8000000 in
set_option maxRecDepth 100000 in
theorem walk {b1 b2 b3 : Bool} {v1 v2 v3 : Value} {xs ys zs : List Nat} {w : World} (hx : Sl w .u32 v1 xs) (ax : All 4294967296 xs) (hy : Sl w .u32 v2 ys) (ay : All 4294967296 ys) (hz : Sl w .u32 v3 zs) (az : All 4294967296 zs) :
    Calls Try.prog 8 #[.agg #[.bool b1, v1], .agg #[.bool b2, v2], .agg #[.bool b3, v3]] w (Bool_ w true) := by
  obtain ⟨p1, c1, rfl, -⟩ := id hx
  obtain ⟨p2, c2, rfl, -⟩ := id hy
  obtain ⟨p3, c3, rfl, -⟩ := id hz
  have Hx := Lib.hid hx
  have Hy := Lib.hid hy
  have Hz := Lib.hid hz
  have Ax := Lib.hid ax
  have Ay := Lib.hid ay
  have Az := Lib.hid az
  have S : Bx w [(w.heap.size + 1 + 1, .bool b3, .slice p3 zs.length c3), (w.heap.size + 1, .bool b2, .slice p2 ys.length c2), (w.heap.size, .bool b1, .slice p1 xs.length c1)] (((w.alloc (.cells #[.bool b1, .slice p1 xs.length c1] 24)).alloc (.cells #[.bool b2, .slice p2 ys.length c2] 24)).alloc (.cells #[.bool b3, .slice p3 zs.length c3] 24)) := ((((Bx.start w).box (w.heap.size) (.bool b1) (.slice p1 xs.length c1) 24 (by simp)).box (w.heap.size + 1) (.bool b2) (.slice p2 ys.length c2) 24 (by simp)).box (w.heap.size + 1 + 1) (.bool b3) (.slice p3 zs.length c3) 24 (by simp))
  clear hx ax hy ay hz az
  go_enter Try.func8, Try.ntmps8
  obtain ⟨e0, e1, e2, e3, e4, e5, e6, e7, e8, e9, e10, e11, G⟩ := id S
  go_wp2_with fail
  clear e0 e1 e2 e3 e4 e5 e6 e7 e8 e9 e10 e11 G
  refine (Of_l 8 (Hx.out.grown S.all (.inl rfl)) Ax.out (by omega)).mono ?_
  rintro e w1 ⟨pA, nA, cA, ua, rfl, hs, hd, g⟩
  replace hs := hs.grown g (.inl rfl)
  replace S := S.step _ g
  clear g
  obtain ⟨za, hza⟩ : ∃ z, sg b1 (val 4294967296 (xs.take 8)) = z := ⟨_, rfl⟩
  rw [hza] at hd
  have bda := hd.bd
  obtain ⟨pa, ca, rfl, -⟩ := id hd
  have VA := Lib.hid (show IntV _ (.agg #[.bool b1, .slice pA nA cA]) za 8 from ⟨_, _, _, rfl, Num.row hs (Ax.out.take 8) 8 (by rw [List.length_take]; omega), hza.symm⟩)
  clear hs hd hza
  have z1_0 := S.lt (g := w.heap.size + 1 + 1) (x := .bool b3) (y := .slice p3 zs.length c3) (by simp)
  have z1_1 := S.lt (g := w.heap.size + 1) (x := .bool b2) (y := .slice p2 ys.length c2) (by simp)
  have z1_2 := S.lt (g := w.heap.size) (x := .bool b1) (y := .slice p1 xs.length c1) (by simp)
  obtain ⟨e0, e1, e2, e3, e4, e5, e6, e7, e8, e9, e10, e11, G⟩ := id S
  have K : Kp w1 ((w1.setCell ⟨w.heap.size, 0, none⟩ (.bool b1)).setCell ⟨w.heap.size, 1, none⟩ (.slice pA nA cA)) := (S.kp (g := w.heap.size) (x := .bool b1) (y := .slice p1 xs.length c1) (.bool b1) (.slice pA nA cA) (by simp) (by simp) (by simp))
  have S2 : Bx w [(w.heap.size, .bool b1, .slice pA nA cA), (w.heap.size + 1 + 1, .bool b3, .slice p3 zs.length c3), (w.heap.size + 1, .bool b2, .slice p2 ys.length c2)] ((w1.setCell ⟨w.heap.size, 0, none⟩ (.bool b1)).setCell ⟨w.heap.size, 1, none⟩ (.slice pA nA cA)) := S.put (g := w.heap.size) (u := .bool b1) (v := .slice pA nA cA) (x := .bool b1) (y := .slice p1 xs.length c1) (bs' := [(w.heap.size + 1 + 1, .bool b3, .slice p3 zs.length c3), (w.heap.size + 1, .bool b2, .slice p2 ys.length c2)]) (by simp) (by simp <;> omega) (by simp <;> omega) (by omega)
  replace S : Bx w [(w.heap.size, .bool b1, .slice pA nA cA), (w.heap.size + 1 + 1, .bool b3, .slice p3 zs.length c3), (w.heap.size + 1, .bool b2, .slice p2 ys.length c2)] ((w1.setCell ⟨w.heap.size, 0, none⟩ (.bool b1)).setCell ⟨w.heap.size, 1, none⟩ (.slice pA nA cA)) := S2
  replace VA := Lib.hid (VA.out.kp K)
  go_wp2_with fail
  clear K S2 e0 e1 e2 e3 e4 e5 e6 e7 e8 e9 e10 e11 G
  have sz1 : (((w1.setCell ⟨w.heap.size, 0, none⟩ (.bool b1)).setCell ⟨w.heap.size, 1, none⟩ (.slice pA nA cA))).heap.size = w1.heap.size := by simp
  generalize ((w1.setCell ⟨w.heap.size, 0, none⟩ (.bool b1)).setCell ⟨w.heap.size, 1, none⟩ (.slice pA nA cA)) = W1 at *
  refine (Of_l 6 (Hy.out.grown S.all (.inl rfl)) Ay.out (by omega)).mono ?_
  rintro e w2 ⟨pB, nB, cB, ub, rfl, hs, hd, g⟩
  replace hs := hs.grown g (.inl rfl)
  replace VA := Lib.hid (VA.out.kp (Kp.of g))
  replace S := S.step _ g
  clear g
  obtain ⟨zb, hzb⟩ : ∃ z, sg b2 (val 4294967296 (ys.take 6)) = z := ⟨_, rfl⟩
  rw [hzb] at hd
  have bdb := hd.bd
  obtain ⟨pb, cb, rfl, -⟩ := id hd
  have VB := Lib.hid (show IntV _ (.agg #[.bool b2, .slice pB nB cB]) zb 6 from ⟨_, _, _, rfl, Num.row hs (Ay.out.take 6) 6 (by rw [List.length_take]; omega), hzb.symm⟩)
  clear hs hd hzb
  have z2_0 := S.lt (g := w.heap.size) (x := .bool b1) (y := .slice pA nA cA) (by simp)
  have z2_1 := S.lt (g := w.heap.size + 1 + 1) (x := .bool b3) (y := .slice p3 zs.length c3) (by simp)
  have z2_2 := S.lt (g := w.heap.size + 1) (x := .bool b2) (y := .slice p2 ys.length c2) (by simp)
  obtain ⟨e0, e1, e2, e3, e4, e5, e6, e7, e8, e9, e10, e11, G⟩ := id S
  have K : Kp w2 ((w2.setCell ⟨w.heap.size + 1, 0, none⟩ (.bool b2)).setCell ⟨w.heap.size + 1, 1, none⟩ (.slice pB nB cB)) := (S.kp (g := w.heap.size + 1) (x := .bool b2) (y := .slice p2 ys.length c2) (.bool b2) (.slice pB nB cB) (by simp) (by simp) (by simp))
  have S2 : Bx w [(w.heap.size + 1, .bool b2, .slice pB nB cB), (w.heap.size, .bool b1, .slice pA nA cA), (w.heap.size + 1 + 1, .bool b3, .slice p3 zs.length c3)] ((w2.setCell ⟨w.heap.size + 1, 0, none⟩ (.bool b2)).setCell ⟨w.heap.size + 1, 1, none⟩ (.slice pB nB cB)) := S.put (g := w.heap.size + 1) (u := .bool b2) (v := .slice pB nB cB) (x := .bool b2) (y := .slice p2 ys.length c2) (bs' := [(w.heap.size, .bool b1, .slice pA nA cA), (w.heap.size + 1 + 1, .bool b3, .slice p3 zs.length c3)]) (by simp) (by simp <;> omega) (by simp <;> omega) (by omega)
  replace S : Bx w [(w.heap.size + 1, .bool b2, .slice pB nB cB), (w.heap.size, .bool b1, .slice pA nA cA), (w.heap.size + 1 + 1, .bool b3, .slice p3 zs.length c3)] ((w2.setCell ⟨w.heap.size + 1, 0, none⟩ (.bool b2)).setCell ⟨w.heap.size + 1, 1, none⟩ (.slice pB nB cB)) := S2
  replace VA := Lib.hid (VA.out.kp K)
  replace VB := Lib.hid (VB.out.kp K)
  go_wp2_with fail
  clear K S2 e0 e1 e2 e3 e4 e5 e6 e7 e8 e9 e10 e11 G
  have sz2 : (((w2.setCell ⟨w.heap.size + 1, 0, none⟩ (.bool b2)).setCell ⟨w.heap.size + 1, 1, none⟩ (.slice pB nB cB))).heap.size = w2.heap.size := by simp
  generalize ((w2.setCell ⟨w.heap.size + 1, 0, none⟩ (.bool b2)).setCell ⟨w.heap.size + 1, 1, none⟩ (.slice pB nB cB)) = W2 at *
  refine (Of_l 6 (Hz.out.grown S.all (.inl rfl)) Az.out (by omega)).mono ?_
  rintro e w3 ⟨pC, nC, cC, uc, rfl, hs, hd, g⟩
  replace hs := hs.grown g (.inl rfl)
  replace VA := Lib.hid (VA.out.kp (Kp.of g))
  replace VB := Lib.hid (VB.out.kp (Kp.of g))
  replace S := S.step _ g
  clear g
  obtain ⟨zc, hzc⟩ : ∃ z, sg b3 (val 4294967296 (zs.take 6)) = z := ⟨_, rfl⟩
  rw [hzc] at hd
  have bdc := hd.bd
  obtain ⟨pc, cc, rfl, -⟩ := id hd
  have VC := Lib.hid (show IntV _ (.agg #[.bool b3, .slice pC nC cC]) zc 6 from ⟨_, _, _, rfl, Num.row hs (Az.out.take 6) 6 (by rw [List.length_take]; omega), hzc.symm⟩)
  clear hs hd hzc
  have z3_0 := S.lt (g := w.heap.size + 1) (x := .bool b2) (y := .slice pB nB cB) (by simp)
  have z3_1 := S.lt (g := w.heap.size) (x := .bool b1) (y := .slice pA nA cA) (by simp)
  have z3_2 := S.lt (g := w.heap.size + 1 + 1) (x := .bool b3) (y := .slice p3 zs.length c3) (by simp)
  obtain ⟨e0, e1, e2, e3, e4, e5, e6, e7, e8, e9, e10, e11, G⟩ := id S
  have K : Kp w3 ((w3.setCell ⟨w.heap.size + 1 + 1, 0, none⟩ (.bool b3)).setCell ⟨w.heap.size + 1 + 1, 1, none⟩ (.slice pC nC cC)) := (S.kp (g := w.heap.size + 1 + 1) (x := .bool b3) (y := .slice p3 zs.length c3) (.bool b3) (.slice pC nC cC) (by simp) (by simp) (by simp))
  have S2 : Bx w [(w.heap.size + 1 + 1, .bool b3, .slice pC nC cC), (w.heap.size + 1, .bool b2, .slice pB nB cB), (w.heap.size, .bool b1, .slice pA nA cA)] ((w3.setCell ⟨w.heap.size + 1 + 1, 0, none⟩ (.bool b3)).setCell ⟨w.heap.size + 1 + 1, 1, none⟩ (.slice pC nC cC)) := S.put (g := w.heap.size + 1 + 1) (u := .bool b3) (v := .slice pC nC cC) (x := .bool b3) (y := .slice p3 zs.length c3) (bs' := [(w.heap.size + 1, .bool b2, .slice pB nB cB), (w.heap.size, .bool b1, .slice pA nA cA)]) (by simp) (by simp <;> omega) (by simp <;> omega) (by omega)
  replace S : Bx w [(w.heap.size + 1 + 1, .bool b3, .slice pC nC cC), (w.heap.size + 1, .bool b2, .slice pB nB cB), (w.heap.size, .bool b1, .slice pA nA cA)] ((w3.setCell ⟨w.heap.size + 1 + 1, 0, none⟩ (.bool b3)).setCell ⟨w.heap.size + 1 + 1, 1, none⟩ (.slice pC nC cC)) := S2
  replace VA := Lib.hid (VA.out.kp K)
  replace VB := Lib.hid (VB.out.kp K)
  replace VC := Lib.hid (VC.out.kp K)
  go_wp2_with fail
  clear K S2 e0 e1 e2 e3 e4 e5 e6 e7 e8 e9 e10 e11 G
  have sz3 : (((w3.setCell ⟨w.heap.size + 1 + 1, 0, none⟩ (.bool b3)).setCell ⟨w.heap.size + 1 + 1, 1, none⟩ (.slice pC nC cC))).heap.size = w3.heap.size := by simp
  generalize ((w3.setCell ⟨w.heap.size + 1 + 1, 0, none⟩ (.bool b3)).setCell ⟨w.heap.size + 1 + 1, 1, none⟩ (.slice pC nC cC)) = W3 at *
  have k66 : 6 + 6 ≤ 1000000 := by omega
  have k813 : 8 + (6 + 6 + 1) ≤ 1000000 := by omega
  have k86 : 8 + 6 ≤ 1000000 := by omega
  have k1414 : 8 + 6 + (8 + 6) ≤ 1000000 := by omega
  have kc : 8 + (6 + 6 + 1) + (8 + 6 + (8 + 6) + 1) ≤ 1000000 := by omega
  have k156 : 8 + 6 + 1 + 6 ≤ 1000000 := by omega
  have k228 : 8 + 6 + 1 + 6 + 1 + 8 ≤ 1000000 := by omega
  have k6 : 6 ≤ 1000000 := by omega
  have E1 := Lib.hid (show cmpI (za * (zb + zc)) (za * zb + za * zc) = 0 by rw [Int.mul_add]; exact cmpI_self _)
  have E2 := Lib.hid (show cmpI (za + zb - zb) za = 0 by rw [Int.add_sub_cancel]; exact cmpI_self _)
  obtain ⟨e0, e1, e2, e3, e4, e5, e6, e7, e8, e9, e10, e11, G⟩ := id S
  have S0 : Kept W3 [(w.heap.size + 1 + 1, 0, .bool b3), (w.heap.size + 1 + 1, 1, .slice pC nC cC), (w.heap.size + 1, 0, .bool b2), (w.heap.size + 1, 1, .slice pB nB cB), (w.heap.size, 0, .bool b1), (w.heap.size, 1, .slice pA nA cA)] [] W3 := ⟨e0, e1, e4, e5, e8, e9, grown_refl _ _⟩
  clear e0 e1 e2 e3 e4 e5 e6 e7 e8 e9 e10 e11 G
  go_region_held3 (fun w' => w'.cell? ⟨w.heap.size + 1 + 1, 0, none⟩ = some (.bool b3) ∧ w'.cell? ⟨w.heap.size + 1 + 1, 1, none⟩ = some (.slice pC nC cC) ∧ w'.cell? ⟨w.heap.size + 1, 0, none⟩ = some (.bool b2) ∧ w'.cell? ⟨w.heap.size + 1, 1, none⟩ = some (.slice pB nB cB) ∧ w'.cell? ⟨w.heap.size, 0, none⟩ = some (.bool b1) ∧ w'.cell? ⟨w.heap.size, 1, none⟩ = some (.slice pA nA cA) ∧ W3.grownBy w' none) (first | exact Kept.step (W := W3) [(w.heap.size + 1 + 1, 0, .bool b3), (w.heap.size + 1 + 1, 1, .slice pC nC cC), (w.heap.size + 1, 0, .bool b2), (w.heap.size + 1, 1, .slice pB nB cB), (w.heap.size, 0, .bool b1), (w.heap.size, 1, .slice pA nA cA)] [] (by assumption) (by assumption) | exact Kept.step (W := W3) [(w.heap.size + 1 + 1, 0, .bool b3), (w.heap.size + 1 + 1, 1, .slice pC nC cC), (w.heap.size + 1, 0, .bool b2), (w.heap.size + 1, 1, .slice pB nB cB), (w.heap.size, 0, .bool b1), (w.heap.size, 1, .slice pA nA cA)] [] (grown_alloc _ _ _) (by assumption) | exact Kept.step (W := W3) [(w.heap.size + 1 + 1, 0, .bool b3), (w.heap.size + 1 + 1, 1, .slice pC nC cC), (w.heap.size + 1, 0, .bool b2), (w.heap.size + 1, 1, .slice pB nB cB), (w.heap.size, 0, .bool b1), (w.heap.size, 1, .slice pA nA cA)] [] (grown_drew _ _) S0)
    (first | (go_at_call 24; (with_reducible refine (Cmp_i 0 m7 (VA.out.grown (by go_split_ands; assumption)) k228 E2.out).mono ?_); rintro e w' ⟨rfl, hg⟩; clear m7) | (go_at_call 17; (with_reducible refine (Sub_i m6 (VB.out.grown (by go_split_ands; assumption)) k156).mono ?_); rintro e w' ⟨v, rfl, h, bd, hg⟩; have m7 := h.intV bd; clear h bd; clear m6) | (go_at_call 13; (with_reducible refine (Add_i (VA.out.grown (by go_split_ands; assumption)) (VB.out.grown (by go_split_ands; assumption)) k86).mono ?_); rintro e w' ⟨v, rfl, h, bd, hg⟩; have m6 := h.intV bd; clear h bd) | (go_at_call 24; (with_reducible refine (Cmp_i 0 m2 m5 kc E1.out).mono ?_); rintro e w' ⟨rfl, hg⟩; clear m2 m5) | (go_at_call 13; (with_reducible refine (Add_i m3 m4 k1414).mono ?_); rintro e w' ⟨v, rfl, h, bd, hg⟩; have m5 := h.intV bd; clear h bd; replace m2 := m2.grown hg; clear m3 m4) | (go_at_call 19; (with_reducible refine (Mul_i (VA.out.grown (by go_split_ands; assumption)) (VC.out.grown (by go_split_ands; assumption)) k86).mono ?_); rintro e w' ⟨v, rfl, h, bd, hg⟩; have m4 := h.intV bd; clear h bd; replace m2 := m2.grown hg; replace m3 := m3.grown hg) | (go_at_call 19; (with_reducible refine (Mul_i (VA.out.grown (by go_split_ands; assumption)) (VB.out.grown (by go_split_ands; assumption)) k86).mono ?_); rintro e w' ⟨v, rfl, h, bd, hg⟩; have m3 := h.intV bd; clear h bd; replace m2 := m2.grown hg) | (go_at_call 19; (with_reducible refine (Mul_i (VA.out.grown (by go_split_ands; assumption)) m1 k813).mono ?_); rintro e w' ⟨v, rfl, h, bd, hg⟩; have m2 := h.intV bd; clear h bd; clear m1) | (go_at_call 13; (with_reducible refine (Add_i (VB.out.grown (by go_split_ands; assumption)) (VC.out.grown (by go_split_ands; assumption)) k66).mono ?_); rintro e w' ⟨v, rfl, h, bd, hg⟩; have m1 := h.intV bd; clear h bd))
  rename_i hend
  have g := hend.2.2.2.2.2.2
  replace VA := Lib.hid (VA.out.kp (Kp.of g))
  replace VB := Lib.hid (VB.out.kp (Kp.of g))
  replace VC := Lib.hid (VC.out.kp (Kp.of g))
  replace S := S.step _ g
  clear g hend S0
  generalize w' = wr4 at *
  obtain ⟨e0, e1, e2, e3, e4, e5, e6, e7, e8, e9, e10, e11, G⟩ := id S
  go_wp2_with fail
  clear e0 e1 e2 e3 e4 e5 e6 e7 e8 e9 e10 e11 G
  with_reducible refine (Norm_i VB.out k6).mono ?_
  rintro e w5 ⟨v5, rfl, h, bd, g⟩
  replace VA := Lib.hid (VA.out.kp (Kp.of g))
  replace VB := Lib.hid (VB.out.kp (Kp.of g))
  replace VC := Lib.hid (VC.out.kp (Kp.of g))
  replace S := S.step _ g
  clear g
  have Nb := Lib.hid (h.nor)
  clear h bd
  by_cases hz : zb = 0
  · have Hz := Lib.hid (show decide (zb = 0) = true from decide_eq_true hz)
    clear hz
    obtain ⟨e0, e1, e2, e3, e4, e5, e6, e7, e8, e9, e10, e11, G⟩ := id S
    go_wp2_with fail
    clear e0 e1 e2 e3 e4 e5 e6 e7 e8 e9 e10 e11 G
    with_reducible refine (Zero_z true Nb.out Hz.out).mono ?_
    rintro e w6 ⟨rfl, g⟩
    replace VA := Lib.hid (VA.out.kp (Kp.of g))
    replace VB := Lib.hid (VB.out.kp (Kp.of g))
    replace VC := Lib.hid (VC.out.kp (Kp.of g))
    replace Nb := Lib.hid (Nb.out.kp (Kp.of g))
    replace S := S.step _ g
    clear g
    clear Nb
    obtain ⟨e0, e1, e2, e3, e4, e5, e6, e7, e8, e9, e10, e11, G⟩ := id S
    go_wp2_with fail
    clear e0 e1 e2 e3 e4 e5 e6 e7 e8 e9 e10 e11 G
    with_reducible refine (wakes_true _).mono ?_
    rintro e w7 ⟨rfl, g⟩
    replace VA := Lib.hid (VA.out.kp (Kp.of g))
    replace VB := Lib.hid (VB.out.kp (Kp.of g))
    replace VC := Lib.hid (VC.out.kp (Kp.of g))
    replace S := S.step _ g
    clear g
    go_wp2_with fail
    go_ret
    exact ⟨rfl, S.all⟩
  · have Hz := Lib.hid (show decide (zb = 0) = false from decide_eq_false hz)
    have Hn := Lib.hid hz
    clear hz
    obtain ⟨e0, e1, e2, e3, e4, e5, e6, e7, e8, e9, e10, e11, G⟩ := id S
    go_wp2_with fail
    clear e0 e1 e2 e3 e4 e5 e6 e7 e8 e9 e10 e11 G
    with_reducible refine (Zero_z false Nb.out Hz.out).mono ?_
    rintro e w6 ⟨rfl, g⟩
    replace VA := Lib.hid (VA.out.kp (Kp.of g))
    replace VB := Lib.hid (VB.out.kp (Kp.of g))
    replace VC := Lib.hid (VC.out.kp (Kp.of g))
    replace Nb := Lib.hid (Nb.out.kp (Kp.of g))
    replace S := S.step _ g
    clear g
    clear Nb
    obtain ⟨zq, ezq⟩ : ∃ t, za / zb = t := ⟨_, rfl⟩
    obtain ⟨zr, ezr⟩ : ∃ t, za % zb = t := ⟨_, rfl⟩
    have Eq := Lib.hid ezq
    have Er := Lib.hid ezr
    have E3 := Lib.hid (show cmpI (zq * zb + zr) za = 0 by rw [← ezq, ← ezr, Int.mul_comm, Int.mul_ediv_add_emod]; exact cmpI_self _)
    have E4 := Lib.hid (show zr.natAbs < zb.natAbs ∧ 0 ≤ zr by rw [← ezr]; have h1 := Int.emod_nonneg za Hn.out; have h2 := Int.emod_lt za Hn.out; omega)
    obtain ⟨s, hs⟩ : ∃ s, cmpI zr 0 = s := ⟨_, rfl⟩
    have Ss := Lib.hid hs
    have s0 : 0 ≤ s := by rw [← hs]; exact cmpI_ge E4.out.2
    have s1 : ¬ s < 0 := by omega
    have s2 : decide (s < 0) = false := decide_eq_false s1
    obtain ⟨tb, htb⟩ : ∃ t : Int, (zb.natAbs : Int) = t := ⟨_, rfl⟩
    have Tb := Lib.hid htb
    have E5 := Lib.hid (show cmpI zr tb = -1 by rw [← htb]; exact cmpI_lt (by have := E4.out; omega))
    obtain ⟨zg, hzg⟩ : ∃ z : Int, ((Nat.gcd za.natAbs zb.natAbs : Nat) : Int) = z := ⟨_, rfl⟩
    have Zg := Lib.hid hzg
    have G0 : zg ≠ 0 := by rw [← hzg]; exact gcd_ne Hn.out
    have Ga := Lib.hid (show za % zg = 0 by rw [← hzg]; exact gcd_mod_l za zb)
    have Gb := Lib.hid (show zb % zg = 0 by rw [← hzg]; exact gcd_mod_r za zb)
    have HG0 := Lib.hid G0
    obtain ⟨zu, hzu⟩ : ∃ z : Int, za / zg = z := ⟨_, rfl⟩
    obtain ⟨zv, hzv⟩ : ∃ z : Int, zb / zg = z := ⟨_, rfl⟩
    have Zu := Lib.hid hzu
    have Zv := Lib.hid hzv
    have Guv := Lib.hid (show ((Nat.gcd zu.natAbs zv.natAbs : Nat) : Int) = 1 by rw [← hzu, ← hzv, ← hzg]; exact gcd_left za zb Hn.out)
    clear ezq ezr hs htb hzg G0 hzu hzv
    obtain ⟨e0, e1, e2, e3, e4, e5, e6, e7, e8, e9, e10, e11, G⟩ := id S
    go_wp2_with fail
    clear e0 e1 e2 e3 e4 e5 e6 e7 e8 e9 e10 e11 G
    with_reducible refine ((DivMod_i VA.out VB.out (by omega) Hn.out).mono fun _ _ h => h.of Eq.out Er.out (Nat.le_refl _) (Nat.le_refl _)).mono ?_
    rintro e w7 ⟨v, u, rfl, hq, hr, bq, br, g⟩
    replace VA := Lib.hid (VA.out.kp (Kp.of g))
    replace VB := Lib.hid (VB.out.kp (Kp.of g))
    replace VC := Lib.hid (VC.out.kp (Kp.of g))
    replace S := S.step _ g
    clear g
    obtain ⟨pq, cq, rfl, hq2⟩ := id hq
    obtain ⟨pr, cr, rfl, hr2⟩ := id hr
    have VQ := Lib.hid (hq.intV bq)
    have VR := Lib.hid (hr.intV br)
    have NR := Lib.hid (hr.nor)
    clear hq hr hq2 hr2 bq br
    replace VA := Lib.hid (VA.out.kp (Kp.of (grown_alloc _ (.cells #[.bool (decide (zq < 0)), .slice pq (dig 4294967296 (zq).natAbs).length cq] 24) none)))
    replace VB := Lib.hid (VB.out.kp (Kp.of (grown_alloc _ (.cells #[.bool (decide (zq < 0)), .slice pq (dig 4294967296 (zq).natAbs).length cq] 24) none)))
    replace VC := Lib.hid (VC.out.kp (Kp.of (grown_alloc _ (.cells #[.bool (decide (zq < 0)), .slice pq (dig 4294967296 (zq).natAbs).length cq] 24) none)))
    replace VQ := Lib.hid (VQ.out.kp (Kp.of (grown_alloc _ (.cells #[.bool (decide (zq < 0)), .slice pq (dig 4294967296 (zq).natAbs).length cq] 24) none)))
    replace VR := Lib.hid (VR.out.kp (Kp.of (grown_alloc _ (.cells #[.bool (decide (zq < 0)), .slice pq (dig 4294967296 (zq).natAbs).length cq] 24) none)))
    replace NR := Lib.hid (NR.out.kp (Kp.of (grown_alloc _ (.cells #[.bool (decide (zq < 0)), .slice pq (dig 4294967296 (zq).natAbs).length cq] 24) none)))
    replace S := S.box (w7.heap.size) (.bool (decide (zq < 0))) (.slice pq (dig 4294967296 (zq).natAbs).length cq) 24 (by simp)
    replace VA := Lib.hid (VA.out.kp (Kp.of (grown_alloc _ (.cells #[.bool (decide (zr < 0)), .slice pr (dig 4294967296 (zr).natAbs).length cr] 24) none)))
    replace VB := Lib.hid (VB.out.kp (Kp.of (grown_alloc _ (.cells #[.bool (decide (zr < 0)), .slice pr (dig 4294967296 (zr).natAbs).length cr] 24) none)))
    replace VC := Lib.hid (VC.out.kp (Kp.of (grown_alloc _ (.cells #[.bool (decide (zr < 0)), .slice pr (dig 4294967296 (zr).natAbs).length cr] 24) none)))
    replace VQ := Lib.hid (VQ.out.kp (Kp.of (grown_alloc _ (.cells #[.bool (decide (zr < 0)), .slice pr (dig 4294967296 (zr).natAbs).length cr] 24) none)))
    replace VR := Lib.hid (VR.out.kp (Kp.of (grown_alloc _ (.cells #[.bool (decide (zr < 0)), .slice pr (dig 4294967296 (zr).natAbs).length cr] 24) none)))
    replace NR := Lib.hid (NR.out.kp (Kp.of (grown_alloc _ (.cells #[.bool (decide (zr < 0)), .slice pr (dig 4294967296 (zr).natAbs).length cr] 24) none)))
    replace S := S.box (w7.heap.size + 1) (.bool (decide (zr < 0))) (.slice pr (dig 4294967296 (zr).natAbs).length cr) 24 (by simp)
    obtain ⟨e0, e1, e2, e3, e4, e5, e6, e7, e8, e9, e10, e11, e12, e13, e14, e15, e16, e17, e18, e19, G⟩ := id S
    go_wp2_with fail
    clear e0 e1 e2 e3 e4 e5 e6 e7 e8 e9 e10 e11 e12 e13 e14 e15 e16 e17 e18 e19 G
    generalize (w7.alloc (.cells #[.bool (decide (zq < 0)), .slice pq (dig 4294967296 (zq).natAbs).length cq] 24)).alloc (.cells #[.bool (decide (zr < 0)), .slice pr (dig 4294967296 (zr).natAbs).length cr] 24) = W8 at *
    have k166 : 8 + 2 + 6 ≤ 1000000 := by omega
    have k226 : 8 + 2 + 6 + 6 ≤ 1000000 := by omega
    have k238 : 8 + 2 + 6 + 6 + 1 + 8 ≤ 1000000 := by omega
    have k12 : 6 + 6 ≤ 1000000 := by omega
    obtain ⟨e0, e1, e2, e3, e4, e5, e6, e7, e8, e9, e10, e11, e12, e13, e14, e15, e16, e17, e18, e19, G⟩ := id S
    have S0 : Kept W8 [(w7.heap.size + 1, 0, .bool (decide (zr < 0))), (w7.heap.size + 1, 1, .slice pr (dig 4294967296 (zr).natAbs).length cr), (w7.heap.size, 0, .bool (decide (zq < 0))), (w7.heap.size, 1, .slice pq (dig 4294967296 (zq).natAbs).length cq), (w.heap.size + 1 + 1, 0, .bool b3), (w.heap.size + 1 + 1, 1, .slice pC nC cC), (w.heap.size + 1, 0, .bool b2), (w.heap.size + 1, 1, .slice pB nB cB), (w.heap.size, 0, .bool b1), (w.heap.size, 1, .slice pA nA cA)] [] W8 := ⟨e0, e1, e4, e5, e8, e9, e12, e13, e16, e17, grown_refl _ _⟩
    clear e0 e1 e2 e3 e4 e5 e6 e7 e8 e9 e10 e11 e12 e13 e14 e15 e16 e17 e18 e19 G
    go_region_held3 (fun w' => w'.cell? ⟨w7.heap.size + 1, 0, none⟩ = some (.bool (decide (zr < 0))) ∧ w'.cell? ⟨w7.heap.size + 1, 1, none⟩ = some (.slice pr (dig 4294967296 (zr).natAbs).length cr) ∧ w'.cell? ⟨w7.heap.size, 0, none⟩ = some (.bool (decide (zq < 0))) ∧ w'.cell? ⟨w7.heap.size, 1, none⟩ = some (.slice pq (dig 4294967296 (zq).natAbs).length cq) ∧ w'.cell? ⟨w.heap.size + 1 + 1, 0, none⟩ = some (.bool b3) ∧ w'.cell? ⟨w.heap.size + 1 + 1, 1, none⟩ = some (.slice pC nC cC) ∧ w'.cell? ⟨w.heap.size + 1, 0, none⟩ = some (.bool b2) ∧ w'.cell? ⟨w.heap.size + 1, 1, none⟩ = some (.slice pB nB cB) ∧ w'.cell? ⟨w.heap.size, 0, none⟩ = some (.bool b1) ∧ w'.cell? ⟨w.heap.size, 1, none⟩ = some (.slice pA nA cA) ∧ W8.grownBy w' none) (first | exact Kept.step (W := W8) [(w7.heap.size + 1, 0, .bool (decide (zr < 0))), (w7.heap.size + 1, 1, .slice pr (dig 4294967296 (zr).natAbs).length cr), (w7.heap.size, 0, .bool (decide (zq < 0))), (w7.heap.size, 1, .slice pq (dig 4294967296 (zq).natAbs).length cq), (w.heap.size + 1 + 1, 0, .bool b3), (w.heap.size + 1 + 1, 1, .slice pC nC cC), (w.heap.size + 1, 0, .bool b2), (w.heap.size + 1, 1, .slice pB nB cB), (w.heap.size, 0, .bool b1), (w.heap.size, 1, .slice pA nA cA)] [] (by assumption) (by assumption) | exact Kept.step (W := W8) [(w7.heap.size + 1, 0, .bool (decide (zr < 0))), (w7.heap.size + 1, 1, .slice pr (dig 4294967296 (zr).natAbs).length cr), (w7.heap.size, 0, .bool (decide (zq < 0))), (w7.heap.size, 1, .slice pq (dig 4294967296 (zq).natAbs).length cq), (w.heap.size + 1 + 1, 0, .bool b3), (w.heap.size + 1 + 1, 1, .slice pC nC cC), (w.heap.size + 1, 0, .bool b2), (w.heap.size + 1, 1, .slice pB nB cB), (w.heap.size, 0, .bool b1), (w.heap.size, 1, .slice pA nA cA)] [] (grown_alloc _ _ _) (by assumption) | exact Kept.step (W := W8) [(w7.heap.size + 1, 0, .bool (decide (zr < 0))), (w7.heap.size + 1, 1, .slice pr (dig 4294967296 (zr).natAbs).length cr), (w7.heap.size, 0, .bool (decide (zq < 0))), (w7.heap.size, 1, .slice pq (dig 4294967296 (zq).natAbs).length cq), (w.heap.size + 1 + 1, 0, .bool b3), (w.heap.size + 1 + 1, 1, .slice pC nC cC), (w.heap.size + 1, 0, .bool b2), (w.heap.size + 1, 1, .slice pB nB cB), (w.heap.size, 0, .bool b1), (w.heap.size, 1, .slice pA nA cA)] [] (grown_drew _ _) S0)
      (first | (go_at_call 24; (with_reducible refine (Cmp_i (-1) (VR.out.grown (by go_split_ands; assumption)) a1 k12 E5.out).mono ?_); rintro e w' ⟨rfl, hg⟩; clear a1) | (go_at_call 22; (with_reducible refine (Abs_i (VB.out.grown (by go_split_ands; assumption)) k6).mono ?_); rintro e w' ⟨v, rfl, h, bd, hg⟩; rw [Tb.out] at h bd; have a1 := h.intV bd; clear h bd) | (go_at_call 43; (with_reducible refine (Sign_z s (NR.out.grown (by go_split_ands; assumption)) Ss.out).mono ?_); rintro e w' ⟨rfl, hg⟩) | (go_at_call 24; (with_reducible refine (Cmp_i 0 m2 (VA.out.grown (by go_split_ands; assumption)) k238 E3.out).mono ?_); rintro e w' ⟨rfl, hg⟩; clear m2) | (go_at_call 13; (with_reducible refine (Add_i m1 (VR.out.grown (by go_split_ands; assumption)) k226).mono ?_); rintro e w' ⟨v, rfl, h, bd, hg⟩; have m2 := h.intV bd; clear h bd; clear m1) | (go_at_call 19; (with_reducible refine (Mul_i (VQ.out.grown (by go_split_ands; assumption)) (VB.out.grown (by go_split_ands; assumption)) k166).mono ?_); rintro e w' ⟨v, rfl, h, bd, hg⟩; have m1 := h.intV bd; clear h bd))
    rename_i hend
    have g := hend.2.2.2.2.2.2.2.2.2.2
    replace VA := Lib.hid (VA.out.kp (Kp.of g))
    replace VB := Lib.hid (VB.out.kp (Kp.of g))
    replace VC := Lib.hid (VC.out.kp (Kp.of g))
    replace VQ := Lib.hid (VQ.out.kp (Kp.of g))
    replace VR := Lib.hid (VR.out.kp (Kp.of g))
    replace NR := Lib.hid (NR.out.kp (Kp.of g))
    replace S := S.step _ g
    clear g hend S0
    generalize w' = wr9 at *
    clear VQ VR NR
    obtain ⟨e0, e1, e2, e3, e4, e5, e6, e7, e8, e9, e10, e11, e12, e13, e14, e15, e16, e17, e18, e19, G⟩ := id S
    go_wp2_with fail
    clear e0 e1 e2 e3 e4 e5 e6 e7 e8 e9 e10 e11 e12 e13 e14 e15 e16 e17 e18 e19 G
    with_reducible refine (Gcd2_i 8 (VA.out.grown (grown_alloc _ _ _)) (VB.out.grown (grown_alloc _ _ _)) (by omega) (by omega) (by omega) (by simp [go_sem]) (by simp [go_sem]) (by simp [go_sem]) (by simp [go_sem])).mono ?_
    rintro e w10 ⟨v, rfl, h, bd, g⟩
    replace g := grown_trans (grown_alloc _ _ none) g
    replace VA := Lib.hid (VA.out.kp (Kp.of g))
    replace VB := Lib.hid (VB.out.kp (Kp.of g))
    replace VC := Lib.hid (VC.out.kp (Kp.of g))
    replace S := S.step _ g
    clear g
    rw [Zg.out] at h bd
    obtain ⟨pG, cG, rfl, -⟩ := id h
    have VG := Lib.hid (h.intV bd)
    clear h bd
    replace VA := Lib.hid (VA.out.kp (Kp.of (grown_alloc _ (.cells #[.bool (decide (zg < 0)), .slice pG (dig 4294967296 (zg).natAbs).length cG] 24) none)))
    replace VB := Lib.hid (VB.out.kp (Kp.of (grown_alloc _ (.cells #[.bool (decide (zg < 0)), .slice pG (dig 4294967296 (zg).natAbs).length cG] 24) none)))
    replace VC := Lib.hid (VC.out.kp (Kp.of (grown_alloc _ (.cells #[.bool (decide (zg < 0)), .slice pG (dig 4294967296 (zg).natAbs).length cG] 24) none)))
    replace VG := Lib.hid (VG.out.kp (Kp.of (grown_alloc _ (.cells #[.bool (decide (zg < 0)), .slice pG (dig 4294967296 (zg).natAbs).length cG] 24) none)))
    replace S := S.box (w10.heap.size) (.bool (decide (zg < 0))) (.slice pG (dig 4294967296 (zg).natAbs).length cG) 24 (by simp)
    obtain ⟨e0, e1, e2, e3, e4, e5, e6, e7, e8, e9, e10, e11, e12, e13, e14, e15, e16, e17, e18, e19, e20, e21, e22, e23, G⟩ := id S
    go_wp2_with fail
    clear e0 e1 e2 e3 e4 e5 e6 e7 e8 e9 e10 e11 e12 e13 e14 e15 e16 e17 e18 e19 e20 e21 e22 e23 G
    with_reducible refine (Exact_even VA.out VG.out (by omega) ⟨HG0.out, Ga.out⟩).mono ?_
    rintro e w11 ⟨v, rfl, h, bd, g⟩
    replace VA := Lib.hid (VA.out.kp (Kp.of g))
    replace VB := Lib.hid (VB.out.kp (Kp.of g))
    replace VC := Lib.hid (VC.out.kp (Kp.of g))
    replace VG := Lib.hid (VG.out.kp (Kp.of g))
    replace S := S.step _ g
    clear g
    rw [Zu.out] at h bd
    obtain ⟨pU, cU, rfl, -⟩ := id h
    have VU := Lib.hid (h.intV bd)
    clear h bd
    replace VA := Lib.hid (VA.out.kp (Kp.of (grown_alloc _ (.cells #[.bool (decide (zu < 0)), .slice pU (dig 4294967296 (zu).natAbs).length cU] 24) none)))
    replace VB := Lib.hid (VB.out.kp (Kp.of (grown_alloc _ (.cells #[.bool (decide (zu < 0)), .slice pU (dig 4294967296 (zu).natAbs).length cU] 24) none)))
    replace VC := Lib.hid (VC.out.kp (Kp.of (grown_alloc _ (.cells #[.bool (decide (zu < 0)), .slice pU (dig 4294967296 (zu).natAbs).length cU] 24) none)))
    replace VG := Lib.hid (VG.out.kp (Kp.of (grown_alloc _ (.cells #[.bool (decide (zu < 0)), .slice pU (dig 4294967296 (zu).natAbs).length cU] 24) none)))
    replace VU := Lib.hid (VU.out.kp (Kp.of (grown_alloc _ (.cells #[.bool (decide (zu < 0)), .slice pU (dig 4294967296 (zu).natAbs).length cU] 24) none)))
    replace S := S.box (w11.heap.size) (.bool (decide (zu < 0))) (.slice pU (dig 4294967296 (zu).natAbs).length cU) 24 (by simp)
    obtain ⟨e0, e1, e2, e3, e4, e5, e6, e7, e8, e9, e10, e11, e12, e13, e14, e15, e16, e17, e18, e19, e20, e21, e22, e23, e24, e25, e26, e27, G⟩ := id S
    go_wp2_with fail
    clear e0 e1 e2 e3 e4 e5 e6 e7 e8 e9 e10 e11 e12 e13 e14 e15 e16 e17 e18 e19 e20 e21 e22 e23 e24 e25 e26 e27 G
    with_reducible refine (Exact_even VB.out VG.out (by omega) ⟨HG0.out, Gb.out⟩).mono ?_
    rintro e w12 ⟨v, rfl, h, bd, g⟩
    replace VA := Lib.hid (VA.out.kp (Kp.of g))
    replace VB := Lib.hid (VB.out.kp (Kp.of g))
    replace VC := Lib.hid (VC.out.kp (Kp.of g))
    replace VG := Lib.hid (VG.out.kp (Kp.of g))
    replace VU := Lib.hid (VU.out.kp (Kp.of g))
    replace S := S.step _ g
    clear g
    rw [Zv.out] at h bd
    obtain ⟨pV, cV, rfl, -⟩ := id h
    have VV := Lib.hid (h.intV bd)
    clear h bd
    clear VA VB VC VG
    replace VU := Lib.hid (VU.out.kp (Kp.of (grown_alloc _ (.cells #[.bool (decide (zv < 0)), .slice pV (dig 4294967296 (zv).natAbs).length cV] 24) none)))
    replace VV := Lib.hid (VV.out.kp (Kp.of (grown_alloc _ (.cells #[.bool (decide (zv < 0)), .slice pV (dig 4294967296 (zv).natAbs).length cV] 24) none)))
    replace S := S.box (w12.heap.size) (.bool (decide (zv < 0))) (.slice pV (dig 4294967296 (zv).natAbs).length cV) 24 (by simp)
    obtain ⟨e0, e1, e2, e3, e4, e5, e6, e7, e8, e9, e10, e11, e12, e13, e14, e15, e16, e17, e18, e19, e20, e21, e22, e23, e24, e25, e26, e27, e28, e29, e30, e31, G⟩ := id S
    go_wp2_with fail
    clear e0 e1 e2 e3 e4 e5 e6 e7 e8 e9 e10 e11 e12 e13 e14 e15 e16 e17 e18 e19 e20 e21 e22 e23 e24 e25 e26 e27 e28 e29 e30 e31 G
    generalize (w12.alloc (.cells #[.bool (decide (zv < 0)), .slice pV (dig 4294967296 (zv).natAbs).length cV] 24)) = W13 at *
    have q1 : 8 + 2 ≤ 10 := by omega
    have q2 : 6 + 2 ≤ 10 := by omega
    have k10 : 10 ≤ 1000000 := by omega
    obtain ⟨e0, e1, e2, e3, e4, e5, e6, e7, e8, e9, e10, e11, e12, e13, e14, e15, e16, e17, e18, e19, e20, e21, e22, e23, e24, e25, e26, e27, e28, e29, e30, e31, G⟩ := id S
    have S0 : Kept W13 [(w12.heap.size, 0, .bool (decide (zv < 0))), (w12.heap.size, 1, .slice pV (dig 4294967296 (zv).natAbs).length cV), (w11.heap.size, 0, .bool (decide (zu < 0))), (w11.heap.size, 1, .slice pU (dig 4294967296 (zu).natAbs).length cU), (w10.heap.size, 0, .bool (decide (zg < 0))), (w10.heap.size, 1, .slice pG (dig 4294967296 (zg).natAbs).length cG), (w7.heap.size + 1, 0, .bool (decide (zr < 0))), (w7.heap.size + 1, 1, .slice pr (dig 4294967296 (zr).natAbs).length cr), (w7.heap.size, 0, .bool (decide (zq < 0))), (w7.heap.size, 1, .slice pq (dig 4294967296 (zq).natAbs).length cq), (w.heap.size + 1 + 1, 0, .bool b3), (w.heap.size + 1 + 1, 1, .slice pC nC cC), (w.heap.size + 1, 0, .bool b2), (w.heap.size + 1, 1, .slice pB nB cB), (w.heap.size, 0, .bool b1), (w.heap.size, 1, .slice pA nA cA)] [] W13 := ⟨e0, e1, e4, e5, e8, e9, e12, e13, e16, e17, e20, e21, e24, e25, e28, e29, grown_refl _ _⟩
    clear e0 e1 e2 e3 e4 e5 e6 e7 e8 e9 e10 e11 e12 e13 e14 e15 e16 e17 e18 e19 e20 e21 e22 e23 e24 e25 e26 e27 e28 e29 e30 e31 G
    go_region_held3 (fun w' => w'.cell? ⟨w12.heap.size, 0, none⟩ = some (.bool (decide (zv < 0))) ∧ w'.cell? ⟨w12.heap.size, 1, none⟩ = some (.slice pV (dig 4294967296 (zv).natAbs).length cV) ∧ w'.cell? ⟨w11.heap.size, 0, none⟩ = some (.bool (decide (zu < 0))) ∧ w'.cell? ⟨w11.heap.size, 1, none⟩ = some (.slice pU (dig 4294967296 (zu).natAbs).length cU) ∧ w'.cell? ⟨w10.heap.size, 0, none⟩ = some (.bool (decide (zg < 0))) ∧ w'.cell? ⟨w10.heap.size, 1, none⟩ = some (.slice pG (dig 4294967296 (zg).natAbs).length cG) ∧ w'.cell? ⟨w7.heap.size + 1, 0, none⟩ = some (.bool (decide (zr < 0))) ∧ w'.cell? ⟨w7.heap.size + 1, 1, none⟩ = some (.slice pr (dig 4294967296 (zr).natAbs).length cr) ∧ w'.cell? ⟨w7.heap.size, 0, none⟩ = some (.bool (decide (zq < 0))) ∧ w'.cell? ⟨w7.heap.size, 1, none⟩ = some (.slice pq (dig 4294967296 (zq).natAbs).length cq) ∧ w'.cell? ⟨w.heap.size + 1 + 1, 0, none⟩ = some (.bool b3) ∧ w'.cell? ⟨w.heap.size + 1 + 1, 1, none⟩ = some (.slice pC nC cC) ∧ w'.cell? ⟨w.heap.size + 1, 0, none⟩ = some (.bool b2) ∧ w'.cell? ⟨w.heap.size + 1, 1, none⟩ = some (.slice pB nB cB) ∧ w'.cell? ⟨w.heap.size, 0, none⟩ = some (.bool b1) ∧ w'.cell? ⟨w.heap.size, 1, none⟩ = some (.slice pA nA cA) ∧ W13.grownBy w' none) (first | exact Kept.step (W := W13) [(w12.heap.size, 0, .bool (decide (zv < 0))), (w12.heap.size, 1, .slice pV (dig 4294967296 (zv).natAbs).length cV), (w11.heap.size, 0, .bool (decide (zu < 0))), (w11.heap.size, 1, .slice pU (dig 4294967296 (zu).natAbs).length cU), (w10.heap.size, 0, .bool (decide (zg < 0))), (w10.heap.size, 1, .slice pG (dig 4294967296 (zg).natAbs).length cG), (w7.heap.size + 1, 0, .bool (decide (zr < 0))), (w7.heap.size + 1, 1, .slice pr (dig 4294967296 (zr).natAbs).length cr), (w7.heap.size, 0, .bool (decide (zq < 0))), (w7.heap.size, 1, .slice pq (dig 4294967296 (zq).natAbs).length cq), (w.heap.size + 1 + 1, 0, .bool b3), (w.heap.size + 1 + 1, 1, .slice pC nC cC), (w.heap.size + 1, 0, .bool b2), (w.heap.size + 1, 1, .slice pB nB cB), (w.heap.size, 0, .bool b1), (w.heap.size, 1, .slice pA nA cA)] [] (by assumption) (by assumption) | exact Kept.step (W := W13) [(w12.heap.size, 0, .bool (decide (zv < 0))), (w12.heap.size, 1, .slice pV (dig 4294967296 (zv).natAbs).length cV), (w11.heap.size, 0, .bool (decide (zu < 0))), (w11.heap.size, 1, .slice pU (dig 4294967296 (zu).natAbs).length cU), (w10.heap.size, 0, .bool (decide (zg < 0))), (w10.heap.size, 1, .slice pG (dig 4294967296 (zg).natAbs).length cG), (w7.heap.size + 1, 0, .bool (decide (zr < 0))), (w7.heap.size + 1, 1, .slice pr (dig 4294967296 (zr).natAbs).length cr), (w7.heap.size, 0, .bool (decide (zq < 0))), (w7.heap.size, 1, .slice pq (dig 4294967296 (zq).natAbs).length cq), (w.heap.size + 1 + 1, 0, .bool b3), (w.heap.size + 1 + 1, 1, .slice pC nC cC), (w.heap.size + 1, 0, .bool b2), (w.heap.size + 1, 1, .slice pB nB cB), (w.heap.size, 0, .bool b1), (w.heap.size, 1, .slice pA nA cA)] [] (grown_alloc _ _ _) (by assumption) | exact Kept.step (W := W13) [(w12.heap.size, 0, .bool (decide (zv < 0))), (w12.heap.size, 1, .slice pV (dig 4294967296 (zv).natAbs).length cV), (w11.heap.size, 0, .bool (decide (zu < 0))), (w11.heap.size, 1, .slice pU (dig 4294967296 (zu).natAbs).length cU), (w10.heap.size, 0, .bool (decide (zg < 0))), (w10.heap.size, 1, .slice pG (dig 4294967296 (zg).natAbs).length cG), (w7.heap.size + 1, 0, .bool (decide (zr < 0))), (w7.heap.size + 1, 1, .slice pr (dig 4294967296 (zr).natAbs).length cr), (w7.heap.size, 0, .bool (decide (zq < 0))), (w7.heap.size, 1, .slice pq (dig 4294967296 (zq).natAbs).length cq), (w.heap.size + 1 + 1, 0, .bool b3), (w.heap.size + 1 + 1, 1, .slice pC nC cC), (w.heap.size + 1, 0, .bool b2), (w.heap.size + 1, 1, .slice pB nB cB), (w.heap.size, 0, .bool b1), (w.heap.size, 1, .slice pA nA cA)] [] (grown_drew _ _) S0)
      (first | (go_at_call 28; (with_reducible refine (wakes_true _).mono ?_); rintro e w' ⟨rfl, hg⟩) | (go_at_call 14; (with_reducible refine (Is_l d1 k2 n2).mono ?_); rintro e w' ⟨rfl, hg⟩; clear d1 n2) | (go_at_call 40; (with_reducible refine (Gcd2_i 10 (VU.out.grown (by go_split_ands; assumption)) (VV.out.grown (by go_split_ands; assumption)) q1 q2 k10 (by first | (simp [go_sem]; done) | exact cell_grown (grown_alloc _ _ none) (by simp [go_sem]; done) | exact F.a) (by first | (simp [go_sem]; done) | exact cell_grown (grown_alloc _ _ none) (by simp [go_sem]; done) | exact F.b) (by first | (simp [go_sem]; done) | exact cell_grown (grown_alloc _ _ none) (by simp [go_sem]; done) | exact F.c) (by first | (simp [go_sem]; done) | exact cell_grown (grown_alloc _ _ none) (by simp [go_sem]; done) | exact F.d)).mono ?_); rintro e w' ⟨v, rfl, h, bd, hg⟩; rw [Guv.out] at h bd; have n2 := h.nor; clear h bd; (first | replace d1 := d1.grown hg | replace d1 := (d1.grown (grown_alloc _ _ _)).grown hg)) | (go_at_call 29; (with_reducible refine (of_1 _).mono ?_); rintro e w' ⟨v, rfl, h, bd, hg⟩; have d1 := h.decI bd; clear h bd; (first | (have F' := F.grown hg; clear F; have F := F'; clear F') | (have F' := F.grown (grown_trans (grown_alloc _ _ none) hg); clear F; have F := F'; clear F') | (have F := (show Pair _ _ (decide (zu < 0)) pU (dig 4294967296 zu.natAbs).length cU (decide (zv < 0)) pV (dig 4294967296 zv.natAbs).length cV from Pair.mk1 hg)) | (have F := (show Pair _ _ (decide (zu < 0)) pU (dig 4294967296 zu.natAbs).length cU (decide (zv < 0)) pV (dig 4294967296 zv.natAbs).length cV from Pair.mk1 (grown_trans (grown_drew _ none) hg))) | skip)))
    all_goals (rename_i hend; have g := hend.2.2.2.2.2.2.2.2.2.2.2.2.2.2.2.2; replace S := S.step _ g; clear g hend S0; go_wp2_with fail; go_ret; exact ⟨rfl, S.all⟩)

set_option maxRecDepth 100000 in
theorem lifted (os : Os) (started : os.Started) (H : Type) (enc : TypeId × Value → H) :
    ReturnsInHanded {} Try.checked os 8 .any (Rows.wholeLawsSpec.pre6 enc Try.prog Try.f8 Rows.wholeLawsRow.domain false) (Rows.wholeLawsSpec.post enc Try.prog Try.f8 false true false false) := by
  refine returnsInHanded_of_change (C := Try.checked) Try.own started (by kernel_rfl) Try.func8
    (ChangeSpec.witness6 (enc := enc) (C := Try.checked) false ⟨#[], #[.agg #[.bool false, .slice none 0 0], .agg #[.bool false, .slice none 0 0], .agg #[.bool false, .slice none 0 0]], []⟩ 8 (by kernel_rfl) (by kernel_rfl) (by kernel_rfl) (by kernel_rfl)) ?_
  intro W base args ds gs before hval0 hW _ _
  have hval : ∀ (j : Nat) t v, Try.f8.params[j]? = some t → args[j]? = some v → Value.okWide Try.prog W .any base t v := hval0
  obtain ⟨p, q, hA0, hV, rfl, _, _⟩ := id hW
  have hA : DataW.TrodAll enc Try.prog W 0 (fun _ => true) true Try.f8.params.toList args.toList ds p := hA0
  rw [Try.params8] at hA hval
  obtain ⟨v0, vs0, d0, ds0, p0, q0, hargs, rfl, rfl, h0, r0⟩ := trodAll_cons hA
  obtain ⟨v1, vs1, d1, ds1, p1, q1, rfl, rfl, rfl, h1, r1⟩ := trodAll_cons r0
  obtain ⟨v2, vs2, d2, ds2, p2, q2, rfl, rfl, rfl, h2, r2⟩ := trodAll_cons r1
  obtain ⟨rfl, rfl, rfl⟩ := trodAll_nil r2
  obtain rfl : args = #[v0, v1, v2] := by cases args; simp_all
  obtain ⟨b0, w0, xs0, rfl, s0, a0⟩ := int_of_trod h0 (hval 0 24 v0 rfl rfl)
  obtain ⟨b1, w1, xs1, rfl, s1, a1⟩ := int_of_trod h1 (hval 1 24 v1 rfl rfl)
  obtain ⟨b2, w2, xs2, rfl, s2, a2⟩ := int_of_trod h2 (hval 2 24 v2 rfl rfl)
  refine (walk s0 a0 s1 a1 s2 a2).mono fun e W' ⟨he, hg⟩ => ?_
  subst he
  refine ⟨_, rfl, law_post Try.laidOut rfl (by kernel_rfl) Try.underlying4 ?_ ?_ hW hg⟩
  · rw [Try.params8]; decide +kernel
  · rw [Try.params8]
    intro ds h
    match ds, h with
    | [_, _, _], _ => rfl

theorem holds : Rows.WholeLawsSaid :=
  OpenClaim.holds_of_wide 8 Try.f8 rfl rfl rfl rfl rfl rfl rfl ⟨rfl, rfl, rfl, rfl, rfl⟩ rfl rfl rfl rfl rfl (by kernel_rfl) Try.func8 (by kernel_rfl)
    (of_decide_eq_true (by kernel_rfl)) (by unfold Func.isWrapper; first | (rw [if_pos (by decide +kernel)]; kernel_rfl) | (rw [if_neg (by decide +kernel)]; exact ⟨rfl, rfl⟩))
    (fun os started H enc _ => lifted os started H enc)

end Go.Proofs.Ytmmmpdpgkjcohaa.laws
