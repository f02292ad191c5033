/- WholeOrders holds: for every three whole numbers the law returns true and leaves them as they were. No condition. -/
import Derived.Test.YtenaepofjpjhhaaRowInt
namespace Go.Proofs.Ytenaepofjpjhhaa.orders
open Go.ChangeShapes Go.WideShapes Go.ChangeAt Go.RowKit

theorem cmpI_neg (z y : Int) : cmpI (-z) (-y) = -cmpI z y := by
  unfold cmpI
  split <;> split <;> (try split) <;> (try split) <;> omega
theorem cmpI_add (z y c : Int) : cmpI (z + c) (y + c) = cmpI z y := by
  unfold cmpI
  split <;> split <;> (try split) <;> (try split) <;> omega
theorem cmpI_nonneg (n : Nat) : 0 ≤ cmpI (n : Int) 0 := by
  unfold cmpI
  split
  · omega
  · split <;> omega
theorem cmpI_self (z : Int) : cmpI z z = 0 := by simp [cmpI]
theorem cmpI_mul (z y c : Int) : cmpI (z * c) (y * c) = cmpI z y * cmpI c 0 := by
  unfold cmpI
  rcases Int.lt_trichotomy c 0 with h | h | h
  · rw [if_pos h]
    rcases Int.lt_trichotomy z y with k | k | k
    · have := Int.mul_lt_mul_of_neg_right k h
      rw [if_neg (by omega), if_neg (by omega), if_pos k]; rfl
    · subst k; simp
    · have := Int.mul_lt_mul_of_neg_right k h
      rw [if_pos (by omega), if_neg (by omega), if_neg (by omega)]; rfl
  · subst h; simp
  · rw [if_neg (show ¬ c < 0 by omega), if_neg (show ¬ c = 0 by omega), Int.mul_one]
    rcases Int.lt_trichotomy z y with k | k | k
    · have := Int.mul_lt_mul_of_pos_right k h
      rw [if_pos this, if_pos k]
    · subst k; simp
    · have := Int.mul_lt_mul_of_pos_right k h
      rw [if_neg (by omega), if_neg (by omega), if_neg (by omega), if_neg (by omega)]
theorem three_mul {x s : Int} (h : -1 ≤ x ∧ x ≤ 1) (k : -1 ≤ s ∧ s ≤ 1) : -1 ≤ x * s ∧ x * s ≤ 1 := by
  have : x = -1 ∨ x = 0 ∨ x = 1 := by omega
  rcases this with rfl | rfl | rfl <;> omega
set_option maxHeartbeats 4000000 in
set_option maxRecDepth 100000 in
theorem walk {b1 b2 b3 : Bool} {v1 v2 v3 : Value} {xs ys zs : List Nat} {w : World} (hx : Sl w .u32 v1 xs) (ax : All 4294967296 xs) (hy : Sl w .u32 v2 ys) (ay : All 4294967296 ys) (hz : Sl w .u32 v3 zs) (az : All 4294967296 zs) :
    Calls Try.prog 12 #[.agg #[.bool b1, v1], .agg #[.bool b2, v2], .agg #[.bool b3, v3]] w (Bool_ w true) := by
  obtain ⟨p1, c1, rfl, -⟩ := id hx
  obtain ⟨p2, c2, rfl, -⟩ := id hy
  obtain ⟨p3, c3, rfl, -⟩ := id hz
  have Hx := Lib.hid hx
  have Hy := Lib.hid hy
  have Hz := Lib.hid hz
  have Ax := Lib.hid ax
  have Ay := Lib.hid ay
  have Az := Lib.hid az
  have S : Bx w [(w.heap.size + 1 + 1, .bool b3, .slice p3 zs.length c3), (w.heap.size + 1, .bool b2, .slice p2 ys.length c2), (w.heap.size, .bool b1, .slice p1 xs.length c1)] (((w.alloc (.cells #[.bool b1, .slice p1 xs.length c1] 24)).alloc (.cells #[.bool b2, .slice p2 ys.length c2] 24)).alloc (.cells #[.bool b3, .slice p3 zs.length c3] 24)) := ((((Bx.start w).box (w.heap.size) (.bool b1) (.slice p1 xs.length c1) 24 (by simp)).box (w.heap.size + 1) (.bool b2) (.slice p2 ys.length c2) 24 (by simp)).box (w.heap.size + 1 + 1) (.bool b3) (.slice p3 zs.length c3) 24 (by simp))
  clear hx ax hy ay hz az
  go_enter Try.func12, Try.ntmps12
  obtain ⟨e0, e1, e2, e3, e4, e5, e6, e7, e8, e9, e10, e11, G⟩ := id S
  go_wp2_with fail
  clear e0 e1 e2 e3 e4 e5 e6 e7 e8 e9 e10 e11 G
  refine (Of_l 6 (Hx.out.grown S.all (.inl rfl)) Ax.out (by omega)).mono ?_
  rintro e w1 ⟨pA, nA, cA, ua, rfl, hs, hd, g⟩
  replace hs := hs.grown g (.inl rfl)
  replace S := S.step _ g
  clear g
  obtain ⟨za, hza⟩ : ∃ z, sg b1 (val 4294967296 (xs.take 6)) = z := ⟨_, rfl⟩
  rw [hza] at hd
  have bda := hd.bd
  obtain ⟨pa, ca, rfl, -⟩ := id hd
  have VA := Lib.hid (show IntV _ (.agg #[.bool b1, .slice pA nA cA]) za 6 from ⟨_, _, _, rfl, Num.row hs (Ax.out.take 6) 6 (by rw [List.length_take]; omega), hza.symm⟩)
  clear hs hd hza
  have z1_0 := S.lt (g := w.heap.size + 1 + 1) (x := .bool b3) (y := .slice p3 zs.length c3) (by simp)
  have z1_1 := S.lt (g := w.heap.size + 1) (x := .bool b2) (y := .slice p2 ys.length c2) (by simp)
  have z1_2 := S.lt (g := w.heap.size) (x := .bool b1) (y := .slice p1 xs.length c1) (by simp)
  obtain ⟨e0, e1, e2, e3, e4, e5, e6, e7, e8, e9, e10, e11, G⟩ := id S
  have K : Kp w1 ((w1.setCell ⟨w.heap.size, 0, none⟩ (.bool b1)).setCell ⟨w.heap.size, 1, none⟩ (.slice pA nA cA)) := (S.kp (g := w.heap.size) (x := .bool b1) (y := .slice p1 xs.length c1) (.bool b1) (.slice pA nA cA) (by simp) (by simp) (by simp))
  have S2 : Bx w [(w.heap.size, .bool b1, .slice pA nA cA), (w.heap.size + 1 + 1, .bool b3, .slice p3 zs.length c3), (w.heap.size + 1, .bool b2, .slice p2 ys.length c2)] ((w1.setCell ⟨w.heap.size, 0, none⟩ (.bool b1)).setCell ⟨w.heap.size, 1, none⟩ (.slice pA nA cA)) := S.put (g := w.heap.size) (u := .bool b1) (v := .slice pA nA cA) (x := .bool b1) (y := .slice p1 xs.length c1) (bs' := [(w.heap.size + 1 + 1, .bool b3, .slice p3 zs.length c3), (w.heap.size + 1, .bool b2, .slice p2 ys.length c2)]) (by simp) (by simp <;> omega) (by simp <;> omega) (by omega)
  replace S : Bx w [(w.heap.size, .bool b1, .slice pA nA cA), (w.heap.size + 1 + 1, .bool b3, .slice p3 zs.length c3), (w.heap.size + 1, .bool b2, .slice p2 ys.length c2)] ((w1.setCell ⟨w.heap.size, 0, none⟩ (.bool b1)).setCell ⟨w.heap.size, 1, none⟩ (.slice pA nA cA)) := S2
  replace VA := Lib.hid (VA.out.kp K)
  go_wp2_with fail
  clear K S2 e0 e1 e2 e3 e4 e5 e6 e7 e8 e9 e10 e11 G
  generalize ((w1.setCell ⟨w.heap.size, 0, none⟩ (.bool b1)).setCell ⟨w.heap.size, 1, none⟩ (.slice pA nA cA)) = W1 at *
  refine (Of_l 6 (Hy.out.grown S.all (.inl rfl)) Ay.out (by omega)).mono ?_
  rintro e w2 ⟨pB, nB, cB, ub, rfl, hs, hd, g⟩
  replace hs := hs.grown g (.inl rfl)
  replace VA := Lib.hid (VA.out.kp (Kp.of g))
  replace S := S.step _ g
  clear g
  obtain ⟨zb, hzb⟩ : ∃ z, sg b2 (val 4294967296 (ys.take 6)) = z := ⟨_, rfl⟩
  rw [hzb] at hd
  have bdb := hd.bd
  obtain ⟨pb, cb, rfl, -⟩ := id hd
  have VB := Lib.hid (show IntV _ (.agg #[.bool b2, .slice pB nB cB]) zb 6 from ⟨_, _, _, rfl, Num.row hs (Ay.out.take 6) 6 (by rw [List.length_take]; omega), hzb.symm⟩)
  clear hs hd hzb
  have z2_0 := S.lt (g := w.heap.size) (x := .bool b1) (y := .slice pA nA cA) (by simp)
  have z2_1 := S.lt (g := w.heap.size + 1 + 1) (x := .bool b3) (y := .slice p3 zs.length c3) (by simp)
  have z2_2 := S.lt (g := w.heap.size + 1) (x := .bool b2) (y := .slice p2 ys.length c2) (by simp)
  obtain ⟨e0, e1, e2, e3, e4, e5, e6, e7, e8, e9, e10, e11, G⟩ := id S
  have K : Kp w2 ((w2.setCell ⟨w.heap.size + 1, 0, none⟩ (.bool b2)).setCell ⟨w.heap.size + 1, 1, none⟩ (.slice pB nB cB)) := (S.kp (g := w.heap.size + 1) (x := .bool b2) (y := .slice p2 ys.length c2) (.bool b2) (.slice pB nB cB) (by simp) (by simp) (by simp))
  have S2 : Bx w [(w.heap.size + 1, .bool b2, .slice pB nB cB), (w.heap.size, .bool b1, .slice pA nA cA), (w.heap.size + 1 + 1, .bool b3, .slice p3 zs.length c3)] ((w2.setCell ⟨w.heap.size + 1, 0, none⟩ (.bool b2)).setCell ⟨w.heap.size + 1, 1, none⟩ (.slice pB nB cB)) := S.put (g := w.heap.size + 1) (u := .bool b2) (v := .slice pB nB cB) (x := .bool b2) (y := .slice p2 ys.length c2) (bs' := [(w.heap.size, .bool b1, .slice pA nA cA), (w.heap.size + 1 + 1, .bool b3, .slice p3 zs.length c3)]) (by simp) (by simp <;> omega) (by simp <;> omega) (by omega)
  replace S : Bx w [(w.heap.size + 1, .bool b2, .slice pB nB cB), (w.heap.size, .bool b1, .slice pA nA cA), (w.heap.size + 1 + 1, .bool b3, .slice p3 zs.length c3)] ((w2.setCell ⟨w.heap.size + 1, 0, none⟩ (.bool b2)).setCell ⟨w.heap.size + 1, 1, none⟩ (.slice pB nB cB)) := S2
  replace VA := Lib.hid (VA.out.kp K)
  replace VB := Lib.hid (VB.out.kp K)
  go_wp2_with fail
  clear K S2 e0 e1 e2 e3 e4 e5 e6 e7 e8 e9 e10 e11 G
  generalize ((w2.setCell ⟨w.heap.size + 1, 0, none⟩ (.bool b2)).setCell ⟨w.heap.size + 1, 1, none⟩ (.slice pB nB cB)) = W2 at *
  refine (Of_l 6 (Hz.out.grown S.all (.inl rfl)) Az.out (by omega)).mono ?_
  rintro e w3 ⟨pC, nC, cC, uc, rfl, hs, hd, g⟩
  replace hs := hs.grown g (.inl rfl)
  replace VA := Lib.hid (VA.out.kp (Kp.of g))
  replace VB := Lib.hid (VB.out.kp (Kp.of g))
  replace S := S.step _ g
  clear g
  obtain ⟨zc, hzc⟩ : ∃ z, sg b3 (val 4294967296 (zs.take 6)) = z := ⟨_, rfl⟩
  rw [hzc] at hd
  have bdc := hd.bd
  obtain ⟨pc, cc, rfl, -⟩ := id hd
  have VC := Lib.hid (show IntV _ (.agg #[.bool b3, .slice pC nC cC]) zc 6 from ⟨_, _, _, rfl, Num.row hs (Az.out.take 6) 6 (by rw [List.length_take]; omega), hzc.symm⟩)
  clear hs hd hzc
  have z3_0 := S.lt (g := w.heap.size + 1) (x := .bool b2) (y := .slice pB nB cB) (by simp)
  have z3_1 := S.lt (g := w.heap.size) (x := .bool b1) (y := .slice pA nA cA) (by simp)
  have z3_2 := S.lt (g := w.heap.size + 1 + 1) (x := .bool b3) (y := .slice p3 zs.length c3) (by simp)
  obtain ⟨e0, e1, e2, e3, e4, e5, e6, e7, e8, e9, e10, e11, G⟩ := id S
  have K : Kp w3 ((w3.setCell ⟨w.heap.size + 1 + 1, 0, none⟩ (.bool b3)).setCell ⟨w.heap.size + 1 + 1, 1, none⟩ (.slice pC nC cC)) := (S.kp (g := w.heap.size + 1 + 1) (x := .bool b3) (y := .slice p3 zs.length c3) (.bool b3) (.slice pC nC cC) (by simp) (by simp) (by simp))
  have S2 : Bx w [(w.heap.size + 1 + 1, .bool b3, .slice pC nC cC), (w.heap.size + 1, .bool b2, .slice pB nB cB), (w.heap.size, .bool b1, .slice pA nA cA)] ((w3.setCell ⟨w.heap.size + 1 + 1, 0, none⟩ (.bool b3)).setCell ⟨w.heap.size + 1 + 1, 1, none⟩ (.slice pC nC cC)) := S.put (g := w.heap.size + 1 + 1) (u := .bool b3) (v := .slice pC nC cC) (x := .bool b3) (y := .slice p3 zs.length c3) (bs' := [(w.heap.size + 1, .bool b2, .slice pB nB cB), (w.heap.size, .bool b1, .slice pA nA cA)]) (by simp) (by simp <;> omega) (by simp <;> omega) (by omega)
  replace S : Bx w [(w.heap.size + 1 + 1, .bool b3, .slice pC nC cC), (w.heap.size + 1, .bool b2, .slice pB nB cB), (w.heap.size, .bool b1, .slice pA nA cA)] ((w3.setCell ⟨w.heap.size + 1 + 1, 0, none⟩ (.bool b3)).setCell ⟨w.heap.size + 1 + 1, 1, none⟩ (.slice pC nC cC)) := S2
  replace VA := Lib.hid (VA.out.kp K)
  replace VB := Lib.hid (VB.out.kp K)
  replace VC := Lib.hid (VC.out.kp K)
  go_wp2_with fail
  clear K S2 e0 e1 e2 e3 e4 e5 e6 e7 e8 e9 e10 e11 G
  generalize ((w3.setCell ⟨w.heap.size + 1 + 1, 0, none⟩ (.bool b3)).setCell ⟨w.heap.size + 1 + 1, 1, none⟩ (.slice pC nC cC)) = W3 at *
  obtain ⟨x, hx⟩ : ∃ x, cmpI za zb = x := ⟨_, rfl⟩
  have X1 := cmpI_bd za zb
  rw [hx] at X1
  obtain ⟨X1, X2⟩ := X1
  have Cx := Lib.hid hx
  have Cs := Lib.hid (show cmpI zb za = -x by rw [cmpI_swap, hx])
  have Cn := Lib.hid (show cmpI (-za) (-zb) = -x by rw [← hx]; exact cmpI_neg za zb)
  have Cp := Lib.hid (show cmpI (za + zc) (zb + zc) = x by rw [← hx]; exact cmpI_add za zb zc)
  have Cd := Lib.hid (show cmpI (za - zb) 0 = x by rw [← hx]; exact cmpI_sub za zb)
  obtain ⟨s, hs⟩ : ∃ s, cmpI zc 0 = s := ⟨_, rfl⟩
  have Ss := Lib.hid hs
  have Y1 := cmpI_bd zc 0
  rw [hs] at Y1
  have Cm := Lib.hid (show cmpI (za * zc) (zb * zc) = x * s by rw [← hx, ← hs]; exact cmpI_mul za zb zc)
  have xs0 : -1 ≤ x * s ∧ x * s ≤ 1 := three_mul ⟨X1, X2⟩ Y1
  have wxs : IntKind.i64.wrap (x * s) = x * s := by rw [IntKind.wrap_i64]; omega
  have wx : IntKind.i64.wrap x = x := by rw [IntKind.wrap_i64]; omega
  have wnx : IntKind.i64.wrap (-x) = -x := by rw [IntKind.wrap_i64]; omega
  obtain ⟨t, ht⟩ : ∃ t, cmpI (za.natAbs : Int) 0 = t := ⟨_, rfl⟩
  have T0 : 0 ≤ t := by rw [← ht]; exact cmpI_nonneg _
  have Ct := Lib.hid ht
  have Cq := Lib.hid (show cmpI (za.natAbs : Int) ((-za).natAbs : Int) = 0 by rw [Int.natAbs_neg]; exact cmpI_self _)
  clear hx hs ht
  refine (Cmp_i x VA.out VB.out (by omega) Cx.out).mono ?_
  rintro e w4 ⟨rfl, g⟩
  replace VA := Lib.hid (VA.out.kp (Kp.of g))
  replace VB := Lib.hid (VB.out.kp (Kp.of g))
  replace VC := Lib.hid (VC.out.kp (Kp.of g))
  replace S := S.step _ g
  clear g
  have k12 : 6 + 6 ≤ 1000000 := by omega
  have k6 : 6 ≤ 1000000 := by omega
  have k13 : 6 + 6 + 1 + (6 + 6 + 1) ≤ 1000000 := by omega
  have k24 : 6 + 6 + (6 + 6) ≤ 1000000 := by omega
  obtain ⟨e0, e1, e2, e3, e4, e5, e6, e7, e8, e9, e10, e11, G⟩ := id S
  go_wp2_with fail
  clear e0 e1 e2 e3 e4 e5 e6 e7 e8 e9 e10 e11 G
  obtain ⟨e0, e1, e2, e3, e4, e5, e6, e7, e8, e9, e10, e11, G⟩ := id S
  have S0 : Kept w4 [(w.heap.size + 1 + 1, 0, .bool b3), (w.heap.size + 1 + 1, 1, .slice pC nC cC), (w.heap.size + 1, 0, .bool b2), (w.heap.size + 1, 1, .slice pB nB cB), (w.heap.size, 0, .bool b1), (w.heap.size, 1, .slice pA nA cA)] [] w4 := ⟨e0, e1, e4, e5, e8, e9, grown_refl _ _⟩
  clear e0 e1 e2 e3 e4 e5 e6 e7 e8 e9 e10 e11 G
  go_region_held3 (fun w' => w'.cell? ⟨w.heap.size + 1 + 1, 0, none⟩ = some (.bool b3) ∧ w'.cell? ⟨w.heap.size + 1 + 1, 1, none⟩ = some (.slice pC nC cC) ∧ w'.cell? ⟨w.heap.size + 1, 0, none⟩ = some (.bool b2) ∧ w'.cell? ⟨w.heap.size + 1, 1, none⟩ = some (.slice pB nB cB) ∧ w'.cell? ⟨w.heap.size, 0, none⟩ = some (.bool b1) ∧ w'.cell? ⟨w.heap.size, 1, none⟩ = some (.slice pA nA cA) ∧ w4.grownBy w' none) (first | exact Kept.step (W := w4) [(w.heap.size + 1 + 1, 0, .bool b3), (w.heap.size + 1 + 1, 1, .slice pC nC cC), (w.heap.size + 1, 0, .bool b2), (w.heap.size + 1, 1, .slice pB nB cB), (w.heap.size, 0, .bool b1), (w.heap.size, 1, .slice pA nA cA)] [] (by assumption) (by assumption) | exact Kept.step (W := w4) [(w.heap.size + 1 + 1, 0, .bool b3), (w.heap.size + 1 + 1, 1, .slice pC nC cC), (w.heap.size + 1, 0, .bool b2), (w.heap.size + 1, 1, .slice pB nB cB), (w.heap.size, 0, .bool b1), (w.heap.size, 1, .slice pA nA cA)] [] (grown_drew _ _) S0)
    (first | (go_at_call 27; (with_reducible refine (Cmp_i x m1 m2 k13 Cp.out).mono ?_); rintro e w' ⟨rfl, hg⟩; clear m1 m2) | (go_at_call 16; (with_reducible refine (Add_i (VB.out.grown (by go_split_ands; assumption)) (VC.out.grown (by go_split_ands; assumption)) k12).mono ?_); rintro e w' ⟨v, rfl, h, bd, hg⟩; have m2 := h.intV bd; replace m1 := m1.grown hg; clear h bd) | (go_at_call 16; (with_reducible refine (Add_i (VA.out.grown (by go_split_ands; assumption)) (VC.out.grown (by go_split_ands; assumption)) k12).mono ?_); rintro e w' ⟨v, rfl, h, bd, hg⟩; have m1 := h.intV bd; clear h bd) | (go_at_call 27; (with_reducible refine (Cmp_i (-x) n1 n2 k12 Cn.out).mono ?_); rintro e w' ⟨rfl, hg⟩; clear n1 n2) | (go_at_call 24; (with_reducible refine (Neg_i (VB.out.grown (by go_split_ands; assumption)) k6).mono ?_); rintro e w' ⟨v, rfl, h, bd, hg⟩; have n2 := h.intV bd; replace n1 := n1.grown hg; clear h bd) | (go_at_call 24; (with_reducible refine (Neg_i (VA.out.grown (by go_split_ands; assumption)) k6).mono ?_); rintro e w' ⟨v, rfl, h, bd, hg⟩; have n1 := h.intV bd; clear h bd) | (go_at_call 27; (with_reducible refine (Cmp_i (-x) (VB.out.grown (by go_split_ands; assumption)) (VA.out.grown (by go_split_ands; assumption)) k12 Cs.out).mono ?_); rintro e w' ⟨rfl, hg⟩))
  rename_i hend
  have g := hend.2.2.2.2.2.2
  replace VA := Lib.hid (VA.out.kp (Kp.of g))
  replace VB := Lib.hid (VB.out.kp (Kp.of g))
  replace VC := Lib.hid (VC.out.kp (Kp.of g))
  replace S := S.step _ g
  clear g hend S0
  obtain ⟨e0, e1, e2, e3, e4, e5, e6, e7, e8, e9, e10, e11, G⟩ := id S
  go_wp2_with fail
  clear e0 e1 e2 e3 e4 e5 e6 e7 e8 e9 e10 e11 G
  refine (Norm_i VC.out k6).mono ?_
  rintro e w5 ⟨v5, rfl, h, bd, g⟩
  replace VA := Lib.hid (VA.out.kp (Kp.of g))
  replace VB := Lib.hid (VB.out.kp (Kp.of g))
  replace VC := Lib.hid (VC.out.kp (Kp.of g))
  replace S := S.step _ g
  clear g
  have Nc := Lib.hid (h.nor)
  clear h bd
  obtain ⟨e0, e1, e2, e3, e4, e5, e6, e7, e8, e9, e10, e11, G⟩ := id S
  go_wp2_with fail
  clear e0 e1 e2 e3 e4 e5 e6 e7 e8 e9 e10 e11 G
  refine (Sign_z s Nc.out Ss.out).mono ?_
  rintro e w6 ⟨rfl, g⟩
  replace VA := Lib.hid (VA.out.kp (Kp.of g))
  replace VB := Lib.hid (VB.out.kp (Kp.of g))
  replace VC := Lib.hid (VC.out.kp (Kp.of g))
  replace Nc := Lib.hid (Nc.out.kp (Kp.of g))
  replace S := S.step _ g
  clear g
  clear Nc
  obtain ⟨e0, e1, e2, e3, e4, e5, e6, e7, e8, e9, e10, e11, G⟩ := id S
  go_wp2_with fail
  clear e0 e1 e2 e3 e4 e5 e6 e7 e8 e9 e10 e11 G
  obtain ⟨e0, e1, e2, e3, e4, e5, e6, e7, e8, e9, e10, e11, G⟩ := id S
  have S0 : Kept w6 [(w.heap.size + 1 + 1, 0, .bool b3), (w.heap.size + 1 + 1, 1, .slice pC nC cC), (w.heap.size + 1, 0, .bool b2), (w.heap.size + 1, 1, .slice pB nB cB), (w.heap.size, 0, .bool b1), (w.heap.size, 1, .slice pA nA cA)] [] w6 := ⟨e0, e1, e4, e5, e8, e9, grown_refl _ _⟩
  clear e0 e1 e2 e3 e4 e5 e6 e7 e8 e9 e10 e11 G
  go_region_held3 (fun w' => w'.cell? ⟨w.heap.size + 1 + 1, 0, none⟩ = some (.bool b3) ∧ w'.cell? ⟨w.heap.size + 1 + 1, 1, none⟩ = some (.slice pC nC cC) ∧ w'.cell? ⟨w.heap.size + 1, 0, none⟩ = some (.bool b2) ∧ w'.cell? ⟨w.heap.size + 1, 1, none⟩ = some (.slice pB nB cB) ∧ w'.cell? ⟨w.heap.size, 0, none⟩ = some (.bool b1) ∧ w'.cell? ⟨w.heap.size, 1, none⟩ = some (.slice pA nA cA) ∧ w6.grownBy w' none) (first | exact Kept.step (W := w6) [(w.heap.size + 1 + 1, 0, .bool b3), (w.heap.size + 1 + 1, 1, .slice pC nC cC), (w.heap.size + 1, 0, .bool b2), (w.heap.size + 1, 1, .slice pB nB cB), (w.heap.size, 0, .bool b1), (w.heap.size, 1, .slice pA nA cA)] [] (by assumption) (by assumption) | exact Kept.step (W := w6) [(w.heap.size + 1 + 1, 0, .bool b3), (w.heap.size + 1 + 1, 1, .slice pC nC cC), (w.heap.size + 1, 0, .bool b2), (w.heap.size + 1, 1, .slice pB nB cB), (w.heap.size, 0, .bool b1), (w.heap.size, 1, .slice pA nA cA)] [] (grown_drew _ _) S0)
    (first | (go_at_call 31; (with_reducible refine (wakes_true _).mono ?_); rintro e w' ⟨rfl, hg⟩) | (go_at_call 27; (with_reducible refine (Cmp_i 0 q1 q3 k12 Cq.out).mono ?_); rintro e w' ⟨rfl, hg⟩; clear q1 q3) | (go_at_call 25; (with_reducible refine (Abs_i q2 k6).mono ?_); rintro e w' ⟨v, rfl, h, bd, hg⟩; have q3 := h.intV bd; replace q1 := q1.grown hg; clear h bd q2) | (go_at_call 24; (with_reducible refine (Neg_i (VA.out.grown (by go_split_ands; assumption)) k6).mono ?_); rintro e w' ⟨v, rfl, h, bd, hg⟩; have q2 := h.intV bd; replace q1 := q1.grown hg; clear h bd) | (go_at_call 25; (with_reducible refine (Abs_i (VA.out.grown (by go_split_ands; assumption)) k6).mono ?_); rintro e w' ⟨v, rfl, h, bd, hg⟩; have q1 := h.intV bd; clear h bd a2) | (go_at_call 49; (with_reducible refine (Sign_z x s1 Cd.out).mono ?_); rintro e w' ⟨rfl, hg⟩; clear s1; have a2 := trivial) | (go_at_call 20; (with_reducible refine (Sub_i (VA.out.grown (by go_split_ands; assumption)) (VB.out.grown (by go_split_ands; assumption)) k12).mono ?_); rintro e w' ⟨v, rfl, h, bd, hg⟩; have s1 := h.nor; clear h bd) | (go_at_call 49; (with_reducible refine (Sign_z t a1 Ct.out).mono ?_); rintro e w' ⟨rfl, hg⟩; clear a1) | (go_at_call 25; (with_reducible refine (Abs_i (VA.out.grown (by go_split_ands; assumption)) k6).mono ?_); rintro e w' ⟨v, rfl, h, bd, hg⟩; have a1 := h.nor; clear h bd) | (go_at_call 27; (with_reducible refine (Cmp_i (x * s) m1 m2 k24 Cm.out).mono ?_); rintro e w' ⟨rfl, hg⟩; clear m1 m2) | (go_at_call 22; (with_reducible refine (Mul_i (VB.out.grown (by go_split_ands; assumption)) (VC.out.grown (by go_split_ands; assumption)) k12).mono ?_); rintro e w' ⟨v, rfl, h, bd, hg⟩; have m2 := h.intV bd; replace m1 := m1.grown hg; clear h bd) | (go_at_call 22; (with_reducible refine (Mul_i (VA.out.grown (by go_split_ands; assumption)) (VC.out.grown (by go_split_ands; assumption)) k12).mono ?_); rintro e w' ⟨v, rfl, h, bd, hg⟩; have m1 := h.intV bd; clear h bd))
  rename_i hend
  have g := hend.2.2.2.2.2.2
  replace VA := Lib.hid (VA.out.kp (Kp.of g))
  replace VB := Lib.hid (VB.out.kp (Kp.of g))
  replace VC := Lib.hid (VC.out.kp (Kp.of g))
  replace S := S.step _ g
  clear g hend S0
  go_wp2_with fail
  go_ret
  exact ⟨rfl, S.all⟩

set_option maxRecDepth 100000 in
theorem lifted (os : Os) (started : os.Started) (H : Type) (enc : TypeId × Value → H) :
    ReturnsInHanded {} Try.checked os 12 .any (Rows.wholeOrdersSpec.pre6 enc Try.prog Try.f12 Rows.wholeOrdersRow.domain false) (Rows.wholeOrdersSpec.post enc Try.prog Try.f12 false true false false) := by
  refine returnsInHanded_of_change (C := Try.checked) Try.own started (by kernel_rfl) Try.func12
    (ChangeSpec.witness6 (enc := enc) (C := Try.checked) false ⟨#[], #[.agg #[.bool false, .slice none 0 0], .agg #[.bool false, .slice none 0 0], .agg #[.bool false, .slice none 0 0]], []⟩ 8 (by kernel_rfl) (by kernel_rfl) (by kernel_rfl) (by kernel_rfl)) ?_
  intro W base args ds gs before hval0 hW _ _
  have hval : ∀ (j : Nat) t v, Try.f12.params[j]? = some t → args[j]? = some v → Value.okWide Try.prog W .any base t v := hval0
  obtain ⟨p, q, hA0, hV, rfl, _, _⟩ := id hW
  have hA : DataW.TrodAll enc Try.prog W 0 (fun _ => true) true Try.f12.params.toList args.toList ds p := hA0
  rw [Try.params12] at hA hval
  obtain ⟨v0, vs0, d0, ds0, p0, q0, hargs, rfl, rfl, h0, r0⟩ := trodAll_cons hA
  obtain ⟨v1, vs1, d1, ds1, p1, q1, rfl, rfl, rfl, h1, r1⟩ := trodAll_cons r0
  obtain ⟨v2, vs2, d2, ds2, p2, q2, rfl, rfl, rfl, h2, r2⟩ := trodAll_cons r1
  obtain ⟨rfl, rfl, rfl⟩ := trodAll_nil r2
  obtain rfl : args = #[v0, v1, v2] := by cases args; simp_all
  obtain ⟨b0, w0, xs0, rfl, s0, a0⟩ := int_of_trod h0 (hval 0 24 v0 rfl rfl)
  obtain ⟨b1, w1, xs1, rfl, s1, a1⟩ := int_of_trod h1 (hval 1 24 v1 rfl rfl)
  obtain ⟨b2, w2, xs2, rfl, s2, a2⟩ := int_of_trod h2 (hval 2 24 v2 rfl rfl)
  refine (walk s0 a0 s1 a1 s2 a2).mono fun e W' ⟨he, hg⟩ => ?_
  subst he
  refine ⟨_, rfl, law_post Try.laidOut rfl (by kernel_rfl) Try.underlying4 ?_ ?_ hW hg⟩
  · rw [Try.params12]; decide +kernel
  · rw [Try.params12]
    intro ds h
    match ds, h with
    | [_, _, _], _ => rfl

theorem holds : Rows.WholeOrdersSaid :=
  OpenClaim.holds_of_wide 12 Try.f12 rfl rfl rfl rfl rfl rfl rfl ⟨rfl, rfl, rfl, rfl, rfl⟩ rfl rfl rfl rfl rfl (by kernel_rfl) Try.func12 (by kernel_rfl)
    (of_decide_eq_true (by kernel_rfl)) (by unfold Func.isWrapper; first | (rw [if_pos (by decide +kernel)]; kernel_rfl) | (rw [if_neg (by decide +kernel)]; exact ⟨rfl, rfl⟩))
    (fun os started H enc _ => lifted os started H enc)

end Go.Proofs.Ytenaepofjpjhhaa.orders
