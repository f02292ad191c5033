/- WholeDivs holds: for every two whole numbers the law returns true and leaves them as they were. No condition. -/
import Derived.Test.YtenaepofjpjhhaaRowInt
import Derived.Test.YtenaepofjpjhhaaRefP
namespace Go.Proofs.Ytenaepofjpjhhaa.divs
open Go.ChangeShapes Go.WideShapes Go.ChangeAt Go.RowKit

set_option maxHeartbeats 4000000 in
set_option maxRecDepth 100000 in
theorem walk {b1 b2 : Bool} {v1 v2 : Value} {xs ys : List Nat} {w : World} (hx : Sl w .u32 v1 xs) (ax : All 4294967296 xs) (hy : Sl w .u32 v2 ys) (ay : All 4294967296 ys) :
    Calls Try.prog 7 #[.agg #[.bool b1, v1], .agg #[.bool b2, v2]] w (Bool_ w true) := by
  obtain ⟨p1, c1, rfl, -⟩ := id hx
  obtain ⟨p2, c2, rfl, -⟩ := id hy
  have Hx := Lib.hid hx
  have Hy := Lib.hid hy
  have Ax := Lib.hid ax
  have Ay := Lib.hid ay
  have S : Bx w [(w.heap.size + 1, .bool b2, .slice p2 ys.length c2), (w.heap.size, .bool b1, .slice p1 xs.length c1)] ((w.alloc (.cells #[.bool b1, .slice p1 xs.length c1] 24)).alloc (.cells #[.bool b2, .slice p2 ys.length c2] 24)) := (((Bx.start w).box (w.heap.size) (.bool b1) (.slice p1 xs.length c1) 24 (by simp)).box (w.heap.size + 1) (.bool b2) (.slice p2 ys.length c2) 24 (by simp))
  clear hx ax hy ay
  go_enter Try.func7, Try.ntmps7
  obtain ⟨e0, e1, e2, e3, e4, e5, e6, e7, G⟩ := id S
  go_wp2_with fail
  clear e0 e1 e2 e3 e4 e5 e6 e7 G
  refine (Of_l 12 (Hx.out.grown S.all (.inl rfl)) Ax.out (by omega)).mono ?_
  rintro e w1 ⟨pA, nA, cA, ux, rfl, hs, hd, g⟩
  replace hs := hs.grown g (.inl rfl)
  replace S := S.step _ g
  clear g
  obtain ⟨zx, hzx⟩ : ∃ z, sg b1 (val 4294967296 (xs.take 12)) = z := ⟨_, rfl⟩
  rw [hzx] at hd
  have bdx := hd.bd
  obtain ⟨px, cx, rfl, -⟩ := id hd
  have VA := Lib.hid (show IntV _ (.agg #[.bool b1, .slice pA nA cA]) zx 12 from ⟨_, _, _, rfl, Num.row hs (Ax.out.take 12) 12 (by rw [List.length_take]; omega), hzx.symm⟩)
  have Dx := Lib.hid (hd)
  clear hs hd hzx
  have z1_0 := S.lt (g := w.heap.size + 1) (x := .bool b2) (y := .slice p2 ys.length c2) (by simp)
  have z1_1 := S.lt (g := w.heap.size) (x := .bool b1) (y := .slice p1 xs.length c1) (by simp)
  obtain ⟨e0, e1, e2, e3, e4, e5, e6, e7, G⟩ := id S
  have K : Kp w1 (((w1.setCell ⟨w.heap.size, 0, none⟩ (.bool b1)).setCell ⟨w.heap.size, 1, none⟩ (.slice pA nA cA)).alloc (.cells #[.slice px (dig 10000 (zx).natAbs).length cx, .bool (decide (zx < 0))] 28)) := (S.kp (g := w.heap.size) (x := .bool b1) (y := .slice p1 xs.length c1) (.bool b1) (.slice pA nA cA) (by simp) (by simp) (by simp)).trans (Kp.of (grown_alloc _ _ _))
  have S2 : Bx w [(w.heap.size, .bool b1, .slice pA nA cA), (w.heap.size + 1, .bool b2, .slice p2 ys.length c2)] ((w1.setCell ⟨w.heap.size, 0, none⟩ (.bool b1)).setCell ⟨w.heap.size, 1, none⟩ (.slice pA nA cA)) := S.put (g := w.heap.size) (u := .bool b1) (v := .slice pA nA cA) (x := .bool b1) (y := .slice p1 xs.length c1) (bs' := [(w.heap.size + 1, .bool b2, .slice p2 ys.length c2)]) (by simp) (by simp <;> omega) (by simp <;> omega) (by omega)
  replace S : Bx w [(w1.heap.size, .slice px (dig 10000 (zx).natAbs).length cx, .bool (decide (zx < 0))), (w.heap.size, .bool b1, .slice pA nA cA), (w.heap.size + 1, .bool b2, .slice p2 ys.length c2)] (((w1.setCell ⟨w.heap.size, 0, none⟩ (.bool b1)).setCell ⟨w.heap.size, 1, none⟩ (.slice pA nA cA)).alloc (.cells #[.slice px (dig 10000 (zx).natAbs).length cx, .bool (decide (zx < 0))] 28)) := S2.box (w1.heap.size) (.slice px (dig 10000 (zx).natAbs).length cx) (.bool (decide (zx < 0))) 28 (by simp)
  replace VA := Lib.hid (VA.out.kp K)
  replace Dx := Lib.hid (Dx.out.kp K)
  go_wp2_with fail
  clear K S2 e0 e1 e2 e3 e4 e5 e6 e7 G
  generalize (((w1.setCell ⟨w.heap.size, 0, none⟩ (.bool b1)).setCell ⟨w.heap.size, 1, none⟩ (.slice pA nA cA)).alloc (.cells #[.slice px (dig 10000 (zx).natAbs).length cx, .bool (decide (zx < 0))] 28)) = W1 at *
  refine (Of_l 8 (Hy.out.grown S.all (.inl rfl)) Ay.out (by omega)).mono ?_
  rintro e w2 ⟨pB, nB, cB, uy, rfl, hs, hd, g⟩
  replace hs := hs.grown g (.inl rfl)
  replace VA := Lib.hid (VA.out.kp (Kp.of g))
  replace Dx := Lib.hid (Dx.out.kp (Kp.of g))
  replace S := S.step _ g
  clear g
  obtain ⟨zy, hzy⟩ : ∃ z, sg b2 (val 4294967296 (ys.take 8)) = z := ⟨_, rfl⟩
  rw [hzy] at hd
  have bdy := hd.bd
  obtain ⟨py, cy, rfl, -⟩ := id hd
  have VB := Lib.hid (show IntV _ (.agg #[.bool b2, .slice pB nB cB]) zy 8 from ⟨_, _, _, rfl, Num.row hs (Ay.out.take 8) 8 (by rw [List.length_take]; omega), hzy.symm⟩)
  have Dy := Lib.hid (hd)
  clear hs hd hzy
  have z2_0 := S.lt (g := w1.heap.size) (x := .slice px (dig 10000 (zx).natAbs).length cx) (y := .bool (decide (zx < 0))) (by simp)
  have z2_1 := S.lt (g := w.heap.size) (x := .bool b1) (y := .slice pA nA cA) (by simp)
  have z2_2 := S.lt (g := w.heap.size + 1) (x := .bool b2) (y := .slice p2 ys.length c2) (by simp)
  obtain ⟨e0, e1, e2, e3, e4, e5, e6, e7, e8, e9, e10, e11, G⟩ := id S
  have K : Kp w2 (((w2.setCell ⟨w.heap.size + 1, 0, none⟩ (.bool b2)).setCell ⟨w.heap.size + 1, 1, none⟩ (.slice pB nB cB)).alloc (.cells #[.slice py (dig 10000 (zy).natAbs).length cy, .bool (decide (zy < 0))] 28)) := (S.kp (g := w.heap.size + 1) (x := .bool b2) (y := .slice p2 ys.length c2) (.bool b2) (.slice pB nB cB) (by simp) (by simp) (by simp)).trans (Kp.of (grown_alloc _ _ _))
  have S2 : Bx w [(w.heap.size + 1, .bool b2, .slice pB nB cB), (w1.heap.size, .slice px (dig 10000 (zx).natAbs).length cx, .bool (decide (zx < 0))), (w.heap.size, .bool b1, .slice pA nA cA)] ((w2.setCell ⟨w.heap.size + 1, 0, none⟩ (.bool b2)).setCell ⟨w.heap.size + 1, 1, none⟩ (.slice pB nB cB)) := S.put (g := w.heap.size + 1) (u := .bool b2) (v := .slice pB nB cB) (x := .bool b2) (y := .slice p2 ys.length c2) (bs' := [(w1.heap.size, .slice px (dig 10000 (zx).natAbs).length cx, .bool (decide (zx < 0))), (w.heap.size, .bool b1, .slice pA nA cA)]) (by simp) (by simp <;> omega) (by simp <;> omega) (by omega)
  replace S : Bx w [(w2.heap.size, .slice py (dig 10000 (zy).natAbs).length cy, .bool (decide (zy < 0))), (w.heap.size + 1, .bool b2, .slice pB nB cB), (w1.heap.size, .slice px (dig 10000 (zx).natAbs).length cx, .bool (decide (zx < 0))), (w.heap.size, .bool b1, .slice pA nA cA)] (((w2.setCell ⟨w.heap.size + 1, 0, none⟩ (.bool b2)).setCell ⟨w.heap.size + 1, 1, none⟩ (.slice pB nB cB)).alloc (.cells #[.slice py (dig 10000 (zy).natAbs).length cy, .bool (decide (zy < 0))] 28)) := S2.box (w2.heap.size) (.slice py (dig 10000 (zy).natAbs).length cy) (.bool (decide (zy < 0))) 28 (by simp)
  replace VA := Lib.hid (VA.out.kp K)
  replace Dx := Lib.hid (Dx.out.kp K)
  replace VB := Lib.hid (VB.out.kp K)
  replace Dy := Lib.hid (Dy.out.kp K)
  go_wp2_with fail
  clear K S2 e0 e1 e2 e3 e4 e5 e6 e7 e8 e9 e10 e11 G
  generalize (((w2.setCell ⟨w.heap.size + 1, 0, none⟩ (.bool b2)).setCell ⟨w.heap.size + 1, 1, none⟩ (.slice pB nB cB)).alloc (.cells #[.slice py (dig 10000 (zy).natAbs).length cy, .bool (decide (zy < 0))] 28)) = W2 at *
  by_cases hz : zy = 0
  · have Hz := Lib.hid hz
    clear hz
    refine (DivMod_i0 VA.out VB.out (by omega) Hz.out).mono ?_
    rintro e w3 ⟨rfl, g⟩
    replace VA := Lib.hid (VA.out.kp (Kp.of g))
    replace Dx := Lib.hid (Dx.out.kp (Kp.of g))
    replace VB := Lib.hid (VB.out.kp (Kp.of g))
    replace Dy := Lib.hid (Dy.out.kp (Kp.of g))
    replace S := S.step _ g
    clear g
    unfold ZI
    replace VA := Lib.hid (VA.out.kp (Kp.of (grown_alloc _ (.cells #[.bool false, .slice none 0 0] 24) none)))
    replace Dx := Lib.hid (Dx.out.kp (Kp.of (grown_alloc _ (.cells #[.bool false, .slice none 0 0] 24) none)))
    replace VB := Lib.hid (VB.out.kp (Kp.of (grown_alloc _ (.cells #[.bool false, .slice none 0 0] 24) none)))
    replace Dy := Lib.hid (Dy.out.kp (Kp.of (grown_alloc _ (.cells #[.bool false, .slice none 0 0] 24) none)))
    replace S := S.box (w3.heap.size) (.bool false) (.slice none 0 0) 24 (by simp)
    replace VA := Lib.hid (VA.out.kp (Kp.of (grown_alloc _ (.cells #[.bool false, .slice none 0 0] 24) none)))
    replace Dx := Lib.hid (Dx.out.kp (Kp.of (grown_alloc _ (.cells #[.bool false, .slice none 0 0] 24) none)))
    replace VB := Lib.hid (VB.out.kp (Kp.of (grown_alloc _ (.cells #[.bool false, .slice none 0 0] 24) none)))
    replace Dy := Lib.hid (Dy.out.kp (Kp.of (grown_alloc _ (.cells #[.bool false, .slice none 0 0] 24) none)))
    replace S := S.box (w3.heap.size + 1) (.bool false) (.slice none 0 0) 24 (by simp)
    obtain ⟨e0, e1, e2, e3, e4, e5, e6, e7, e8, e9, e10, e11, e12, e13, e14, e15, e16, e17, e18, e19, e20, e21, e22, e23, G⟩ := id S
    go_wp2_with fail
    clear e0 e1 e2 e3 e4 e5 e6 e7 e8 e9 e10 e11 e12 e13 e14 e15 e16 e17 e18 e19 e20 e21 e22 e23 G
    refine (Zero_r Dy.out).mono ?_
    rintro e w4 ⟨rfl, g⟩
    replace VA := Lib.hid (VA.out.kp (Kp.of g))
    replace Dx := Lib.hid (Dx.out.kp (Kp.of g))
    replace VB := Lib.hid (VB.out.kp (Kp.of g))
    replace Dy := Lib.hid (Dy.out.kp (Kp.of g))
    replace S := S.step _ g
    clear g
    rw [decide_eq_true Hz.out]
    obtain ⟨e0, e1, e2, e3, e4, e5, e6, e7, e8, e9, e10, e11, e12, e13, e14, e15, e16, e17, e18, e19, e20, e21, e22, e23, G⟩ := id S
    go_wp2_with fail
    clear e0 e1 e2 e3 e4 e5 e6 e7 e8 e9 e10 e11 e12 e13 e14 e15 e16 e17 e18 e19 e20 e21 e22 e23 G
    refine (Zero_nil).mono ?_
    rintro e w5 ⟨rfl, g⟩
    replace VA := Lib.hid (VA.out.kp (Kp.of g))
    replace Dx := Lib.hid (Dx.out.kp (Kp.of g))
    replace VB := Lib.hid (VB.out.kp (Kp.of g))
    replace Dy := Lib.hid (Dy.out.kp (Kp.of g))
    replace S := S.step _ g
    clear g
    obtain ⟨e0, e1, e2, e3, e4, e5, e6, e7, e8, e9, e10, e11, e12, e13, e14, e15, e16, e17, e18, e19, e20, e21, e22, e23, G⟩ := id S
    go_wp2_with fail
    clear e0 e1 e2 e3 e4 e5 e6 e7 e8 e9 e10 e11 e12 e13 e14 e15 e16 e17 e18 e19 e20 e21 e22 e23 G
    refine (Zero_nil).mono ?_
    rintro e w6 ⟨rfl, g⟩
    replace VA := Lib.hid (VA.out.kp (Kp.of g))
    replace Dx := Lib.hid (Dx.out.kp (Kp.of g))
    replace VB := Lib.hid (VB.out.kp (Kp.of g))
    replace Dy := Lib.hid (Dy.out.kp (Kp.of g))
    replace S := S.step _ g
    clear g
    obtain ⟨e0, e1, e2, e3, e4, e5, e6, e7, e8, e9, e10, e11, e12, e13, e14, e15, e16, e17, e18, e19, e20, e21, e22, e23, G⟩ := id S
    go_wp2_with fail
    clear e0 e1 e2 e3 e4 e5 e6 e7 e8 e9 e10 e11 e12 e13 e14 e15 e16 e17 e18 e19 e20 e21 e22 e23 G
    refine (wakes_true _).mono ?_
    rintro e w7 ⟨rfl, g⟩
    replace VA := Lib.hid (VA.out.kp (Kp.of g))
    replace Dx := Lib.hid (Dx.out.kp (Kp.of g))
    replace VB := Lib.hid (VB.out.kp (Kp.of g))
    replace Dy := Lib.hid (Dy.out.kp (Kp.of g))
    replace S := S.step _ g
    clear g
    go_wp2_with fail
    go_ret
    exact ⟨rfl, S.all⟩
  · have Hz := Lib.hid hz
    clear hz
    obtain ⟨zq, ezq⟩ : ∃ t, zx / zy = t := ⟨_, rfl⟩
    obtain ⟨zr, ezr⟩ : ∃ t, zx % zy = t := ⟨_, rfl⟩
    have Eq := Lib.hid ezq
    have Er := Lib.hid ezr
    clear ezq ezr
    refine (DivMod_i VA.out VB.out (by omega) Hz.out).mono ?_
    rintro e w3 ⟨v, u, rfl, hq, hr, bq, br, g⟩
    replace VA := Lib.hid (VA.out.kp (Kp.of g))
    replace Dx := Lib.hid (Dx.out.kp (Kp.of g))
    replace VB := Lib.hid (VB.out.kp (Kp.of g))
    replace Dy := Lib.hid (Dy.out.kp (Kp.of g))
    replace S := S.step _ g
    clear g
    rw [Eq.out] at hq bq
    rw [Er.out] at hr br
    obtain ⟨pq, cq, rfl, hq2⟩ := id hq
    obtain ⟨pr, cr, rfl, hr2⟩ := id hr
    have Nq := Lib.hid (hq.nor)
    have Nr := Lib.hid (hr.nor)
    clear hq hr hq2 hr2 bq br
    replace VA := Lib.hid (VA.out.kp (Kp.of (grown_alloc _ (.cells #[.bool (decide (zq < 0)), .slice pq (dig 4294967296 (zq).natAbs).length cq] 24) none)))
    replace Dx := Lib.hid (Dx.out.kp (Kp.of (grown_alloc _ (.cells #[.bool (decide (zq < 0)), .slice pq (dig 4294967296 (zq).natAbs).length cq] 24) none)))
    replace VB := Lib.hid (VB.out.kp (Kp.of (grown_alloc _ (.cells #[.bool (decide (zq < 0)), .slice pq (dig 4294967296 (zq).natAbs).length cq] 24) none)))
    replace Dy := Lib.hid (Dy.out.kp (Kp.of (grown_alloc _ (.cells #[.bool (decide (zq < 0)), .slice pq (dig 4294967296 (zq).natAbs).length cq] 24) none)))
    replace Nq := Lib.hid (Nq.out.kp (Kp.of (grown_alloc _ (.cells #[.bool (decide (zq < 0)), .slice pq (dig 4294967296 (zq).natAbs).length cq] 24) none)))
    replace Nr := Lib.hid (Nr.out.kp (Kp.of (grown_alloc _ (.cells #[.bool (decide (zq < 0)), .slice pq (dig 4294967296 (zq).natAbs).length cq] 24) none)))
    replace S := S.box (w3.heap.size) (.bool (decide (zq < 0))) (.slice pq (dig 4294967296 (zq).natAbs).length cq) 24 (by simp)
    replace VA := Lib.hid (VA.out.kp (Kp.of (grown_alloc _ (.cells #[.bool (decide (zr < 0)), .slice pr (dig 4294967296 (zr).natAbs).length cr] 24) none)))
    replace Dx := Lib.hid (Dx.out.kp (Kp.of (grown_alloc _ (.cells #[.bool (decide (zr < 0)), .slice pr (dig 4294967296 (zr).natAbs).length cr] 24) none)))
    replace VB := Lib.hid (VB.out.kp (Kp.of (grown_alloc _ (.cells #[.bool (decide (zr < 0)), .slice pr (dig 4294967296 (zr).natAbs).length cr] 24) none)))
    replace Dy := Lib.hid (Dy.out.kp (Kp.of (grown_alloc _ (.cells #[.bool (decide (zr < 0)), .slice pr (dig 4294967296 (zr).natAbs).length cr] 24) none)))
    replace Nq := Lib.hid (Nq.out.kp (Kp.of (grown_alloc _ (.cells #[.bool (decide (zr < 0)), .slice pr (dig 4294967296 (zr).natAbs).length cr] 24) none)))
    replace Nr := Lib.hid (Nr.out.kp (Kp.of (grown_alloc _ (.cells #[.bool (decide (zr < 0)), .slice pr (dig 4294967296 (zr).natAbs).length cr] 24) none)))
    replace S := S.box (w3.heap.size + 1) (.bool (decide (zr < 0))) (.slice pr (dig 4294967296 (zr).natAbs).length cr) 24 (by simp)
    obtain ⟨e0, e1, e2, e3, e4, e5, e6, e7, e8, e9, e10, e11, e12, e13, e14, e15, e16, e17, e18, e19, e20, e21, e22, e23, G⟩ := id S
    go_wp2_with fail
    clear e0 e1 e2 e3 e4 e5 e6 e7 e8 e9 e10 e11 e12 e13 e14 e15 e16 e17 e18 e19 e20 e21 e22 e23 G
    refine (Zero_r Dy.out).mono ?_
    rintro e w4 ⟨rfl, g⟩
    replace VA := Lib.hid (VA.out.kp (Kp.of g))
    replace Dx := Lib.hid (Dx.out.kp (Kp.of g))
    replace VB := Lib.hid (VB.out.kp (Kp.of g))
    replace Dy := Lib.hid (Dy.out.kp (Kp.of g))
    replace Nq := Lib.hid (Nq.out.kp (Kp.of g))
    replace Nr := Lib.hid (Nr.out.kp (Kp.of g))
    replace S := S.step _ g
    clear g
    rw [decide_eq_false Hz.out]
    obtain ⟨e0, e1, e2, e3, e4, e5, e6, e7, e8, e9, e10, e11, e12, e13, e14, e15, e16, e17, e18, e19, e20, e21, e22, e23, G⟩ := id S
    go_wp2_with fail
    clear e0 e1 e2 e3 e4 e5 e6 e7 e8 e9 e10 e11 e12 e13 e14 e15 e16 e17 e18 e19 e20 e21 e22 e23 G
    refine (DivMod_r Dx.out Dy.out (by omega) Hz.out).mono ?_
    rintro e w5 ⟨v, u, rfl, dq, dr, g⟩
    replace VA := Lib.hid (VA.out.kp (Kp.of g))
    replace Dx := Lib.hid (Dx.out.kp (Kp.of g))
    replace VB := Lib.hid (VB.out.kp (Kp.of g))
    replace Dy := Lib.hid (Dy.out.kp (Kp.of g))
    replace Nq := Lib.hid (Nq.out.kp (Kp.of g))
    replace Nr := Lib.hid (Nr.out.kp (Kp.of g))
    replace S := S.step _ g
    clear g
    rw [Eq.out] at dq
    rw [Er.out] at dr
    obtain ⟨ps, cs, rfl, dq2⟩ := id dq
    obtain ⟨pt, ct, rfl, dr2⟩ := id dr
    have Dq := Lib.hid (dq)
    have Dr := Lib.hid (dr)
    clear dq dr dq2 dr2
    replace VA := Lib.hid (VA.out.kp (Kp.of (grown_alloc _ (.cells #[.slice ps (dig 10000 (zq).natAbs).length cs, .bool (decide (zq < 0))] 28) none)))
    replace Dx := Lib.hid (Dx.out.kp (Kp.of (grown_alloc _ (.cells #[.slice ps (dig 10000 (zq).natAbs).length cs, .bool (decide (zq < 0))] 28) none)))
    replace VB := Lib.hid (VB.out.kp (Kp.of (grown_alloc _ (.cells #[.slice ps (dig 10000 (zq).natAbs).length cs, .bool (decide (zq < 0))] 28) none)))
    replace Dy := Lib.hid (Dy.out.kp (Kp.of (grown_alloc _ (.cells #[.slice ps (dig 10000 (zq).natAbs).length cs, .bool (decide (zq < 0))] 28) none)))
    replace Nq := Lib.hid (Nq.out.kp (Kp.of (grown_alloc _ (.cells #[.slice ps (dig 10000 (zq).natAbs).length cs, .bool (decide (zq < 0))] 28) none)))
    replace Nr := Lib.hid (Nr.out.kp (Kp.of (grown_alloc _ (.cells #[.slice ps (dig 10000 (zq).natAbs).length cs, .bool (decide (zq < 0))] 28) none)))
    replace Dq := Lib.hid (Dq.out.kp (Kp.of (grown_alloc _ (.cells #[.slice ps (dig 10000 (zq).natAbs).length cs, .bool (decide (zq < 0))] 28) none)))
    replace Dr := Lib.hid (Dr.out.kp (Kp.of (grown_alloc _ (.cells #[.slice ps (dig 10000 (zq).natAbs).length cs, .bool (decide (zq < 0))] 28) none)))
    replace S := S.box (w5.heap.size) (.slice ps (dig 10000 (zq).natAbs).length cs) (.bool (decide (zq < 0))) 28 (by simp)
    replace VA := Lib.hid (VA.out.kp (Kp.of (grown_alloc _ (.cells #[.slice pt (dig 10000 (zr).natAbs).length ct, .bool (decide (zr < 0))] 28) none)))
    replace Dx := Lib.hid (Dx.out.kp (Kp.of (grown_alloc _ (.cells #[.slice pt (dig 10000 (zr).natAbs).length ct, .bool (decide (zr < 0))] 28) none)))
    replace VB := Lib.hid (VB.out.kp (Kp.of (grown_alloc _ (.cells #[.slice pt (dig 10000 (zr).natAbs).length ct, .bool (decide (zr < 0))] 28) none)))
    replace Dy := Lib.hid (Dy.out.kp (Kp.of (grown_alloc _ (.cells #[.slice pt (dig 10000 (zr).natAbs).length ct, .bool (decide (zr < 0))] 28) none)))
    replace Nq := Lib.hid (Nq.out.kp (Kp.of (grown_alloc _ (.cells #[.slice pt (dig 10000 (zr).natAbs).length ct, .bool (decide (zr < 0))] 28) none)))
    replace Nr := Lib.hid (Nr.out.kp (Kp.of (grown_alloc _ (.cells #[.slice pt (dig 10000 (zr).natAbs).length ct, .bool (decide (zr < 0))] 28) none)))
    replace Dq := Lib.hid (Dq.out.kp (Kp.of (grown_alloc _ (.cells #[.slice pt (dig 10000 (zr).natAbs).length ct, .bool (decide (zr < 0))] 28) none)))
    replace Dr := Lib.hid (Dr.out.kp (Kp.of (grown_alloc _ (.cells #[.slice pt (dig 10000 (zr).natAbs).length ct, .bool (decide (zr < 0))] 28) none)))
    replace S := S.box (w5.heap.size + 1) (.slice pt (dig 10000 (zr).natAbs).length ct) (.bool (decide (zr < 0))) 28 (by simp)
    obtain ⟨e0, e1, e2, e3, e4, e5, e6, e7, e8, e9, e10, e11, e12, e13, e14, e15, e16, e17, e18, e19, e20, e21, e22, e23, e24, e25, e26, e27, e28, e29, e30, e31, G⟩ := id S
    go_wp2_with fail
    clear e0 e1 e2 e3 e4 e5 e6 e7 e8 e9 e10 e11 e12 e13 e14 e15 e16 e17 e18 e19 e20 e21 e22 e23 e24 e25 e26 e27 e28 e29 e30 e31 G
    refine (Is_l Dq.out (by omega) Nq.out).mono ?_
    rintro e w6 ⟨rfl, g⟩
    replace VA := Lib.hid (VA.out.kp (Kp.of g))
    replace Dx := Lib.hid (Dx.out.kp (Kp.of g))
    replace VB := Lib.hid (VB.out.kp (Kp.of g))
    replace Dy := Lib.hid (Dy.out.kp (Kp.of g))
    replace Nq := Lib.hid (Nq.out.kp (Kp.of g))
    replace Nr := Lib.hid (Nr.out.kp (Kp.of g))
    replace Dq := Lib.hid (Dq.out.kp (Kp.of g))
    replace Dr := Lib.hid (Dr.out.kp (Kp.of g))
    replace S := S.step _ g
    clear g
    obtain ⟨e0, e1, e2, e3, e4, e5, e6, e7, e8, e9, e10, e11, e12, e13, e14, e15, e16, e17, e18, e19, e20, e21, e22, e23, e24, e25, e26, e27, e28, e29, e30, e31, G⟩ := id S
    go_wp2_with fail
    clear e0 e1 e2 e3 e4 e5 e6 e7 e8 e9 e10 e11 e12 e13 e14 e15 e16 e17 e18 e19 e20 e21 e22 e23 e24 e25 e26 e27 e28 e29 e30 e31 G
    refine (Is_l Dr.out (by omega) Nr.out).mono ?_
    rintro e w7 ⟨rfl, g⟩
    replace VA := Lib.hid (VA.out.kp (Kp.of g))
    replace Dx := Lib.hid (Dx.out.kp (Kp.of g))
    replace VB := Lib.hid (VB.out.kp (Kp.of g))
    replace Dy := Lib.hid (Dy.out.kp (Kp.of g))
    replace Nq := Lib.hid (Nq.out.kp (Kp.of g))
    replace Nr := Lib.hid (Nr.out.kp (Kp.of g))
    replace Dq := Lib.hid (Dq.out.kp (Kp.of g))
    replace Dr := Lib.hid (Dr.out.kp (Kp.of g))
    replace S := S.step _ g
    clear g
    obtain ⟨e0, e1, e2, e3, e4, e5, e6, e7, e8, e9, e10, e11, e12, e13, e14, e15, e16, e17, e18, e19, e20, e21, e22, e23, e24, e25, e26, e27, e28, e29, e30, e31, G⟩ := id S
    go_wp2_with fail
    clear e0 e1 e2 e3 e4 e5 e6 e7 e8 e9 e10 e11 e12 e13 e14 e15 e16 e17 e18 e19 e20 e21 e22 e23 e24 e25 e26 e27 e28 e29 e30 e31 G
    refine (wakes_true _).mono ?_
    rintro e w8 ⟨rfl, g⟩
    replace VA := Lib.hid (VA.out.kp (Kp.of g))
    replace Dx := Lib.hid (Dx.out.kp (Kp.of g))
    replace VB := Lib.hid (VB.out.kp (Kp.of g))
    replace Dy := Lib.hid (Dy.out.kp (Kp.of g))
    replace Nq := Lib.hid (Nq.out.kp (Kp.of g))
    replace Nr := Lib.hid (Nr.out.kp (Kp.of g))
    replace Dq := Lib.hid (Dq.out.kp (Kp.of g))
    replace Dr := Lib.hid (Dr.out.kp (Kp.of g))
    replace S := S.step _ g
    clear g
    go_wp2_with fail
    go_ret
    exact ⟨rfl, S.all⟩

set_option maxRecDepth 100000 in
theorem lifted (os : Os) (started : os.Started) (H : Type) (enc : TypeId × Value → H) :
    ReturnsInHanded {} Try.checked os 7 .any (Rows.wholeDivsSpec.pre6 enc Try.prog Try.f7 Rows.wholeDivsRow.domain false) (Rows.wholeDivsSpec.post enc Try.prog Try.f7 false true false false) := by
  refine returnsInHanded_of_change (C := Try.checked) Try.own started (by kernel_rfl) Try.func7
    (ChangeSpec.witness6 (enc := enc) (C := Try.checked) false ⟨#[], #[.agg #[.bool false, .slice none 0 0], .agg #[.bool false, .slice none 0 0]], []⟩ 8 (by kernel_rfl) (by kernel_rfl) (by kernel_rfl) (by kernel_rfl)) ?_
  intro W base args ds gs before hval0 hW _ _
  have hval : ∀ (j : Nat) t v, Try.f7.params[j]? = some t → args[j]? = some v → Value.okWide Try.prog W .any base t v := hval0
  obtain ⟨p, q, hA0, hV, rfl, _, _⟩ := id hW
  have hA : DataW.TrodAll enc Try.prog W 0 (fun _ => true) true Try.f7.params.toList args.toList ds p := hA0
  rw [Try.params7] at hA hval
  obtain ⟨v0, vs0, d0, ds0, p0, q0, hargs, rfl, rfl, h0, r0⟩ := trodAll_cons hA
  obtain ⟨v1, vs1, d1, ds1, p1, q1, rfl, rfl, rfl, h1, r1⟩ := trodAll_cons r0
  obtain ⟨rfl, rfl, rfl⟩ := trodAll_nil r1
  obtain rfl : args = #[v0, v1] := by cases args; simp_all
  obtain ⟨b0, w0, xs0, rfl, s0, a0⟩ := int_of_trod h0 (hval 0 24 v0 rfl rfl)
  obtain ⟨b1, w1, xs1, rfl, s1, a1⟩ := int_of_trod h1 (hval 1 24 v1 rfl rfl)
  refine (walk s0 a0 s1 a1).mono fun e W' ⟨he, hg⟩ => ?_
  subst he
  refine ⟨_, rfl, law_post Try.laidOut rfl (by kernel_rfl) Try.underlying4 ?_ ?_ hW hg⟩
  · rw [Try.params7]; decide +kernel
  · rw [Try.params7]
    intro ds h
    match ds, h with
    | [_, _], _ => rfl

theorem holds : Rows.WholeDivsSaid :=
  OpenClaim.holds_of_wide 7 Try.f7 rfl rfl rfl rfl rfl rfl rfl ⟨rfl, rfl, rfl, rfl, rfl⟩ rfl rfl rfl rfl rfl (by kernel_rfl) Try.func7 (by kernel_rfl)
    (of_decide_eq_true (by kernel_rfl)) (by unfold Func.isWrapper; first | (rw [if_pos (by decide +kernel)]; kernel_rfl) | (rw [if_neg (by decide +kernel)]; exact ⟨rfl, rfl⟩))
    (fun os started H enc _ => lifted os started H enc)

end Go.Proofs.Ytenaepofjpjhhaa.divs
