/- WholeEvens holds: for every two whole numbers and either choice the law returns true and leaves them as they were. No condition. -/
import Derived.Test.YtenaepofjpjhhaaRowInt
import Derived.Test.YtenaepofjpjhhaaRefP
namespace Go.Proofs.Ytenaepofjpjhhaa.evens
open Go.ChangeShapes Go.WideShapes Go.ChangeAt Go.RowKit

theorem IntV.more {w : World} {v : Value} {z : Int} {k l : Nat} (h : IntV w v z k) (hl : k ≤ l) : IntV w v z l := by
  obtain ⟨b, s, X, h1, ⟨xs, a1, a2, a3, a4⟩, h3⟩ := h
  exact ⟨b, s, X, h1, ⟨xs, a1, a2, a3, by omega⟩, h3⟩
theorem DecI.more {w : World} {v : Value} {z : Int} {k l : Nat} (h : DecI w v z k) (hl : k ≤ l) : DecI w v z l := by
  obtain ⟨p, cap, h1, h2, h3⟩ := h
  exact ⟨p, cap, h1, h2, h3.more hl⟩
set_option maxHeartbeats 8000000 in
set_option maxRecDepth 100000 in
theorem walk {b1 b2 : Bool} {v1 v2 : Value} {xs ys : List Nat} {w : World} (hx : Sl w .u32 v1 xs) (ax : All 4294967296 xs) (hy : Sl w .u32 v2 ys) (ay : All 4294967296 ys) (b3 : Bool) :
    Calls Try.prog 8 #[.agg #[.bool b1, v1], .agg #[.bool b2, v2], .bool b3] w (Bool_ w true) := by
  obtain ⟨p1, c1, rfl, -⟩ := id hx
  obtain ⟨p2, c2, rfl, -⟩ := id hy
  have Hx := Lib.hid hx
  have Hy := Lib.hid hy
  have Ax := Lib.hid ax
  have Ay := Lib.hid ay
  cases b3
  · have S : Bx w [(w.heap.size + 1, .bool b2, .slice p2 ys.length c2), (w.heap.size, .bool b1, .slice p1 xs.length c1)] ((w.alloc (.cells #[.bool b1, .slice p1 xs.length c1] 24)).alloc (.cells #[.bool b2, .slice p2 ys.length c2] 24)) := (((Bx.start w).box (w.heap.size) (.bool b1) (.slice p1 xs.length c1) 24 (by simp)).box (w.heap.size + 1) (.bool b2) (.slice p2 ys.length c2) 24 (by simp))
    clear hx ax hy ay
    go_enter Try.func8, Try.ntmps8
    obtain ⟨e0, e1, e2, e3, e4, e5, e6, e7, G⟩ := id S
    go_wp2_with fail
    clear e0 e1 e2 e3 e4 e5 e6 e7 G
    refine (Of_l 8 (Hx.out.grown S.all (.inl rfl)) Ax.out (by omega)).mono ?_
    rintro e w1 ⟨pA, nA, cA, ux, rfl, hs, hd, g⟩
    replace hs := hs.grown g (.inl rfl)
    replace S := S.step _ g
    clear g
    obtain ⟨zx, hzx⟩ : ∃ z, sg b1 (val 4294967296 (xs.take 8)) = z := ⟨_, rfl⟩
    rw [hzx] at hd
    have bdx := hd.bd
    obtain ⟨px, cx, rfl, -⟩ := id hd
    have VA := Lib.hid (show IntV _ (.agg #[.bool b1, .slice pA nA cA]) zx 8 from ⟨_, _, _, rfl, Num.row hs (Ax.out.take 8) 8 (by rw [List.length_take]; omega), hzx.symm⟩)
    have Dx := Lib.hid (hd)
    clear hs hd hzx
    have z1_0 := S.lt (g := w.heap.size + 1) (x := .bool b2) (y := .slice p2 ys.length c2) (by simp)
    have z1_1 := S.lt (g := w.heap.size) (x := .bool b1) (y := .slice p1 xs.length c1) (by simp)
    obtain ⟨e0, e1, e2, e3, e4, e5, e6, e7, G⟩ := id S
    have K : Kp w1 (((w1.setCell ⟨w.heap.size, 0, none⟩ (.bool b1)).setCell ⟨w.heap.size, 1, none⟩ (.slice pA nA cA)).alloc (.cells #[.slice px (dig 10000 (zx).natAbs).length cx, .bool (decide (zx < 0))] 28)) := (S.kp (g := w.heap.size) (x := .bool b1) (y := .slice p1 xs.length c1) (.bool b1) (.slice pA nA cA) (by simp) (by simp) (by simp)).trans (Kp.of (grown_alloc _ _ _))
    have S2 : Bx w [(w.heap.size, .bool b1, .slice pA nA cA), (w.heap.size + 1, .bool b2, .slice p2 ys.length c2)] ((w1.setCell ⟨w.heap.size, 0, none⟩ (.bool b1)).setCell ⟨w.heap.size, 1, none⟩ (.slice pA nA cA)) := S.put (g := w.heap.size) (u := .bool b1) (v := .slice pA nA cA) (x := .bool b1) (y := .slice p1 xs.length c1) (bs' := [(w.heap.size + 1, .bool b2, .slice p2 ys.length c2)]) (by simp) (by simp <;> omega) (by simp <;> omega) (by omega)
    replace S : Bx w [(w1.heap.size, .slice px (dig 10000 (zx).natAbs).length cx, .bool (decide (zx < 0))), (w.heap.size, .bool b1, .slice pA nA cA), (w.heap.size + 1, .bool b2, .slice p2 ys.length c2)] (((w1.setCell ⟨w.heap.size, 0, none⟩ (.bool b1)).setCell ⟨w.heap.size, 1, none⟩ (.slice pA nA cA)).alloc (.cells #[.slice px (dig 10000 (zx).natAbs).length cx, .bool (decide (zx < 0))] 28)) := S2.box (w1.heap.size) (.slice px (dig 10000 (zx).natAbs).length cx) (.bool (decide (zx < 0))) 28 (by simp)
    replace VA := Lib.hid (VA.out.kp K)
    replace Dx := Lib.hid (Dx.out.kp K)
    go_wp2_with fail
    clear K S2 e0 e1 e2 e3 e4 e5 e6 e7 G
    generalize (((w1.setCell ⟨w.heap.size, 0, none⟩ (.bool b1)).setCell ⟨w.heap.size, 1, none⟩ (.slice pA nA cA)).alloc (.cells #[.slice px (dig 10000 (zx).natAbs).length cx, .bool (decide (zx < 0))] 28)) = W1 at *
    refine (Of_l 6 (Hy.out.grown S.all (.inl rfl)) Ay.out (by omega)).mono ?_
    rintro e w2 ⟨pB, nB, cB, uy, rfl, hs, hd, g⟩
    replace hs := hs.grown g (.inl rfl)
    replace VA := Lib.hid (VA.out.kp (Kp.of g))
    replace Dx := Lib.hid (Dx.out.kp (Kp.of g))
    replace S := S.step _ g
    clear g
    obtain ⟨zy, hzy⟩ : ∃ z, sg b2 (val 4294967296 (ys.take 6)) = z := ⟨_, rfl⟩
    rw [hzy] at hd
    have bdy := hd.bd
    obtain ⟨py, cy, rfl, -⟩ := id hd
    have VB := Lib.hid (show IntV _ (.agg #[.bool b2, .slice pB nB cB]) zy 6 from ⟨_, _, _, rfl, Num.row hs (Ay.out.take 6) 6 (by rw [List.length_take]; omega), hzy.symm⟩)
    have Dy := Lib.hid (hd)
    clear hs hd hzy
    have z2_0 := S.lt (g := w1.heap.size) (x := .slice px (dig 10000 (zx).natAbs).length cx) (y := .bool (decide (zx < 0))) (by simp)
    have z2_1 := S.lt (g := w.heap.size) (x := .bool b1) (y := .slice pA nA cA) (by simp)
    have z2_2 := S.lt (g := w.heap.size + 1) (x := .bool b2) (y := .slice p2 ys.length c2) (by simp)
    obtain ⟨e0, e1, e2, e3, e4, e5, e6, e7, e8, e9, e10, e11, G⟩ := id S
    have K : Kp w2 (((w2.setCell ⟨w.heap.size + 1, 0, none⟩ (.bool b2)).setCell ⟨w.heap.size + 1, 1, none⟩ (.slice pB nB cB)).alloc (.cells #[.slice py (dig 10000 (zy).natAbs).length cy, .bool (decide (zy < 0))] 28)) := (S.kp (g := w.heap.size + 1) (x := .bool b2) (y := .slice p2 ys.length c2) (.bool b2) (.slice pB nB cB) (by simp) (by simp) (by simp)).trans (Kp.of (grown_alloc _ _ _))
    have S2 : Bx w [(w.heap.size + 1, .bool b2, .slice pB nB cB), (w1.heap.size, .slice px (dig 10000 (zx).natAbs).length cx, .bool (decide (zx < 0))), (w.heap.size, .bool b1, .slice pA nA cA)] ((w2.setCell ⟨w.heap.size + 1, 0, none⟩ (.bool b2)).setCell ⟨w.heap.size + 1, 1, none⟩ (.slice pB nB cB)) := S.put (g := w.heap.size + 1) (u := .bool b2) (v := .slice pB nB cB) (x := .bool b2) (y := .slice p2 ys.length c2) (bs' := [(w1.heap.size, .slice px (dig 10000 (zx).natAbs).length cx, .bool (decide (zx < 0))), (w.heap.size, .bool b1, .slice pA nA cA)]) (by simp) (by simp <;> omega) (by simp <;> omega) (by omega)
    replace S : Bx w [(w2.heap.size, .slice py (dig 10000 (zy).natAbs).length cy, .bool (decide (zy < 0))), (w.heap.size + 1, .bool b2, .slice pB nB cB), (w1.heap.size, .slice px (dig 10000 (zx).natAbs).length cx, .bool (decide (zx < 0))), (w.heap.size, .bool b1, .slice pA nA cA)] (((w2.setCell ⟨w.heap.size + 1, 0, none⟩ (.bool b2)).setCell ⟨w.heap.size + 1, 1, none⟩ (.slice pB nB cB)).alloc (.cells #[.slice py (dig 10000 (zy).natAbs).length cy, .bool (decide (zy < 0))] 28)) := S2.box (w2.heap.size) (.slice py (dig 10000 (zy).natAbs).length cy) (.bool (decide (zy < 0))) 28 (by simp)
    replace VA := Lib.hid (VA.out.kp K)
    replace Dx := Lib.hid (Dx.out.kp K)
    replace VB := Lib.hid (VB.out.kp K)
    replace Dy := Lib.hid (Dy.out.kp K)
    go_wp2_with fail
    clear K S2 e0 e1 e2 e3 e4 e5 e6 e7 e8 e9 e10 e11 G
    generalize (((w2.setCell ⟨w.heap.size + 1, 0, none⟩ (.bool b2)).setCell ⟨w.heap.size + 1, 1, none⟩ (.slice pB nB cB)).alloc (.cells #[.slice py (dig 10000 (zy).natAbs).length cy, .bool (decide (zy < 0))] 28)) = W2 at *
    obtain ⟨zm, ezm⟩ : ∃ t, t = zx := ⟨_, rfl⟩
    have Vm := Lib.hid (show IntV _ _ zm 14 from ezm ▸ (IntV.more VA.out (by omega)))
    have Dm := Lib.hid (show DecI _ _ zm 14 from ezm ▸ (DecI.more Dx.out (by omega)))
    subst ezm
    have bdm := bdx
    clear VA Dx
    by_cases hz : zy = 0
    · have Hz := Lib.hid hz
      clear hz
      refine (Exact_zero Vm.out VB.out (by omega) Hz.out).mono ?_
      rintro e w3 ⟨rfl, g⟩
      replace VB := Lib.hid (VB.out.kp (Kp.of g))
      replace Dy := Lib.hid (Dy.out.kp (Kp.of g))
      replace Vm := Lib.hid (Vm.out.kp (Kp.of g))
      replace Dm := Lib.hid (Dm.out.kp (Kp.of g))
      replace S := S.step _ g
      clear g
      unfold ZI
      replace VB := Lib.hid (VB.out.kp (Kp.of (grown_alloc _ (.cells #[.bool false, .slice none 0 0] 24) none)))
      replace Dy := Lib.hid (Dy.out.kp (Kp.of (grown_alloc _ (.cells #[.bool false, .slice none 0 0] 24) none)))
      replace Vm := Lib.hid (Vm.out.kp (Kp.of (grown_alloc _ (.cells #[.bool false, .slice none 0 0] 24) none)))
      replace Dm := Lib.hid (Dm.out.kp (Kp.of (grown_alloc _ (.cells #[.bool false, .slice none 0 0] 24) none)))
      replace S := S.box (w3.heap.size) (.bool false) (.slice none 0 0) 24 (by simp)
      obtain ⟨e0, e1, e2, e3, e4, e5, e6, e7, e8, e9, e10, e11, e12, e13, e14, e15, e16, e17, e18, e19, G⟩ := id S
      go_wp2_with fail
      clear e0 e1 e2 e3 e4 e5 e6 e7 e8 e9 e10 e11 e12 e13 e14 e15 e16 e17 e18 e19 G
      refine (Zero_r Dy.out).mono ?_
      rintro e w4 ⟨rfl, g⟩
      replace VB := Lib.hid (VB.out.kp (Kp.of g))
      replace Dy := Lib.hid (Dy.out.kp (Kp.of g))
      replace Vm := Lib.hid (Vm.out.kp (Kp.of g))
      replace Dm := Lib.hid (Dm.out.kp (Kp.of g))
      replace S := S.step _ g
      clear g
      rw [decide_eq_true Hz.out]
      obtain ⟨e0, e1, e2, e3, e4, e5, e6, e7, e8, e9, e10, e11, e12, e13, e14, e15, e16, e17, e18, e19, G⟩ := id S
      go_wp2_with fail
      clear e0 e1 e2 e3 e4 e5 e6 e7 e8 e9 e10 e11 e12 e13 e14 e15 e16 e17 e18 e19 G
      refine (Zero_nil).mono ?_
      rintro e w5 ⟨rfl, g⟩
      replace VB := Lib.hid (VB.out.kp (Kp.of g))
      replace Dy := Lib.hid (Dy.out.kp (Kp.of g))
      replace Vm := Lib.hid (Vm.out.kp (Kp.of g))
      replace Dm := Lib.hid (Dm.out.kp (Kp.of g))
      replace S := S.step _ g
      clear g
      obtain ⟨e0, e1, e2, e3, e4, e5, e6, e7, e8, e9, e10, e11, e12, e13, e14, e15, e16, e17, e18, e19, G⟩ := id S
      go_wp2_with fail
      clear e0 e1 e2 e3 e4 e5 e6 e7 e8 e9 e10 e11 e12 e13 e14 e15 e16 e17 e18 e19 G
      refine (wakes_true _).mono ?_
      rintro e w6 ⟨rfl, g⟩
      replace VB := Lib.hid (VB.out.kp (Kp.of g))
      replace Dy := Lib.hid (Dy.out.kp (Kp.of g))
      replace Vm := Lib.hid (Vm.out.kp (Kp.of g))
      replace Dm := Lib.hid (Dm.out.kp (Kp.of g))
      replace S := S.step _ g
      clear g
      go_wp2_with fail
      go_ret
      exact ⟨rfl, S.all⟩
    · have Hz := Lib.hid hz
      clear hz
      by_cases hm : zm % zy = 0
      · have Hm := Lib.hid hm
        clear hm
        obtain ⟨zq, ezq⟩ : ∃ t, zm / zy = t := ⟨_, rfl⟩
        obtain ⟨zr, ezr⟩ : ∃ t, zm % zy = t := ⟨_, rfl⟩
        have Eq := Lib.hid ezq
        have Er := Lib.hid ezr
        clear ezq ezr
        refine (Exact_even Vm.out VB.out (by omega) ⟨Hz.out, Hm.out⟩).mono ?_
        rintro e w3 ⟨v, rfl, hq, bq, g⟩
        replace VB := Lib.hid (VB.out.kp (Kp.of g))
        replace Dy := Lib.hid (Dy.out.kp (Kp.of g))
        replace Vm := Lib.hid (Vm.out.kp (Kp.of g))
        replace Dm := Lib.hid (Dm.out.kp (Kp.of g))
        replace S := S.step _ g
        clear g
        rw [Eq.out] at hq bq
        obtain ⟨pq, cq, rfl, hq2⟩ := id hq
        have Nq := Lib.hid (hq.nor)
        clear hq hq2 bq
        replace VB := Lib.hid (VB.out.kp (Kp.of (grown_alloc _ (.cells #[.bool (decide (zq < 0)), .slice pq (dig 4294967296 (zq).natAbs).length cq] 24) none)))
        replace Dy := Lib.hid (Dy.out.kp (Kp.of (grown_alloc _ (.cells #[.bool (decide (zq < 0)), .slice pq (dig 4294967296 (zq).natAbs).length cq] 24) none)))
        replace Vm := Lib.hid (Vm.out.kp (Kp.of (grown_alloc _ (.cells #[.bool (decide (zq < 0)), .slice pq (dig 4294967296 (zq).natAbs).length cq] 24) none)))
        replace Dm := Lib.hid (Dm.out.kp (Kp.of (grown_alloc _ (.cells #[.bool (decide (zq < 0)), .slice pq (dig 4294967296 (zq).natAbs).length cq] 24) none)))
        replace Nq := Lib.hid (Nq.out.kp (Kp.of (grown_alloc _ (.cells #[.bool (decide (zq < 0)), .slice pq (dig 4294967296 (zq).natAbs).length cq] 24) none)))
        replace S := S.box (w3.heap.size) (.bool (decide (zq < 0))) (.slice pq (dig 4294967296 (zq).natAbs).length cq) 24 (by simp)
        obtain ⟨e0, e1, e2, e3, e4, e5, e6, e7, e8, e9, e10, e11, e12, e13, e14, e15, e16, e17, e18, e19, G⟩ := id S
        go_wp2_with fail
        clear e0 e1 e2 e3 e4 e5 e6 e7 e8 e9 e10 e11 e12 e13 e14 e15 e16 e17 e18 e19 G
        refine (Zero_r Dy.out).mono ?_
        rintro e w4 ⟨rfl, g⟩
        replace VB := Lib.hid (VB.out.kp (Kp.of g))
        replace Dy := Lib.hid (Dy.out.kp (Kp.of g))
        replace Vm := Lib.hid (Vm.out.kp (Kp.of g))
        replace Dm := Lib.hid (Dm.out.kp (Kp.of g))
        replace Nq := Lib.hid (Nq.out.kp (Kp.of g))
        replace S := S.step _ g
        clear g
        rw [decide_eq_false Hz.out]
        obtain ⟨e0, e1, e2, e3, e4, e5, e6, e7, e8, e9, e10, e11, e12, e13, e14, e15, e16, e17, e18, e19, G⟩ := id S
        go_wp2_with fail
        clear e0 e1 e2 e3 e4 e5 e6 e7 e8 e9 e10 e11 e12 e13 e14 e15 e16 e17 e18 e19 G
        refine (DivMod_r Dm.out Dy.out (by omega) Hz.out).mono ?_
        rintro e w5 ⟨v, u, rfl, dq, dr, g⟩
        replace VB := Lib.hid (VB.out.kp (Kp.of g))
        replace Dy := Lib.hid (Dy.out.kp (Kp.of g))
        replace Vm := Lib.hid (Vm.out.kp (Kp.of g))
        replace Dm := Lib.hid (Dm.out.kp (Kp.of g))
        replace Nq := Lib.hid (Nq.out.kp (Kp.of g))
        replace S := S.step _ g
        clear g
        rw [Eq.out] at dq
        rw [Er.out] at dr
        obtain ⟨ps, cs, rfl, dq2⟩ := id dq
        obtain ⟨pt, ct, rfl, dr2⟩ := id dr
        have Dq := Lib.hid (dq)
        have Dr := Lib.hid (dr)
        clear dq dr dq2 dr2
        replace VB := Lib.hid (VB.out.kp (Kp.of (grown_alloc _ (.cells #[.slice ps (dig 10000 (zq).natAbs).length cs, .bool (decide (zq < 0))] 28) none)))
        replace Dy := Lib.hid (Dy.out.kp (Kp.of (grown_alloc _ (.cells #[.slice ps (dig 10000 (zq).natAbs).length cs, .bool (decide (zq < 0))] 28) none)))
        replace Vm := Lib.hid (Vm.out.kp (Kp.of (grown_alloc _ (.cells #[.slice ps (dig 10000 (zq).natAbs).length cs, .bool (decide (zq < 0))] 28) none)))
        replace Dm := Lib.hid (Dm.out.kp (Kp.of (grown_alloc _ (.cells #[.slice ps (dig 10000 (zq).natAbs).length cs, .bool (decide (zq < 0))] 28) none)))
        replace Nq := Lib.hid (Nq.out.kp (Kp.of (grown_alloc _ (.cells #[.slice ps (dig 10000 (zq).natAbs).length cs, .bool (decide (zq < 0))] 28) none)))
        replace Dq := Lib.hid (Dq.out.kp (Kp.of (grown_alloc _ (.cells #[.slice ps (dig 10000 (zq).natAbs).length cs, .bool (decide (zq < 0))] 28) none)))
        replace Dr := Lib.hid (Dr.out.kp (Kp.of (grown_alloc _ (.cells #[.slice ps (dig 10000 (zq).natAbs).length cs, .bool (decide (zq < 0))] 28) none)))
        replace S := S.box (w5.heap.size) (.slice ps (dig 10000 (zq).natAbs).length cs) (.bool (decide (zq < 0))) 28 (by simp)
        replace VB := Lib.hid (VB.out.kp (Kp.of (grown_alloc _ (.cells #[.slice pt (dig 10000 (zr).natAbs).length ct, .bool (decide (zr < 0))] 28) none)))
        replace Dy := Lib.hid (Dy.out.kp (Kp.of (grown_alloc _ (.cells #[.slice pt (dig 10000 (zr).natAbs).length ct, .bool (decide (zr < 0))] 28) none)))
        replace Vm := Lib.hid (Vm.out.kp (Kp.of (grown_alloc _ (.cells #[.slice pt (dig 10000 (zr).natAbs).length ct, .bool (decide (zr < 0))] 28) none)))
        replace Dm := Lib.hid (Dm.out.kp (Kp.of (grown_alloc _ (.cells #[.slice pt (dig 10000 (zr).natAbs).length ct, .bool (decide (zr < 0))] 28) none)))
        replace Nq := Lib.hid (Nq.out.kp (Kp.of (grown_alloc _ (.cells #[.slice pt (dig 10000 (zr).natAbs).length ct, .bool (decide (zr < 0))] 28) none)))
        replace Dq := Lib.hid (Dq.out.kp (Kp.of (grown_alloc _ (.cells #[.slice pt (dig 10000 (zr).natAbs).length ct, .bool (decide (zr < 0))] 28) none)))
        replace Dr := Lib.hid (Dr.out.kp (Kp.of (grown_alloc _ (.cells #[.slice pt (dig 10000 (zr).natAbs).length ct, .bool (decide (zr < 0))] 28) none)))
        replace S := S.box (w5.heap.size + 1) (.slice pt (dig 10000 (zr).natAbs).length ct) (.bool (decide (zr < 0))) 28 (by simp)
        obtain ⟨e0, e1, e2, e3, e4, e5, e6, e7, e8, e9, e10, e11, e12, e13, e14, e15, e16, e17, e18, e19, e20, e21, e22, e23, e24, e25, e26, e27, G⟩ := id S
        go_wp2_with fail
        clear e0 e1 e2 e3 e4 e5 e6 e7 e8 e9 e10 e11 e12 e13 e14 e15 e16 e17 e18 e19 e20 e21 e22 e23 e24 e25 e26 e27 G
        refine (Zero_r Dr.out).mono ?_
        rintro e w6 ⟨rfl, g⟩
        replace VB := Lib.hid (VB.out.kp (Kp.of g))
        replace Dy := Lib.hid (Dy.out.kp (Kp.of g))
        replace Vm := Lib.hid (Vm.out.kp (Kp.of g))
        replace Dm := Lib.hid (Dm.out.kp (Kp.of g))
        replace Nq := Lib.hid (Nq.out.kp (Kp.of g))
        replace Dq := Lib.hid (Dq.out.kp (Kp.of g))
        replace Dr := Lib.hid (Dr.out.kp (Kp.of g))
        replace S := S.step _ g
        clear g
        rw [decide_eq_true (Er.out.symm.trans Hm.out)]
        obtain ⟨e0, e1, e2, e3, e4, e5, e6, e7, e8, e9, e10, e11, e12, e13, e14, e15, e16, e17, e18, e19, e20, e21, e22, e23, e24, e25, e26, e27, G⟩ := id S
        go_wp2_with fail
        clear e0 e1 e2 e3 e4 e5 e6 e7 e8 e9 e10 e11 e12 e13 e14 e15 e16 e17 e18 e19 e20 e21 e22 e23 e24 e25 e26 e27 G
        refine (Is_l Dq.out (by omega) Nq.out).mono ?_
        rintro e w7 ⟨rfl, g⟩
        replace VB := Lib.hid (VB.out.kp (Kp.of g))
        replace Dy := Lib.hid (Dy.out.kp (Kp.of g))
        replace Vm := Lib.hid (Vm.out.kp (Kp.of g))
        replace Dm := Lib.hid (Dm.out.kp (Kp.of g))
        replace Nq := Lib.hid (Nq.out.kp (Kp.of g))
        replace Dq := Lib.hid (Dq.out.kp (Kp.of g))
        replace Dr := Lib.hid (Dr.out.kp (Kp.of g))
        replace S := S.step _ g
        clear g
        obtain ⟨e0, e1, e2, e3, e4, e5, e6, e7, e8, e9, e10, e11, e12, e13, e14, e15, e16, e17, e18, e19, e20, e21, e22, e23, e24, e25, e26, e27, G⟩ := id S
        go_wp2_with fail
        clear e0 e1 e2 e3 e4 e5 e6 e7 e8 e9 e10 e11 e12 e13 e14 e15 e16 e17 e18 e19 e20 e21 e22 e23 e24 e25 e26 e27 G
        refine (wakes_true _).mono ?_
        rintro e w8 ⟨rfl, g⟩
        replace VB := Lib.hid (VB.out.kp (Kp.of g))
        replace Dy := Lib.hid (Dy.out.kp (Kp.of g))
        replace Vm := Lib.hid (Vm.out.kp (Kp.of g))
        replace Dm := Lib.hid (Dm.out.kp (Kp.of g))
        replace Nq := Lib.hid (Nq.out.kp (Kp.of g))
        replace Dq := Lib.hid (Dq.out.kp (Kp.of g))
        replace Dr := Lib.hid (Dr.out.kp (Kp.of g))
        replace S := S.step _ g
        clear g
        go_wp2_with fail
        go_ret
        exact ⟨rfl, S.all⟩
      · have Hm := Lib.hid hm
        clear hm
        obtain ⟨zq, ezq⟩ : ∃ t, zm / zy = t := ⟨_, rfl⟩
        obtain ⟨zr, ezr⟩ : ∃ t, zm % zy = t := ⟨_, rfl⟩
        have Eq := Lib.hid ezq
        have Er := Lib.hid ezr
        clear ezq ezr
        refine (Exact_odd Vm.out VB.out (by omega) ⟨Hz.out, Hm.out⟩).mono ?_
        rintro e w3 ⟨rfl, g⟩
        replace VB := Lib.hid (VB.out.kp (Kp.of g))
        replace Dy := Lib.hid (Dy.out.kp (Kp.of g))
        replace Vm := Lib.hid (Vm.out.kp (Kp.of g))
        replace Dm := Lib.hid (Dm.out.kp (Kp.of g))
        replace S := S.step _ g
        clear g
        unfold ZI
        replace VB := Lib.hid (VB.out.kp (Kp.of (grown_alloc _ (.cells #[.bool false, .slice none 0 0] 24) none)))
        replace Dy := Lib.hid (Dy.out.kp (Kp.of (grown_alloc _ (.cells #[.bool false, .slice none 0 0] 24) none)))
        replace Vm := Lib.hid (Vm.out.kp (Kp.of (grown_alloc _ (.cells #[.bool false, .slice none 0 0] 24) none)))
        replace Dm := Lib.hid (Dm.out.kp (Kp.of (grown_alloc _ (.cells #[.bool false, .slice none 0 0] 24) none)))
        replace S := S.box (w3.heap.size) (.bool false) (.slice none 0 0) 24 (by simp)
        obtain ⟨e0, e1, e2, e3, e4, e5, e6, e7, e8, e9, e10, e11, e12, e13, e14, e15, e16, e17, e18, e19, G⟩ := id S
        go_wp2_with fail
        clear e0 e1 e2 e3 e4 e5 e6 e7 e8 e9 e10 e11 e12 e13 e14 e15 e16 e17 e18 e19 G
        refine (Zero_r Dy.out).mono ?_
        rintro e w4 ⟨rfl, g⟩
        replace VB := Lib.hid (VB.out.kp (Kp.of g))
        replace Dy := Lib.hid (Dy.out.kp (Kp.of g))
        replace Vm := Lib.hid (Vm.out.kp (Kp.of g))
        replace Dm := Lib.hid (Dm.out.kp (Kp.of g))
        replace S := S.step _ g
        clear g
        rw [decide_eq_false Hz.out]
        obtain ⟨e0, e1, e2, e3, e4, e5, e6, e7, e8, e9, e10, e11, e12, e13, e14, e15, e16, e17, e18, e19, G⟩ := id S
        go_wp2_with fail
        clear e0 e1 e2 e3 e4 e5 e6 e7 e8 e9 e10 e11 e12 e13 e14 e15 e16 e17 e18 e19 G
        refine (DivMod_r Dm.out Dy.out (by omega) Hz.out).mono ?_
        rintro e w5 ⟨v, u, rfl, dq, dr, g⟩
        replace VB := Lib.hid (VB.out.kp (Kp.of g))
        replace Dy := Lib.hid (Dy.out.kp (Kp.of g))
        replace Vm := Lib.hid (Vm.out.kp (Kp.of g))
        replace Dm := Lib.hid (Dm.out.kp (Kp.of g))
        replace S := S.step _ g
        clear g
        rw [Eq.out] at dq
        rw [Er.out] at dr
        obtain ⟨ps, cs, rfl, dq2⟩ := id dq
        obtain ⟨pt, ct, rfl, dr2⟩ := id dr
        have Dq := Lib.hid (dq)
        have Dr := Lib.hid (dr)
        clear dq dr dq2 dr2
        replace VB := Lib.hid (VB.out.kp (Kp.of (grown_alloc _ (.cells #[.slice ps (dig 10000 (zq).natAbs).length cs, .bool (decide (zq < 0))] 28) none)))
        replace Dy := Lib.hid (Dy.out.kp (Kp.of (grown_alloc _ (.cells #[.slice ps (dig 10000 (zq).natAbs).length cs, .bool (decide (zq < 0))] 28) none)))
        replace Vm := Lib.hid (Vm.out.kp (Kp.of (grown_alloc _ (.cells #[.slice ps (dig 10000 (zq).natAbs).length cs, .bool (decide (zq < 0))] 28) none)))
        replace Dm := Lib.hid (Dm.out.kp (Kp.of (grown_alloc _ (.cells #[.slice ps (dig 10000 (zq).natAbs).length cs, .bool (decide (zq < 0))] 28) none)))
        replace Dq := Lib.hid (Dq.out.kp (Kp.of (grown_alloc _ (.cells #[.slice ps (dig 10000 (zq).natAbs).length cs, .bool (decide (zq < 0))] 28) none)))
        replace Dr := Lib.hid (Dr.out.kp (Kp.of (grown_alloc _ (.cells #[.slice ps (dig 10000 (zq).natAbs).length cs, .bool (decide (zq < 0))] 28) none)))
        replace S := S.box (w5.heap.size) (.slice ps (dig 10000 (zq).natAbs).length cs) (.bool (decide (zq < 0))) 28 (by simp)
        replace VB := Lib.hid (VB.out.kp (Kp.of (grown_alloc _ (.cells #[.slice pt (dig 10000 (zr).natAbs).length ct, .bool (decide (zr < 0))] 28) none)))
        replace Dy := Lib.hid (Dy.out.kp (Kp.of (grown_alloc _ (.cells #[.slice pt (dig 10000 (zr).natAbs).length ct, .bool (decide (zr < 0))] 28) none)))
        replace Vm := Lib.hid (Vm.out.kp (Kp.of (grown_alloc _ (.cells #[.slice pt (dig 10000 (zr).natAbs).length ct, .bool (decide (zr < 0))] 28) none)))
        replace Dm := Lib.hid (Dm.out.kp (Kp.of (grown_alloc _ (.cells #[.slice pt (dig 10000 (zr).natAbs).length ct, .bool (decide (zr < 0))] 28) none)))
        replace Dq := Lib.hid (Dq.out.kp (Kp.of (grown_alloc _ (.cells #[.slice pt (dig 10000 (zr).natAbs).length ct, .bool (decide (zr < 0))] 28) none)))
        replace Dr := Lib.hid (Dr.out.kp (Kp.of (grown_alloc _ (.cells #[.slice pt (dig 10000 (zr).natAbs).length ct, .bool (decide (zr < 0))] 28) none)))
        replace S := S.box (w5.heap.size + 1) (.slice pt (dig 10000 (zr).natAbs).length ct) (.bool (decide (zr < 0))) 28 (by simp)
        obtain ⟨e0, e1, e2, e3, e4, e5, e6, e7, e8, e9, e10, e11, e12, e13, e14, e15, e16, e17, e18, e19, e20, e21, e22, e23, e24, e25, e26, e27, G⟩ := id S
        go_wp2_with fail
        clear e0 e1 e2 e3 e4 e5 e6 e7 e8 e9 e10 e11 e12 e13 e14 e15 e16 e17 e18 e19 e20 e21 e22 e23 e24 e25 e26 e27 G
        refine (Zero_r Dr.out).mono ?_
        rintro e w6 ⟨rfl, g⟩
        replace VB := Lib.hid (VB.out.kp (Kp.of g))
        replace Dy := Lib.hid (Dy.out.kp (Kp.of g))
        replace Vm := Lib.hid (Vm.out.kp (Kp.of g))
        replace Dm := Lib.hid (Dm.out.kp (Kp.of g))
        replace Dq := Lib.hid (Dq.out.kp (Kp.of g))
        replace Dr := Lib.hid (Dr.out.kp (Kp.of g))
        replace S := S.step _ g
        clear g
        rw [decide_eq_false (fun e => Hm.out (Er.out.trans e))]
        obtain ⟨e0, e1, e2, e3, e4, e5, e6, e7, e8, e9, e10, e11, e12, e13, e14, e15, e16, e17, e18, e19, e20, e21, e22, e23, e24, e25, e26, e27, G⟩ := id S
        go_wp2_with fail
        clear e0 e1 e2 e3 e4 e5 e6 e7 e8 e9 e10 e11 e12 e13 e14 e15 e16 e17 e18 e19 e20 e21 e22 e23 e24 e25 e26 e27 G
        refine (Zero_nil).mono ?_
        rintro e w7 ⟨rfl, g⟩
        replace VB := Lib.hid (VB.out.kp (Kp.of g))
        replace Dy := Lib.hid (Dy.out.kp (Kp.of g))
        replace Vm := Lib.hid (Vm.out.kp (Kp.of g))
        replace Dm := Lib.hid (Dm.out.kp (Kp.of g))
        replace Dq := Lib.hid (Dq.out.kp (Kp.of g))
        replace Dr := Lib.hid (Dr.out.kp (Kp.of g))
        replace S := S.step _ g
        clear g
        obtain ⟨e0, e1, e2, e3, e4, e5, e6, e7, e8, e9, e10, e11, e12, e13, e14, e15, e16, e17, e18, e19, e20, e21, e22, e23, e24, e25, e26, e27, G⟩ := id S
        go_wp2_with fail
        clear e0 e1 e2 e3 e4 e5 e6 e7 e8 e9 e10 e11 e12 e13 e14 e15 e16 e17 e18 e19 e20 e21 e22 e23 e24 e25 e26 e27 G
        refine (wakes_true _).mono ?_
        rintro e w8 ⟨rfl, g⟩
        replace VB := Lib.hid (VB.out.kp (Kp.of g))
        replace Dy := Lib.hid (Dy.out.kp (Kp.of g))
        replace Vm := Lib.hid (Vm.out.kp (Kp.of g))
        replace Dm := Lib.hid (Dm.out.kp (Kp.of g))
        replace Dq := Lib.hid (Dq.out.kp (Kp.of g))
        replace Dr := Lib.hid (Dr.out.kp (Kp.of g))
        replace S := S.step _ g
        clear g
        go_wp2_with fail
        go_ret
        exact ⟨rfl, S.all⟩
  · have S : Bx w [(w.heap.size + 1, .bool b2, .slice p2 ys.length c2), (w.heap.size, .bool b1, .slice p1 xs.length c1)] ((w.alloc (.cells #[.bool b1, .slice p1 xs.length c1] 24)).alloc (.cells #[.bool b2, .slice p2 ys.length c2] 24)) := (((Bx.start w).box (w.heap.size) (.bool b1) (.slice p1 xs.length c1) 24 (by simp)).box (w.heap.size + 1) (.bool b2) (.slice p2 ys.length c2) 24 (by simp))
    clear hx ax hy ay
    go_enter Try.func8, Try.ntmps8
    obtain ⟨e0, e1, e2, e3, e4, e5, e6, e7, G⟩ := id S
    go_wp2_with fail
    clear e0 e1 e2 e3 e4 e5 e6 e7 G
    refine (Of_l 8 (Hx.out.grown S.all (.inl rfl)) Ax.out (by omega)).mono ?_
    rintro e w1 ⟨pA, nA, cA, ux, rfl, hs, hd, g⟩
    replace hs := hs.grown g (.inl rfl)
    replace S := S.step _ g
    clear g
    obtain ⟨zx, hzx⟩ : ∃ z, sg b1 (val 4294967296 (xs.take 8)) = z := ⟨_, rfl⟩
    rw [hzx] at hd
    have bdx := hd.bd
    obtain ⟨px, cx, rfl, -⟩ := id hd
    have VA := Lib.hid (show IntV _ (.agg #[.bool b1, .slice pA nA cA]) zx 8 from ⟨_, _, _, rfl, Num.row hs (Ax.out.take 8) 8 (by rw [List.length_take]; omega), hzx.symm⟩)
    have Dx := Lib.hid (hd)
    clear hs hd hzx
    have z1_0 := S.lt (g := w.heap.size + 1) (x := .bool b2) (y := .slice p2 ys.length c2) (by simp)
    have z1_1 := S.lt (g := w.heap.size) (x := .bool b1) (y := .slice p1 xs.length c1) (by simp)
    obtain ⟨e0, e1, e2, e3, e4, e5, e6, e7, G⟩ := id S
    have K : Kp w1 (((w1.setCell ⟨w.heap.size, 0, none⟩ (.bool b1)).setCell ⟨w.heap.size, 1, none⟩ (.slice pA nA cA)).alloc (.cells #[.slice px (dig 10000 (zx).natAbs).length cx, .bool (decide (zx < 0))] 28)) := (S.kp (g := w.heap.size) (x := .bool b1) (y := .slice p1 xs.length c1) (.bool b1) (.slice pA nA cA) (by simp) (by simp) (by simp)).trans (Kp.of (grown_alloc _ _ _))
    have S2 : Bx w [(w.heap.size, .bool b1, .slice pA nA cA), (w.heap.size + 1, .bool b2, .slice p2 ys.length c2)] ((w1.setCell ⟨w.heap.size, 0, none⟩ (.bool b1)).setCell ⟨w.heap.size, 1, none⟩ (.slice pA nA cA)) := S.put (g := w.heap.size) (u := .bool b1) (v := .slice pA nA cA) (x := .bool b1) (y := .slice p1 xs.length c1) (bs' := [(w.heap.size + 1, .bool b2, .slice p2 ys.length c2)]) (by simp) (by simp <;> omega) (by simp <;> omega) (by omega)
    replace S : Bx w [(w1.heap.size, .slice px (dig 10000 (zx).natAbs).length cx, .bool (decide (zx < 0))), (w.heap.size, .bool b1, .slice pA nA cA), (w.heap.size + 1, .bool b2, .slice p2 ys.length c2)] (((w1.setCell ⟨w.heap.size, 0, none⟩ (.bool b1)).setCell ⟨w.heap.size, 1, none⟩ (.slice pA nA cA)).alloc (.cells #[.slice px (dig 10000 (zx).natAbs).length cx, .bool (decide (zx < 0))] 28)) := S2.box (w1.heap.size) (.slice px (dig 10000 (zx).natAbs).length cx) (.bool (decide (zx < 0))) 28 (by simp)
    replace VA := Lib.hid (VA.out.kp K)
    replace Dx := Lib.hid (Dx.out.kp K)
    go_wp2_with fail
    clear K S2 e0 e1 e2 e3 e4 e5 e6 e7 G
    generalize (((w1.setCell ⟨w.heap.size, 0, none⟩ (.bool b1)).setCell ⟨w.heap.size, 1, none⟩ (.slice pA nA cA)).alloc (.cells #[.slice px (dig 10000 (zx).natAbs).length cx, .bool (decide (zx < 0))] 28)) = W1 at *
    refine (Of_l 6 (Hy.out.grown S.all (.inl rfl)) Ay.out (by omega)).mono ?_
    rintro e w2 ⟨pB, nB, cB, uy, rfl, hs, hd, g⟩
    replace hs := hs.grown g (.inl rfl)
    replace VA := Lib.hid (VA.out.kp (Kp.of g))
    replace Dx := Lib.hid (Dx.out.kp (Kp.of g))
    replace S := S.step _ g
    clear g
    obtain ⟨zy, hzy⟩ : ∃ z, sg b2 (val 4294967296 (ys.take 6)) = z := ⟨_, rfl⟩
    rw [hzy] at hd
    have bdy := hd.bd
    obtain ⟨py, cy, rfl, -⟩ := id hd
    have VB := Lib.hid (show IntV _ (.agg #[.bool b2, .slice pB nB cB]) zy 6 from ⟨_, _, _, rfl, Num.row hs (Ay.out.take 6) 6 (by rw [List.length_take]; omega), hzy.symm⟩)
    have Dy := Lib.hid (hd)
    clear hs hd hzy
    have z2_0 := S.lt (g := w1.heap.size) (x := .slice px (dig 10000 (zx).natAbs).length cx) (y := .bool (decide (zx < 0))) (by simp)
    have z2_1 := S.lt (g := w.heap.size) (x := .bool b1) (y := .slice pA nA cA) (by simp)
    have z2_2 := S.lt (g := w.heap.size + 1) (x := .bool b2) (y := .slice p2 ys.length c2) (by simp)
    obtain ⟨e0, e1, e2, e3, e4, e5, e6, e7, e8, e9, e10, e11, G⟩ := id S
    have K : Kp w2 (((w2.setCell ⟨w.heap.size + 1, 0, none⟩ (.bool b2)).setCell ⟨w.heap.size + 1, 1, none⟩ (.slice pB nB cB)).alloc (.cells #[.slice py (dig 10000 (zy).natAbs).length cy, .bool (decide (zy < 0))] 28)) := (S.kp (g := w.heap.size + 1) (x := .bool b2) (y := .slice p2 ys.length c2) (.bool b2) (.slice pB nB cB) (by simp) (by simp) (by simp)).trans (Kp.of (grown_alloc _ _ _))
    have S2 : Bx w [(w.heap.size + 1, .bool b2, .slice pB nB cB), (w1.heap.size, .slice px (dig 10000 (zx).natAbs).length cx, .bool (decide (zx < 0))), (w.heap.size, .bool b1, .slice pA nA cA)] ((w2.setCell ⟨w.heap.size + 1, 0, none⟩ (.bool b2)).setCell ⟨w.heap.size + 1, 1, none⟩ (.slice pB nB cB)) := S.put (g := w.heap.size + 1) (u := .bool b2) (v := .slice pB nB cB) (x := .bool b2) (y := .slice p2 ys.length c2) (bs' := [(w1.heap.size, .slice px (dig 10000 (zx).natAbs).length cx, .bool (decide (zx < 0))), (w.heap.size, .bool b1, .slice pA nA cA)]) (by simp) (by simp <;> omega) (by simp <;> omega) (by omega)
    replace S : Bx w [(w2.heap.size, .slice py (dig 10000 (zy).natAbs).length cy, .bool (decide (zy < 0))), (w.heap.size + 1, .bool b2, .slice pB nB cB), (w1.heap.size, .slice px (dig 10000 (zx).natAbs).length cx, .bool (decide (zx < 0))), (w.heap.size, .bool b1, .slice pA nA cA)] (((w2.setCell ⟨w.heap.size + 1, 0, none⟩ (.bool b2)).setCell ⟨w.heap.size + 1, 1, none⟩ (.slice pB nB cB)).alloc (.cells #[.slice py (dig 10000 (zy).natAbs).length cy, .bool (decide (zy < 0))] 28)) := S2.box (w2.heap.size) (.slice py (dig 10000 (zy).natAbs).length cy) (.bool (decide (zy < 0))) 28 (by simp)
    replace VA := Lib.hid (VA.out.kp K)
    replace Dx := Lib.hid (Dx.out.kp K)
    replace VB := Lib.hid (VB.out.kp K)
    replace Dy := Lib.hid (Dy.out.kp K)
    go_wp2_with fail
    clear K S2 e0 e1 e2 e3 e4 e5 e6 e7 e8 e9 e10 e11 G
    generalize (((w2.setCell ⟨w.heap.size + 1, 0, none⟩ (.bool b2)).setCell ⟨w.heap.size + 1, 1, none⟩ (.slice pB nB cB)).alloc (.cells #[.slice py (dig 10000 (zy).natAbs).length cy, .bool (decide (zy < 0))] 28)) = W2 at *
    obtain ⟨zm, ezm⟩ : ∃ t, zx * zy = t := ⟨_, rfl⟩
    refine (Mul_r Dx.out Dy.out (by omega)).mono ?_
    rintro e w3 ⟨v, rfl, hm, bm, g⟩
    replace VA := Lib.hid (VA.out.kp (Kp.of g))
    replace Dx := Lib.hid (Dx.out.kp (Kp.of g))
    replace VB := Lib.hid (VB.out.kp (Kp.of g))
    replace Dy := Lib.hid (Dy.out.kp (Kp.of g))
    replace S := S.step _ g
    clear g
    rw [ezm] at hm bm
    obtain ⟨pm, cm, rfl, hm2⟩ := id hm
    have Dm := Lib.hid (hm.decI bm)
    clear hm hm2 ezm
    obtain ⟨e0, e1, e2, e3, e4, e5, e6, e7, e8, e9, e10, e11, e12, e13, e14, e15, G⟩ := id S
    have K : Kp w3 ((w3.setCell ⟨w1.heap.size, 0, none⟩ (.slice pm (dig 10000 (zm).natAbs).length cm)).setCell ⟨w1.heap.size, 1, none⟩ (.bool (decide (zm < 0)))) := S.kp (g := w1.heap.size) (x := .slice px (dig 10000 (zx).natAbs).length cx) (y := .bool (decide (zx < 0))) (.slice pm (dig 10000 (zm).natAbs).length cm) (.bool (decide (zm < 0))) (by simp) (by simp) (by simp)
    replace S : Bx w [(w1.heap.size, .slice pm (dig 10000 (zm).natAbs).length cm, .bool (decide (zm < 0))), (w2.heap.size, .slice py (dig 10000 (zy).natAbs).length cy, .bool (decide (zy < 0))), (w.heap.size + 1, .bool b2, .slice pB nB cB), (w.heap.size, .bool b1, .slice pA nA cA)] ((w3.setCell ⟨w1.heap.size, 0, none⟩ (.slice pm (dig 10000 (zm).natAbs).length cm)).setCell ⟨w1.heap.size, 1, none⟩ (.bool (decide (zm < 0)))) := S.put (g := w1.heap.size) (u := .slice pm (dig 10000 (zm).natAbs).length cm) (v := .bool (decide (zm < 0))) (x := .slice px (dig 10000 (zx).natAbs).length cx) (y := .bool (decide (zx < 0))) (bs' := [(w2.heap.size, .slice py (dig 10000 (zy).natAbs).length cy, .bool (decide (zy < 0))), (w.heap.size + 1, .bool b2, .slice pB nB cB), (w.heap.size, .bool b1, .slice pA nA cA)]) (by simp) (by simp <;> omega) (by simp <;> omega) (by omega)
    replace VA := Lib.hid (VA.out.kp K)
    replace Dx := Lib.hid (Dx.out.kp K)
    replace VB := Lib.hid (VB.out.kp K)
    replace Dy := Lib.hid (Dy.out.kp K)
    replace Dm := Lib.hid (Dm.out.kp K)
    go_wp2_with fail
    clear K e0 e1 e2 e3 e4 e5 e6 e7 e8 e9 e10 e11 e12 e13 e14 e15 G
    generalize ((w3.setCell ⟨w1.heap.size, 0, none⟩ (.slice pm (dig 10000 (zm).natAbs).length cm)).setCell ⟨w1.heap.size, 1, none⟩ (.bool (decide (zm < 0)))) = W4 at *
    refine (To_r Dm.out (by omega)).mono ?_
    rintro e w5 ⟨v, rfl, hm, bm2, g⟩
    replace VA := Lib.hid (VA.out.kp (Kp.of g))
    replace Dx := Lib.hid (Dx.out.kp (Kp.of g))
    replace VB := Lib.hid (VB.out.kp (Kp.of g))
    replace Dy := Lib.hid (Dy.out.kp (Kp.of g))
    replace Dm := Lib.hid (Dm.out.kp (Kp.of g))
    replace S := S.step _ g
    clear g
    obtain ⟨pn, cn, rfl, hm2⟩ := id hm
    have Vm := Lib.hid (hm.intV bm2)
    clear hm hm2 bm2
    obtain ⟨e0, e1, e2, e3, e4, e5, e6, e7, e8, e9, e10, e11, e12, e13, e14, e15, G⟩ := id S
    have K : Kp w5 ((w5.setCell ⟨w.heap.size, 0, none⟩ (.bool (decide (zm < 0)))).setCell ⟨w.heap.size, 1, none⟩ (.slice pn (dig 4294967296 (zm).natAbs).length cn)) := S.kp (g := w.heap.size) (x := .bool b1) (y := .slice pA nA cA) (.bool (decide (zm < 0))) (.slice pn (dig 4294967296 (zm).natAbs).length cn) (by simp) (by simp) (by simp)
    replace S : Bx w [(w.heap.size, .bool (decide (zm < 0)), .slice pn (dig 4294967296 (zm).natAbs).length cn), (w1.heap.size, .slice pm (dig 10000 (zm).natAbs).length cm, .bool (decide (zm < 0))), (w2.heap.size, .slice py (dig 10000 (zy).natAbs).length cy, .bool (decide (zy < 0))), (w.heap.size + 1, .bool b2, .slice pB nB cB)] ((w5.setCell ⟨w.heap.size, 0, none⟩ (.bool (decide (zm < 0)))).setCell ⟨w.heap.size, 1, none⟩ (.slice pn (dig 4294967296 (zm).natAbs).length cn)) := S.put (g := w.heap.size) (u := .bool (decide (zm < 0))) (v := .slice pn (dig 4294967296 (zm).natAbs).length cn) (x := .bool b1) (y := .slice pA nA cA) (bs' := [(w1.heap.size, .slice pm (dig 10000 (zm).natAbs).length cm, .bool (decide (zm < 0))), (w2.heap.size, .slice py (dig 10000 (zy).natAbs).length cy, .bool (decide (zy < 0))), (w.heap.size + 1, .bool b2, .slice pB nB cB)]) (by simp) (by simp <;> omega) (by simp <;> omega) (by omega)
    replace VA := Lib.hid (VA.out.kp K)
    replace Dx := Lib.hid (Dx.out.kp K)
    replace VB := Lib.hid (VB.out.kp K)
    replace Dy := Lib.hid (Dy.out.kp K)
    replace Dm := Lib.hid (Dm.out.kp K)
    replace Vm := Lib.hid (Vm.out.kp K)
    go_wp2_with fail
    clear K e0 e1 e2 e3 e4 e5 e6 e7 e8 e9 e10 e11 e12 e13 e14 e15 G
    generalize ((w5.setCell ⟨w.heap.size, 0, none⟩ (.bool (decide (zm < 0)))).setCell ⟨w.heap.size, 1, none⟩ (.slice pn (dig 4294967296 (zm).natAbs).length cn)) = W6 at *
    clear VA Dx
    by_cases hz : zy = 0
    · have Hz := Lib.hid hz
      clear hz
      refine (Exact_zero Vm.out VB.out (by omega) Hz.out).mono ?_
      rintro e w7 ⟨rfl, g⟩
      replace VB := Lib.hid (VB.out.kp (Kp.of g))
      replace Dy := Lib.hid (Dy.out.kp (Kp.of g))
      replace Dm := Lib.hid (Dm.out.kp (Kp.of g))
      replace Vm := Lib.hid (Vm.out.kp (Kp.of g))
      replace S := S.step _ g
      clear g
      unfold ZI
      replace VB := Lib.hid (VB.out.kp (Kp.of (grown_alloc _ (.cells #[.bool false, .slice none 0 0] 24) none)))
      replace Dy := Lib.hid (Dy.out.kp (Kp.of (grown_alloc _ (.cells #[.bool false, .slice none 0 0] 24) none)))
      replace Dm := Lib.hid (Dm.out.kp (Kp.of (grown_alloc _ (.cells #[.bool false, .slice none 0 0] 24) none)))
      replace Vm := Lib.hid (Vm.out.kp (Kp.of (grown_alloc _ (.cells #[.bool false, .slice none 0 0] 24) none)))
      replace S := S.box (w7.heap.size) (.bool false) (.slice none 0 0) 24 (by simp)
      obtain ⟨e0, e1, e2, e3, e4, e5, e6, e7, e8, e9, e10, e11, e12, e13, e14, e15, e16, e17, e18, e19, G⟩ := id S
      go_wp2_with fail
      clear e0 e1 e2 e3 e4 e5 e6 e7 e8 e9 e10 e11 e12 e13 e14 e15 e16 e17 e18 e19 G
      refine (Zero_r Dy.out).mono ?_
      rintro e w8 ⟨rfl, g⟩
      replace VB := Lib.hid (VB.out.kp (Kp.of g))
      replace Dy := Lib.hid (Dy.out.kp (Kp.of g))
      replace Dm := Lib.hid (Dm.out.kp (Kp.of g))
      replace Vm := Lib.hid (Vm.out.kp (Kp.of g))
      replace S := S.step _ g
      clear g
      rw [decide_eq_true Hz.out]
      obtain ⟨e0, e1, e2, e3, e4, e5, e6, e7, e8, e9, e10, e11, e12, e13, e14, e15, e16, e17, e18, e19, G⟩ := id S
      go_wp2_with fail
      clear e0 e1 e2 e3 e4 e5 e6 e7 e8 e9 e10 e11 e12 e13 e14 e15 e16 e17 e18 e19 G
      refine (Zero_nil).mono ?_
      rintro e w9 ⟨rfl, g⟩
      replace VB := Lib.hid (VB.out.kp (Kp.of g))
      replace Dy := Lib.hid (Dy.out.kp (Kp.of g))
      replace Dm := Lib.hid (Dm.out.kp (Kp.of g))
      replace Vm := Lib.hid (Vm.out.kp (Kp.of g))
      replace S := S.step _ g
      clear g
      obtain ⟨e0, e1, e2, e3, e4, e5, e6, e7, e8, e9, e10, e11, e12, e13, e14, e15, e16, e17, e18, e19, G⟩ := id S
      go_wp2_with fail
      clear e0 e1 e2 e3 e4 e5 e6 e7 e8 e9 e10 e11 e12 e13 e14 e15 e16 e17 e18 e19 G
      refine (wakes_true _).mono ?_
      rintro e w10 ⟨rfl, g⟩
      replace VB := Lib.hid (VB.out.kp (Kp.of g))
      replace Dy := Lib.hid (Dy.out.kp (Kp.of g))
      replace Dm := Lib.hid (Dm.out.kp (Kp.of g))
      replace Vm := Lib.hid (Vm.out.kp (Kp.of g))
      replace S := S.step _ g
      clear g
      go_wp2_with fail
      go_ret
      exact ⟨rfl, S.all⟩
    · have Hz := Lib.hid hz
      clear hz
      by_cases hm : zm % zy = 0
      · have Hm := Lib.hid hm
        clear hm
        obtain ⟨zq, ezq⟩ : ∃ t, zm / zy = t := ⟨_, rfl⟩
        obtain ⟨zr, ezr⟩ : ∃ t, zm % zy = t := ⟨_, rfl⟩
        have Eq := Lib.hid ezq
        have Er := Lib.hid ezr
        clear ezq ezr
        refine (Exact_even Vm.out VB.out (by omega) ⟨Hz.out, Hm.out⟩).mono ?_
        rintro e w7 ⟨v, rfl, hq, bq, g⟩
        replace VB := Lib.hid (VB.out.kp (Kp.of g))
        replace Dy := Lib.hid (Dy.out.kp (Kp.of g))
        replace Dm := Lib.hid (Dm.out.kp (Kp.of g))
        replace Vm := Lib.hid (Vm.out.kp (Kp.of g))
        replace S := S.step _ g
        clear g
        rw [Eq.out] at hq bq
        obtain ⟨pq, cq, rfl, hq2⟩ := id hq
        have Nq := Lib.hid (hq.nor)
        clear hq hq2 bq
        replace VB := Lib.hid (VB.out.kp (Kp.of (grown_alloc _ (.cells #[.bool (decide (zq < 0)), .slice pq (dig 4294967296 (zq).natAbs).length cq] 24) none)))
        replace Dy := Lib.hid (Dy.out.kp (Kp.of (grown_alloc _ (.cells #[.bool (decide (zq < 0)), .slice pq (dig 4294967296 (zq).natAbs).length cq] 24) none)))
        replace Dm := Lib.hid (Dm.out.kp (Kp.of (grown_alloc _ (.cells #[.bool (decide (zq < 0)), .slice pq (dig 4294967296 (zq).natAbs).length cq] 24) none)))
        replace Vm := Lib.hid (Vm.out.kp (Kp.of (grown_alloc _ (.cells #[.bool (decide (zq < 0)), .slice pq (dig 4294967296 (zq).natAbs).length cq] 24) none)))
        replace Nq := Lib.hid (Nq.out.kp (Kp.of (grown_alloc _ (.cells #[.bool (decide (zq < 0)), .slice pq (dig 4294967296 (zq).natAbs).length cq] 24) none)))
        replace S := S.box (w7.heap.size) (.bool (decide (zq < 0))) (.slice pq (dig 4294967296 (zq).natAbs).length cq) 24 (by simp)
        obtain ⟨e0, e1, e2, e3, e4, e5, e6, e7, e8, e9, e10, e11, e12, e13, e14, e15, e16, e17, e18, e19, G⟩ := id S
        go_wp2_with fail
        clear e0 e1 e2 e3 e4 e5 e6 e7 e8 e9 e10 e11 e12 e13 e14 e15 e16 e17 e18 e19 G
        refine (Zero_r Dy.out).mono ?_
        rintro e w8 ⟨rfl, g⟩
        replace VB := Lib.hid (VB.out.kp (Kp.of g))
        replace Dy := Lib.hid (Dy.out.kp (Kp.of g))
        replace Dm := Lib.hid (Dm.out.kp (Kp.of g))
        replace Vm := Lib.hid (Vm.out.kp (Kp.of g))
        replace Nq := Lib.hid (Nq.out.kp (Kp.of g))
        replace S := S.step _ g
        clear g
        rw [decide_eq_false Hz.out]
        obtain ⟨e0, e1, e2, e3, e4, e5, e6, e7, e8, e9, e10, e11, e12, e13, e14, e15, e16, e17, e18, e19, G⟩ := id S
        go_wp2_with fail
        clear e0 e1 e2 e3 e4 e5 e6 e7 e8 e9 e10 e11 e12 e13 e14 e15 e16 e17 e18 e19 G
        refine (DivMod_r Dm.out Dy.out (by omega) Hz.out).mono ?_
        rintro e w9 ⟨v, u, rfl, dq, dr, g⟩
        replace VB := Lib.hid (VB.out.kp (Kp.of g))
        replace Dy := Lib.hid (Dy.out.kp (Kp.of g))
        replace Dm := Lib.hid (Dm.out.kp (Kp.of g))
        replace Vm := Lib.hid (Vm.out.kp (Kp.of g))
        replace Nq := Lib.hid (Nq.out.kp (Kp.of g))
        replace S := S.step _ g
        clear g
        rw [Eq.out] at dq
        rw [Er.out] at dr
        obtain ⟨ps, cs, rfl, dq2⟩ := id dq
        obtain ⟨pt, ct, rfl, dr2⟩ := id dr
        have Dq := Lib.hid (dq)
        have Dr := Lib.hid (dr)
        clear dq dr dq2 dr2
        replace VB := Lib.hid (VB.out.kp (Kp.of (grown_alloc _ (.cells #[.slice ps (dig 10000 (zq).natAbs).length cs, .bool (decide (zq < 0))] 28) none)))
        replace Dy := Lib.hid (Dy.out.kp (Kp.of (grown_alloc _ (.cells #[.slice ps (dig 10000 (zq).natAbs).length cs, .bool (decide (zq < 0))] 28) none)))
        replace Dm := Lib.hid (Dm.out.kp (Kp.of (grown_alloc _ (.cells #[.slice ps (dig 10000 (zq).natAbs).length cs, .bool (decide (zq < 0))] 28) none)))
        replace Vm := Lib.hid (Vm.out.kp (Kp.of (grown_alloc _ (.cells #[.slice ps (dig 10000 (zq).natAbs).length cs, .bool (decide (zq < 0))] 28) none)))
        replace Nq := Lib.hid (Nq.out.kp (Kp.of (grown_alloc _ (.cells #[.slice ps (dig 10000 (zq).natAbs).length cs, .bool (decide (zq < 0))] 28) none)))
        replace Dq := Lib.hid (Dq.out.kp (Kp.of (grown_alloc _ (.cells #[.slice ps (dig 10000 (zq).natAbs).length cs, .bool (decide (zq < 0))] 28) none)))
        replace Dr := Lib.hid (Dr.out.kp (Kp.of (grown_alloc _ (.cells #[.slice ps (dig 10000 (zq).natAbs).length cs, .bool (decide (zq < 0))] 28) none)))
        replace S := S.box (w9.heap.size) (.slice ps (dig 10000 (zq).natAbs).length cs) (.bool (decide (zq < 0))) 28 (by simp)
        replace VB := Lib.hid (VB.out.kp (Kp.of (grown_alloc _ (.cells #[.slice pt (dig 10000 (zr).natAbs).length ct, .bool (decide (zr < 0))] 28) none)))
        replace Dy := Lib.hid (Dy.out.kp (Kp.of (grown_alloc _ (.cells #[.slice pt (dig 10000 (zr).natAbs).length ct, .bool (decide (zr < 0))] 28) none)))
        replace Dm := Lib.hid (Dm.out.kp (Kp.of (grown_alloc _ (.cells #[.slice pt (dig 10000 (zr).natAbs).length ct, .bool (decide (zr < 0))] 28) none)))
        replace Vm := Lib.hid (Vm.out.kp (Kp.of (grown_alloc _ (.cells #[.slice pt (dig 10000 (zr).natAbs).length ct, .bool (decide (zr < 0))] 28) none)))
        replace Nq := Lib.hid (Nq.out.kp (Kp.of (grown_alloc _ (.cells #[.slice pt (dig 10000 (zr).natAbs).length ct, .bool (decide (zr < 0))] 28) none)))
        replace Dq := Lib.hid (Dq.out.kp (Kp.of (grown_alloc _ (.cells #[.slice pt (dig 10000 (zr).natAbs).length ct, .bool (decide (zr < 0))] 28) none)))
        replace Dr := Lib.hid (Dr.out.kp (Kp.of (grown_alloc _ (.cells #[.slice pt (dig 10000 (zr).natAbs).length ct, .bool (decide (zr < 0))] 28) none)))
        replace S := S.box (w9.heap.size + 1) (.slice pt (dig 10000 (zr).natAbs).length ct) (.bool (decide (zr < 0))) 28 (by simp)
        obtain ⟨e0, e1, e2, e3, e4, e5, e6, e7, e8, e9, e10, e11, e12, e13, e14, e15, e16, e17, e18, e19, e20, e21, e22, e23, e24, e25, e26, e27, G⟩ := id S
        go_wp2_with fail
        clear e0 e1 e2 e3 e4 e5 e6 e7 e8 e9 e10 e11 e12 e13 e14 e15 e16 e17 e18 e19 e20 e21 e22 e23 e24 e25 e26 e27 G
        refine (Zero_r Dr.out).mono ?_
        rintro e w10 ⟨rfl, g⟩
        replace VB := Lib.hid (VB.out.kp (Kp.of g))
        replace Dy := Lib.hid (Dy.out.kp (Kp.of g))
        replace Dm := Lib.hid (Dm.out.kp (Kp.of g))
        replace Vm := Lib.hid (Vm.out.kp (Kp.of g))
        replace Nq := Lib.hid (Nq.out.kp (Kp.of g))
        replace Dq := Lib.hid (Dq.out.kp (Kp.of g))
        replace Dr := Lib.hid (Dr.out.kp (Kp.of g))
        replace S := S.step _ g
        clear g
        rw [decide_eq_true (Er.out.symm.trans Hm.out)]
        obtain ⟨e0, e1, e2, e3, e4, e5, e6, e7, e8, e9, e10, e11, e12, e13, e14, e15, e16, e17, e18, e19, e20, e21, e22, e23, e24, e25, e26, e27, G⟩ := id S
        go_wp2_with fail
        clear e0 e1 e2 e3 e4 e5 e6 e7 e8 e9 e10 e11 e12 e13 e14 e15 e16 e17 e18 e19 e20 e21 e22 e23 e24 e25 e26 e27 G
        refine (Is_l Dq.out (by omega) Nq.out).mono ?_
        rintro e w11 ⟨rfl, g⟩
        replace VB := Lib.hid (VB.out.kp (Kp.of g))
        replace Dy := Lib.hid (Dy.out.kp (Kp.of g))
        replace Dm := Lib.hid (Dm.out.kp (Kp.of g))
        replace Vm := Lib.hid (Vm.out.kp (Kp.of g))
        replace Nq := Lib.hid (Nq.out.kp (Kp.of g))
        replace Dq := Lib.hid (Dq.out.kp (Kp.of g))
        replace Dr := Lib.hid (Dr.out.kp (Kp.of g))
        replace S := S.step _ g
        clear g
        obtain ⟨e0, e1, e2, e3, e4, e5, e6, e7, e8, e9, e10, e11, e12, e13, e14, e15, e16, e17, e18, e19, e20, e21, e22, e23, e24, e25, e26, e27, G⟩ := id S
        go_wp2_with fail
        clear e0 e1 e2 e3 e4 e5 e6 e7 e8 e9 e10 e11 e12 e13 e14 e15 e16 e17 e18 e19 e20 e21 e22 e23 e24 e25 e26 e27 G
        refine (wakes_true _).mono ?_
        rintro e w12 ⟨rfl, g⟩
        replace VB := Lib.hid (VB.out.kp (Kp.of g))
        replace Dy := Lib.hid (Dy.out.kp (Kp.of g))
        replace Dm := Lib.hid (Dm.out.kp (Kp.of g))
        replace Vm := Lib.hid (Vm.out.kp (Kp.of g))
        replace Nq := Lib.hid (Nq.out.kp (Kp.of g))
        replace Dq := Lib.hid (Dq.out.kp (Kp.of g))
        replace Dr := Lib.hid (Dr.out.kp (Kp.of g))
        replace S := S.step _ g
        clear g
        go_wp2_with fail
        go_ret
        exact ⟨rfl, S.all⟩
      · have Hm := Lib.hid hm
        clear hm
        obtain ⟨zq, ezq⟩ : ∃ t, zm / zy = t := ⟨_, rfl⟩
        obtain ⟨zr, ezr⟩ : ∃ t, zm % zy = t := ⟨_, rfl⟩
        have Eq := Lib.hid ezq
        have Er := Lib.hid ezr
        clear ezq ezr
        refine (Exact_odd Vm.out VB.out (by omega) ⟨Hz.out, Hm.out⟩).mono ?_
        rintro e w7 ⟨rfl, g⟩
        replace VB := Lib.hid (VB.out.kp (Kp.of g))
        replace Dy := Lib.hid (Dy.out.kp (Kp.of g))
        replace Dm := Lib.hid (Dm.out.kp (Kp.of g))
        replace Vm := Lib.hid (Vm.out.kp (Kp.of g))
        replace S := S.step _ g
        clear g
        unfold ZI
        replace VB := Lib.hid (VB.out.kp (Kp.of (grown_alloc _ (.cells #[.bool false, .slice none 0 0] 24) none)))
        replace Dy := Lib.hid (Dy.out.kp (Kp.of (grown_alloc _ (.cells #[.bool false, .slice none 0 0] 24) none)))
        replace Dm := Lib.hid (Dm.out.kp (Kp.of (grown_alloc _ (.cells #[.bool false, .slice none 0 0] 24) none)))
        replace Vm := Lib.hid (Vm.out.kp (Kp.of (grown_alloc _ (.cells #[.bool false, .slice none 0 0] 24) none)))
        replace S := S.box (w7.heap.size) (.bool false) (.slice none 0 0) 24 (by simp)
        obtain ⟨e0, e1, e2, e3, e4, e5, e6, e7, e8, e9, e10, e11, e12, e13, e14, e15, e16, e17, e18, e19, G⟩ := id S
        go_wp2_with fail
        clear e0 e1 e2 e3 e4 e5 e6 e7 e8 e9 e10 e11 e12 e13 e14 e15 e16 e17 e18 e19 G
        refine (Zero_r Dy.out).mono ?_
        rintro e w8 ⟨rfl, g⟩
        replace VB := Lib.hid (VB.out.kp (Kp.of g))
        replace Dy := Lib.hid (Dy.out.kp (Kp.of g))
        replace Dm := Lib.hid (Dm.out.kp (Kp.of g))
        replace Vm := Lib.hid (Vm.out.kp (Kp.of g))
        replace S := S.step _ g
        clear g
        rw [decide_eq_false Hz.out]
        obtain ⟨e0, e1, e2, e3, e4, e5, e6, e7, e8, e9, e10, e11, e12, e13, e14, e15, e16, e17, e18, e19, G⟩ := id S
        go_wp2_with fail
        clear e0 e1 e2 e3 e4 e5 e6 e7 e8 e9 e10 e11 e12 e13 e14 e15 e16 e17 e18 e19 G
        refine (DivMod_r Dm.out Dy.out (by omega) Hz.out).mono ?_
        rintro e w9 ⟨v, u, rfl, dq, dr, g⟩
        replace VB := Lib.hid (VB.out.kp (Kp.of g))
        replace Dy := Lib.hid (Dy.out.kp (Kp.of g))
        replace Dm := Lib.hid (Dm.out.kp (Kp.of g))
        replace Vm := Lib.hid (Vm.out.kp (Kp.of g))
        replace S := S.step _ g
        clear g
        rw [Eq.out] at dq
        rw [Er.out] at dr
        obtain ⟨ps, cs, rfl, dq2⟩ := id dq
        obtain ⟨pt, ct, rfl, dr2⟩ := id dr
        have Dq := Lib.hid (dq)
        have Dr := Lib.hid (dr)
        clear dq dr dq2 dr2
        replace VB := Lib.hid (VB.out.kp (Kp.of (grown_alloc _ (.cells #[.slice ps (dig 10000 (zq).natAbs).length cs, .bool (decide (zq < 0))] 28) none)))
        replace Dy := Lib.hid (Dy.out.kp (Kp.of (grown_alloc _ (.cells #[.slice ps (dig 10000 (zq).natAbs).length cs, .bool (decide (zq < 0))] 28) none)))
        replace Dm := Lib.hid (Dm.out.kp (Kp.of (grown_alloc _ (.cells #[.slice ps (dig 10000 (zq).natAbs).length cs, .bool (decide (zq < 0))] 28) none)))
        replace Vm := Lib.hid (Vm.out.kp (Kp.of (grown_alloc _ (.cells #[.slice ps (dig 10000 (zq).natAbs).length cs, .bool (decide (zq < 0))] 28) none)))
        replace Dq := Lib.hid (Dq.out.kp (Kp.of (grown_alloc _ (.cells #[.slice ps (dig 10000 (zq).natAbs).length cs, .bool (decide (zq < 0))] 28) none)))
        replace Dr := Lib.hid (Dr.out.kp (Kp.of (grown_alloc _ (.cells #[.slice ps (dig 10000 (zq).natAbs).length cs, .bool (decide (zq < 0))] 28) none)))
        replace S := S.box (w9.heap.size) (.slice ps (dig 10000 (zq).natAbs).length cs) (.bool (decide (zq < 0))) 28 (by simp)
        replace VB := Lib.hid (VB.out.kp (Kp.of (grown_alloc _ (.cells #[.slice pt (dig 10000 (zr).natAbs).length ct, .bool (decide (zr < 0))] 28) none)))
        replace Dy := Lib.hid (Dy.out.kp (Kp.of (grown_alloc _ (.cells #[.slice pt (dig 10000 (zr).natAbs).length ct, .bool (decide (zr < 0))] 28) none)))
        replace Dm := Lib.hid (Dm.out.kp (Kp.of (grown_alloc _ (.cells #[.slice pt (dig 10000 (zr).natAbs).length ct, .bool (decide (zr < 0))] 28) none)))
        replace Vm := Lib.hid (Vm.out.kp (Kp.of (grown_alloc _ (.cells #[.slice pt (dig 10000 (zr).natAbs).length ct, .bool (decide (zr < 0))] 28) none)))
        replace Dq := Lib.hid (Dq.out.kp (Kp.of (grown_alloc _ (.cells #[.slice pt (dig 10000 (zr).natAbs).length ct, .bool (decide (zr < 0))] 28) none)))
        replace Dr := Lib.hid (Dr.out.kp (Kp.of (grown_alloc _ (.cells #[.slice pt (dig 10000 (zr).natAbs).length ct, .bool (decide (zr < 0))] 28) none)))
        replace S := S.box (w9.heap.size + 1) (.slice pt (dig 10000 (zr).natAbs).length ct) (.bool (decide (zr < 0))) 28 (by simp)
        obtain ⟨e0, e1, e2, e3, e4, e5, e6, e7, e8, e9, e10, e11, e12, e13, e14, e15, e16, e17, e18, e19, e20, e21, e22, e23, e24, e25, e26, e27, G⟩ := id S
        go_wp2_with fail
        clear e0 e1 e2 e3 e4 e5 e6 e7 e8 e9 e10 e11 e12 e13 e14 e15 e16 e17 e18 e19 e20 e21 e22 e23 e24 e25 e26 e27 G
        refine (Zero_r Dr.out).mono ?_
        rintro e w10 ⟨rfl, g⟩
        replace VB := Lib.hid (VB.out.kp (Kp.of g))
        replace Dy := Lib.hid (Dy.out.kp (Kp.of g))
        replace Dm := Lib.hid (Dm.out.kp (Kp.of g))
        replace Vm := Lib.hid (Vm.out.kp (Kp.of g))
        replace Dq := Lib.hid (Dq.out.kp (Kp.of g))
        replace Dr := Lib.hid (Dr.out.kp (Kp.of g))
        replace S := S.step _ g
        clear g
        rw [decide_eq_false (fun e => Hm.out (Er.out.trans e))]
        obtain ⟨e0, e1, e2, e3, e4, e5, e6, e7, e8, e9, e10, e11, e12, e13, e14, e15, e16, e17, e18, e19, e20, e21, e22, e23, e24, e25, e26, e27, G⟩ := id S
        go_wp2_with fail
        clear e0 e1 e2 e3 e4 e5 e6 e7 e8 e9 e10 e11 e12 e13 e14 e15 e16 e17 e18 e19 e20 e21 e22 e23 e24 e25 e26 e27 G
        refine (Zero_nil).mono ?_
        rintro e w11 ⟨rfl, g⟩
        replace VB := Lib.hid (VB.out.kp (Kp.of g))
        replace Dy := Lib.hid (Dy.out.kp (Kp.of g))
        replace Dm := Lib.hid (Dm.out.kp (Kp.of g))
        replace Vm := Lib.hid (Vm.out.kp (Kp.of g))
        replace Dq := Lib.hid (Dq.out.kp (Kp.of g))
        replace Dr := Lib.hid (Dr.out.kp (Kp.of g))
        replace S := S.step _ g
        clear g
        obtain ⟨e0, e1, e2, e3, e4, e5, e6, e7, e8, e9, e10, e11, e12, e13, e14, e15, e16, e17, e18, e19, e20, e21, e22, e23, e24, e25, e26, e27, G⟩ := id S
        go_wp2_with fail
        clear e0 e1 e2 e3 e4 e5 e6 e7 e8 e9 e10 e11 e12 e13 e14 e15 e16 e17 e18 e19 e20 e21 e22 e23 e24 e25 e26 e27 G
        refine (wakes_true _).mono ?_
        rintro e w12 ⟨rfl, g⟩
        replace VB := Lib.hid (VB.out.kp (Kp.of g))
        replace Dy := Lib.hid (Dy.out.kp (Kp.of g))
        replace Dm := Lib.hid (Dm.out.kp (Kp.of g))
        replace Vm := Lib.hid (Vm.out.kp (Kp.of g))
        replace Dq := Lib.hid (Dq.out.kp (Kp.of g))
        replace Dr := Lib.hid (Dr.out.kp (Kp.of g))
        replace S := S.step _ g
        clear g
        go_wp2_with fail
        go_ret
        exact ⟨rfl, S.all⟩

set_option maxRecDepth 100000 in
theorem lifted (os : Os) (started : os.Started) (H : Type) (enc : TypeId × Value → H) :
    ReturnsInHanded {} Try.checked os 8 .any (Rows.wholeEvensSpec.pre6 enc Try.prog Try.f8 Rows.wholeEvensRow.domain false) (Rows.wholeEvensSpec.post enc Try.prog Try.f8 false true false false) := by
  refine returnsInHanded_of_change (C := Try.checked) Try.own started (by kernel_rfl) Try.func8
    (ChangeSpec.witness6 (enc := enc) (C := Try.checked) false ⟨#[], #[.agg #[.bool false, .slice none 0 0], .agg #[.bool false, .slice none 0 0], .bool false], []⟩ 8 (by kernel_rfl) (by kernel_rfl) (by kernel_rfl) (by kernel_rfl)) ?_
  intro W base args ds gs before hval0 hW _ _
  have hval : ∀ (j : Nat) t v, Try.f8.params[j]? = some t → args[j]? = some v → Value.okWide Try.prog W .any base t v := hval0
  obtain ⟨p, q, hA0, hV, rfl, _, _⟩ := id hW
  have hA : DataW.TrodAll enc Try.prog W 0 (fun _ => true) true Try.f8.params.toList args.toList ds p := hA0
  rw [Try.params8] at hA hval
  obtain ⟨v0, vs0, d0, ds0, p0, q0, hargs, rfl, rfl, h0, r0⟩ := trodAll_cons hA
  obtain ⟨v1, vs1, d1, ds1, p1, q1, rfl, rfl, rfl, h1, r1⟩ := trodAll_cons r0
  obtain ⟨v2, vs2, d2, ds2, p2, q2, rfl, rfl, rfl, h2, r2⟩ := trodAll_cons r1
  obtain ⟨rfl, rfl, rfl⟩ := trodAll_nil r2
  obtain rfl : args = #[v0, v1, v2] := by cases args; simp_all
  obtain ⟨b0, w0, xs0, rfl, s0, a0⟩ := int_of_trod h0 (hval 0 24 v0 rfl rfl)
  obtain ⟨b1, w1, xs1, rfl, s1, a1⟩ := int_of_trod h1 (hval 1 24 v1 rfl rfl)
  obtain ⟨n2, rfl, rfl, rfl⟩ := open_bool Try.underlying4 (hval 2 4 v2 rfl rfl) h2
  refine (walk s0 a0 s1 a1 n2).mono fun e W' ⟨he, hg⟩ => ?_
  subst he
  refine ⟨_, rfl, law_post Try.laidOut rfl (by kernel_rfl) Try.underlying4 ?_ ?_ hW hg⟩
  · rw [Try.params8]; decide +kernel
  · rw [Try.params8]
    intro ds h
    match ds, h with
    | [_, _, _], _ => rfl

theorem holds : Rows.WholeEvensSaid :=
  OpenClaim.holds_of_wide 8 Try.f8 rfl rfl rfl rfl rfl rfl rfl ⟨rfl, rfl, rfl, rfl, rfl⟩ rfl rfl rfl rfl rfl (by kernel_rfl) Try.func8 (by kernel_rfl)
    (of_decide_eq_true (by kernel_rfl)) (by unfold Func.isWrapper; first | (rw [if_pos (by decide +kernel)]; kernel_rfl) | (rw [if_neg (by decide +kernel)]; exact ⟨rfl, rfl⟩))
    (fun os started H enc _ => lifted os started H enc)

end Go.Proofs.Ytenaepofjpjhhaa.evens
