/- RatioLaws holds: for every three rationals the law returns true and leaves them as they were. No condition but what the row lists. -/
import Derived.Test.YtmkplojojaopmaaGreatDoorRowRat
namespace Go.Proofs.YtmkplojojaopmaaGreatDoor.rlaws
open Go.ChangeShapes Go.WideShapes Go.ChangeAt Go.RowKit

theorem stand_no (t : TypeId) (h : t ∈ ([46, 24, 3, 4, 9] : List TypeId)) : Tryz.prog.wantsStandIn t = false := by
  simp only [List.mem_cons, List.mem_nil_iff, or_false] at h
  rcases h with rfl | rfl | rfl | rfl | rfl <;> kernel_rfl
theorem floor_up (q : Rat) : q < (q.floor : Rat) + 1 := by have := Rat.lt_floor_add_one q; rwa [Rat.intCast_add, Rat.intCast_one] at this
theorem floor_up1 (q : Rat) : q < (q.floor : Rat) + Rat.divInt 1 1 := by
  rw [show Rat.divInt 1 1 = 1 from by decide]; exact floor_up q

set_option maxHeartbeats 16000000 in
set_option maxRecDepth 100000 in
theorem walk {a0 b0 : Bool} {s0 t0 : Value} {xs0 ys0 : List Nat} {a1 b1 : Bool} {s1 t1 : Value} {xs1 ys1 : List Nat} {a2 b2 : Bool} {s2 t2 : Value} {xs2 ys2 : List Nat} {w : World} (hx0 : Sl w .u32 s0 xs0) (ax0 : All 4294967296 xs0) (hy0 : Sl w .u32 t0 ys0) (ay0 : All 4294967296 ys0) (hx1 : Sl w .u32 s1 xs1) (ax1 : All 4294967296 xs1) (hy1 : Sl w .u32 t1 ys1) (ay1 : All 4294967296 ys1) (hx2 : Sl w .u32 s2 xs2) (ax2 : All 4294967296 xs2) (hy2 : Sl w .u32 t2 ys2) (ay2 : All 4294967296 ys2) :
    Calls Tryz.prog 12 #[.agg #[.bool a0, s0, .bool b0, t0], .agg #[.bool a1, s1, .bool b1, t1], .agg #[.bool a2, s2, .bool b2, t2]] w (Bool_ w true) := by
  obtain ⟨p0, c0, rfl, -⟩ := id hx0
  obtain ⟨p0', c0', rfl, -⟩ := id hy0
  have X0 := Lib.hid hx0
  have Y0 := Lib.hid hy0
  have AX0 := Lib.hid ax0
  have AY0 := Lib.hid ay0
  obtain ⟨q0, hq0⟩ : ∃ q, qOf (sg a0 (val 4294967296 (xs0.take 3))) (sg b0 (val 4294967296 (ys0.take 3))) = q := ⟨_, rfl⟩
  have HQ0 := Lib.hid hq0
  clear hx0 hy0 ax0 ay0 hq0
  obtain ⟨p1, c1, rfl, -⟩ := id hx1
  obtain ⟨p1', c1', rfl, -⟩ := id hy1
  have X1 := Lib.hid hx1
  have Y1 := Lib.hid hy1
  have AX1 := Lib.hid ax1
  have AY1 := Lib.hid ay1
  obtain ⟨q1, hq1⟩ : ∃ q, qOf (sg a1 (val 4294967296 (xs1.take 3))) (sg b1 (val 4294967296 (ys1.take 3))) = q := ⟨_, rfl⟩
  have HQ1 := Lib.hid hq1
  clear hx1 hy1 ax1 ay1 hq1
  obtain ⟨p2, c2, rfl, -⟩ := id hx2
  obtain ⟨p2', c2', rfl, -⟩ := id hy2
  have X2 := Lib.hid hx2
  have Y2 := Lib.hid hy2
  have AX2 := Lib.hid ax2
  have AY2 := Lib.hid ay2
  obtain ⟨q2, hq2⟩ : ∃ q, qOf (sg a2 (val 4294967296 (xs2.take 3))) (sg b2 (val 4294967296 (ys2.take 3))) = q := ⟨_, rfl⟩
  have HQ2 := Lib.hid hq2
  clear hx2 hy2 ax2 ay2 hq2
  have S : St w [] [] w := St.start w
  go_enter Tryz.func12, Tryz.ntmps12
  have G := S
  go_wp2_with fail
  clear G
  replace S : St w [(w.heap.size, 0, .bool a0), (w.heap.size, 1, .slice p0 xs0.length c0), (w.heap.size, 2, .bool b0), (w.heap.size, 3, .slice p0' ys0.length c0')] [(w.heap.size, 0), (w.heap.size, 1), (w.heap.size, 2), (w.heap.size, 3)] (w.alloc (.cells #[.bool a0, .slice p0 xs0.length c0, .bool b0, .slice p0' ys0.length c0'] 46)) := S.made (w.heap.size) [.bool a0, .slice p0 xs0.length c0, .bool b0, .slice p0' ys0.length c0'] 46 (by simp)
  replace S : St w [(w.heap.size + 1, 0, .bool a1), (w.heap.size + 1, 1, .slice p1 xs1.length c1), (w.heap.size + 1, 2, .bool b1), (w.heap.size + 1, 3, .slice p1' ys1.length c1'), (w.heap.size, 0, .bool a0), (w.heap.size, 1, .slice p0 xs0.length c0), (w.heap.size, 2, .bool b0), (w.heap.size, 3, .slice p0' ys0.length c0')] [(w.heap.size + 1, 0), (w.heap.size + 1, 1), (w.heap.size + 1, 2), (w.heap.size + 1, 3), (w.heap.size, 0), (w.heap.size, 1), (w.heap.size, 2), (w.heap.size, 3)] ((w.alloc (.cells #[.bool a0, .slice p0 xs0.length c0, .bool b0, .slice p0' ys0.length c0'] 46)).alloc (.cells #[.bool a1, .slice p1 xs1.length c1, .bool b1, .slice p1' ys1.length c1'] 46)) := S.made (w.heap.size + 1) [.bool a1, .slice p1 xs1.length c1, .bool b1, .slice p1' ys1.length c1'] 46 (by simp)
  replace S : St w [(w.heap.size + 1 + 1, 0, .bool a2), (w.heap.size + 1 + 1, 1, .slice p2 xs2.length c2), (w.heap.size + 1 + 1, 2, .bool b2), (w.heap.size + 1 + 1, 3, .slice p2' ys2.length c2'), (w.heap.size + 1, 0, .bool a1), (w.heap.size + 1, 1, .slice p1 xs1.length c1), (w.heap.size + 1, 2, .bool b1), (w.heap.size + 1, 3, .slice p1' ys1.length c1'), (w.heap.size, 0, .bool a0), (w.heap.size, 1, .slice p0 xs0.length c0), (w.heap.size, 2, .bool b0), (w.heap.size, 3, .slice p0' ys0.length c0')] [(w.heap.size + 1 + 1, 0), (w.heap.size + 1 + 1, 1), (w.heap.size + 1 + 1, 2), (w.heap.size + 1 + 1, 3), (w.heap.size + 1, 0), (w.heap.size + 1, 1), (w.heap.size + 1, 2), (w.heap.size + 1, 3), (w.heap.size, 0), (w.heap.size, 1), (w.heap.size, 2), (w.heap.size, 3)] (((w.alloc (.cells #[.bool a0, .slice p0 xs0.length c0, .bool b0, .slice p0' ys0.length c0'] 46)).alloc (.cells #[.bool a1, .slice p1 xs1.length c1, .bool b1, .slice p1' ys1.length c1'] 46)).alloc (.cells #[.bool a2, .slice p2 xs2.length c2, .bool b2, .slice p2' ys2.length c2'] 46)) := S.made (w.heap.size + 1 + 1) [.bool a2, .slice p2 xs2.length c2, .bool b2, .slice p2' ys2.length c2'] 46 (by simp)
  replace X0 := Lib.hid (X0.out.kp (((Kp.of (grown_alloc w (.cells #[.bool a0, .slice p0 xs0.length c0, .bool b0, .slice p0' ys0.length c0'] 46) none)).trans (Kp.of (grown_alloc ((w.alloc (.cells #[.bool a0, .slice p0 xs0.length c0, .bool b0, .slice p0' ys0.length c0'] 46))) (.cells #[.bool a1, .slice p1 xs1.length c1, .bool b1, .slice p1' ys1.length c1'] 46) none))).trans (Kp.of (grown_alloc (((w.alloc (.cells #[.bool a0, .slice p0 xs0.length c0, .bool b0, .slice p0' ys0.length c0'] 46)).alloc (.cells #[.bool a1, .slice p1 xs1.length c1, .bool b1, .slice p1' ys1.length c1'] 46))) (.cells #[.bool a2, .slice p2 xs2.length c2, .bool b2, .slice p2' ys2.length c2'] 46) none))))
  replace Y0 := Lib.hid (Y0.out.kp (((Kp.of (grown_alloc w (.cells #[.bool a0, .slice p0 xs0.length c0, .bool b0, .slice p0' ys0.length c0'] 46) none)).trans (Kp.of (grown_alloc ((w.alloc (.cells #[.bool a0, .slice p0 xs0.length c0, .bool b0, .slice p0' ys0.length c0'] 46))) (.cells #[.bool a1, .slice p1 xs1.length c1, .bool b1, .slice p1' ys1.length c1'] 46) none))).trans (Kp.of (grown_alloc (((w.alloc (.cells #[.bool a0, .slice p0 xs0.length c0, .bool b0, .slice p0' ys0.length c0'] 46)).alloc (.cells #[.bool a1, .slice p1 xs1.length c1, .bool b1, .slice p1' ys1.length c1'] 46))) (.cells #[.bool a2, .slice p2 xs2.length c2, .bool b2, .slice p2' ys2.length c2'] 46) none))))
  replace X1 := Lib.hid (X1.out.kp (((Kp.of (grown_alloc w (.cells #[.bool a0, .slice p0 xs0.length c0, .bool b0, .slice p0' ys0.length c0'] 46) none)).trans (Kp.of (grown_alloc ((w.alloc (.cells #[.bool a0, .slice p0 xs0.length c0, .bool b0, .slice p0' ys0.length c0'] 46))) (.cells #[.bool a1, .slice p1 xs1.length c1, .bool b1, .slice p1' ys1.length c1'] 46) none))).trans (Kp.of (grown_alloc (((w.alloc (.cells #[.bool a0, .slice p0 xs0.length c0, .bool b0, .slice p0' ys0.length c0'] 46)).alloc (.cells #[.bool a1, .slice p1 xs1.length c1, .bool b1, .slice p1' ys1.length c1'] 46))) (.cells #[.bool a2, .slice p2 xs2.length c2, .bool b2, .slice p2' ys2.length c2'] 46) none))))
  replace Y1 := Lib.hid (Y1.out.kp (((Kp.of (grown_alloc w (.cells #[.bool a0, .slice p0 xs0.length c0, .bool b0, .slice p0' ys0.length c0'] 46) none)).trans (Kp.of (grown_alloc ((w.alloc (.cells #[.bool a0, .slice p0 xs0.length c0, .bool b0, .slice p0' ys0.length c0'] 46))) (.cells #[.bool a1, .slice p1 xs1.length c1, .bool b1, .slice p1' ys1.length c1'] 46) none))).trans (Kp.of (grown_alloc (((w.alloc (.cells #[.bool a0, .slice p0 xs0.length c0, .bool b0, .slice p0' ys0.length c0'] 46)).alloc (.cells #[.bool a1, .slice p1 xs1.length c1, .bool b1, .slice p1' ys1.length c1'] 46))) (.cells #[.bool a2, .slice p2 xs2.length c2, .bool b2, .slice p2' ys2.length c2'] 46) none))))
  replace X2 := Lib.hid (X2.out.kp (((Kp.of (grown_alloc w (.cells #[.bool a0, .slice p0 xs0.length c0, .bool b0, .slice p0' ys0.length c0'] 46) none)).trans (Kp.of (grown_alloc ((w.alloc (.cells #[.bool a0, .slice p0 xs0.length c0, .bool b0, .slice p0' ys0.length c0'] 46))) (.cells #[.bool a1, .slice p1 xs1.length c1, .bool b1, .slice p1' ys1.length c1'] 46) none))).trans (Kp.of (grown_alloc (((w.alloc (.cells #[.bool a0, .slice p0 xs0.length c0, .bool b0, .slice p0' ys0.length c0'] 46)).alloc (.cells #[.bool a1, .slice p1 xs1.length c1, .bool b1, .slice p1' ys1.length c1'] 46))) (.cells #[.bool a2, .slice p2 xs2.length c2, .bool b2, .slice p2' ys2.length c2'] 46) none))))
  replace Y2 := Lib.hid (Y2.out.kp (((Kp.of (grown_alloc w (.cells #[.bool a0, .slice p0 xs0.length c0, .bool b0, .slice p0' ys0.length c0'] 46) none)).trans (Kp.of (grown_alloc ((w.alloc (.cells #[.bool a0, .slice p0 xs0.length c0, .bool b0, .slice p0' ys0.length c0'] 46))) (.cells #[.bool a1, .slice p1 xs1.length c1, .bool b1, .slice p1' ys1.length c1'] 46) none))).trans (Kp.of (grown_alloc (((w.alloc (.cells #[.bool a0, .slice p0 xs0.length c0, .bool b0, .slice p0' ys0.length c0'] 46)).alloc (.cells #[.bool a1, .slice p1 xs1.length c1, .bool b1, .slice p1' ys1.length c1'] 46))) (.cells #[.bool a2, .slice p2 xs2.length c2, .bool b2, .slice p2' ys2.length c2'] 46) none))))
  have sz10 : (((w.alloc (.cells #[.bool a0, .slice p0 xs0.length c0, .bool b0, .slice p0' ys0.length c0'] 46)).alloc (.cells #[.bool a1, .slice p1 xs1.length c1, .bool b1, .slice p1' ys1.length c1'] 46)).alloc (.cells #[.bool a2, .slice p2 xs2.length c2, .bool b2, .slice p2' ys2.length c2'] 46)).heap.size = w.heap.size + 3 := by simp
  generalize (((w.alloc (.cells #[.bool a0, .slice p0 xs0.length c0, .bool b0, .slice p0' ys0.length c0'] 46)).alloc (.cells #[.bool a1, .slice p1 xs1.length c1, .bool b1, .slice p1' ys1.length c1'] 46)).alloc (.cells #[.bool a2, .slice p2 xs2.length c2, .bool b2, .slice p2' ys2.length c2'] 46)) = W10 at *
  go_at_call 40
  with_reducible refine (Of_v 3 (by decide) X0.out AX0.out Y0.out AY0.out (by omega) HQ0.out).mono ?_
  rintro e w12 ⟨p11, n11, c11, q11, m11, f11, x110, x111, x112, x113, y110, y111, y112, y113, rfl, h, h', g⟩
  clear X0 Y0
  replace X1 := Lib.hid (X1.out.kp (Kp.of g))
  replace Y1 := Lib.hid (Y1.out.kp (Kp.of g))
  replace X2 := Lib.hid (X2.out.kp (Kp.of g))
  replace Y2 := Lib.hid (Y2.out.kp (Kp.of g))
  have N11 := Lib.hid (h)
  have M11 := Lib.hid (h')
  replace S := S.step g
  have lg12 := g.size
  clear g h h'
  have l0 := S.ltc (g := w.heap.size) (o := 0) (x := .bool a0) (by simp)
  have l1 := S.ltc (g := w.heap.size + 1) (o := 0) (x := .bool a1) (by simp)
  have l2 := S.ltc (g := w.heap.size + 1 + 1) (o := 0) (x := .bool a2) (by simp)
  have lS := S.size
  obtain ⟨e0, e1, e2, e3, e4, e5, e6, e7, e8, e9, e10, e11, h0, i0, h1, i1, h2, i2, h3, i3, h4, i4, h5, i5, h6, i6, h7, i7, h8, i8, h9, i9, h10, i10, h11, i11, G⟩ := id S
  go_wp2_with fail
  clear e0 e1 e2 e3 e4 e5 e6 e7 e8 e9 e10 e11 h0 i0 h1 i1 h2 i2 h3 i3 h4 i4 h5 i5 h6 i6 h7 i7 h8 i8 h9 i9 h10 i10 h11 i11 G
  have K13 : Kp w12 (w12.setCell ⟨w.heap.size, 0, none⟩ (.bool a0)) := S.kp (g := w.heap.size) (o := 0) (x := .bool a0) (.bool a0) (by simp) (by simp)
  replace S : St w [(w.heap.size, 0, .bool a0), (w.heap.size + 1 + 1, 0, .bool a2), (w.heap.size + 1 + 1, 1, .slice p2 xs2.length c2), (w.heap.size + 1 + 1, 2, .bool b2), (w.heap.size + 1 + 1, 3, .slice p2' ys2.length c2'), (w.heap.size + 1, 0, .bool a1), (w.heap.size + 1, 1, .slice p1 xs1.length c1), (w.heap.size + 1, 2, .bool b1), (w.heap.size + 1, 3, .slice p1' ys1.length c1'), (w.heap.size, 1, .slice p0 xs0.length c0), (w.heap.size, 2, .bool b0), (w.heap.size, 3, .slice p0' ys0.length c0')] [(w.heap.size + 1 + 1, 0), (w.heap.size + 1 + 1, 1), (w.heap.size + 1 + 1, 2), (w.heap.size + 1 + 1, 3), (w.heap.size + 1, 0), (w.heap.size + 1, 1), (w.heap.size + 1, 2), (w.heap.size + 1, 3), (w.heap.size, 0), (w.heap.size, 1), (w.heap.size, 2), (w.heap.size, 3)] (w12.setCell ⟨w.heap.size, 0, none⟩ (.bool a0)) := S.set (g := w.heap.size) (o := 0) (.bool a0) (by simp) (by simp <;> omega) (by omega)
  have K14 : Kp (w12.setCell ⟨w.heap.size, 0, none⟩ (.bool a0)) ((w12.setCell ⟨w.heap.size, 0, none⟩ (.bool a0)).setCell ⟨w.heap.size, 1, none⟩ (.slice p11 n11 c11)) := S.kp (g := w.heap.size) (o := 1) (x := .slice p0 xs0.length c0) (.slice p11 n11 c11) (by simp) (by simp)
  replace S : St w [(w.heap.size, 1, .slice p11 n11 c11), (w.heap.size + 1 + 1, 0, .bool a2), (w.heap.size + 1 + 1, 1, .slice p2 xs2.length c2), (w.heap.size + 1 + 1, 2, .bool b2), (w.heap.size + 1 + 1, 3, .slice p2' ys2.length c2'), (w.heap.size + 1, 0, .bool a1), (w.heap.size + 1, 1, .slice p1 xs1.length c1), (w.heap.size + 1, 2, .bool b1), (w.heap.size + 1, 3, .slice p1' ys1.length c1'), (w.heap.size, 0, .bool a0), (w.heap.size, 2, .bool b0), (w.heap.size, 3, .slice p0' ys0.length c0')] [(w.heap.size + 1 + 1, 0), (w.heap.size + 1 + 1, 1), (w.heap.size + 1 + 1, 2), (w.heap.size + 1 + 1, 3), (w.heap.size + 1, 0), (w.heap.size + 1, 1), (w.heap.size + 1, 2), (w.heap.size + 1, 3), (w.heap.size, 0), (w.heap.size, 1), (w.heap.size, 2), (w.heap.size, 3)] ((w12.setCell ⟨w.heap.size, 0, none⟩ (.bool a0)).setCell ⟨w.heap.size, 1, none⟩ (.slice p11 n11 c11)) := S.set (g := w.heap.size) (o := 1) (.slice p11 n11 c11) (by simp) (by simp <;> omega) (by omega)
  have K15 : Kp ((w12.setCell ⟨w.heap.size, 0, none⟩ (.bool a0)).setCell ⟨w.heap.size, 1, none⟩ (.slice p11 n11 c11)) (((w12.setCell ⟨w.heap.size, 0, none⟩ (.bool a0)).setCell ⟨w.heap.size, 1, none⟩ (.slice p11 n11 c11)).setCell ⟨w.heap.size, 2, none⟩ (.bool b0)) := S.kp (g := w.heap.size) (o := 2) (x := .bool b0) (.bool b0) (by simp) (by simp)
  replace S : St w [(w.heap.size, 2, .bool b0), (w.heap.size + 1 + 1, 0, .bool a2), (w.heap.size + 1 + 1, 1, .slice p2 xs2.length c2), (w.heap.size + 1 + 1, 2, .bool b2), (w.heap.size + 1 + 1, 3, .slice p2' ys2.length c2'), (w.heap.size + 1, 0, .bool a1), (w.heap.size + 1, 1, .slice p1 xs1.length c1), (w.heap.size + 1, 2, .bool b1), (w.heap.size + 1, 3, .slice p1' ys1.length c1'), (w.heap.size, 0, .bool a0), (w.heap.size, 1, .slice p11 n11 c11), (w.heap.size, 3, .slice p0' ys0.length c0')] [(w.heap.size + 1 + 1, 0), (w.heap.size + 1 + 1, 1), (w.heap.size + 1 + 1, 2), (w.heap.size + 1 + 1, 3), (w.heap.size + 1, 0), (w.heap.size + 1, 1), (w.heap.size + 1, 2), (w.heap.size + 1, 3), (w.heap.size, 0), (w.heap.size, 1), (w.heap.size, 2), (w.heap.size, 3)] (((w12.setCell ⟨w.heap.size, 0, none⟩ (.bool a0)).setCell ⟨w.heap.size, 1, none⟩ (.slice p11 n11 c11)).setCell ⟨w.heap.size, 2, none⟩ (.bool b0)) := S.set (g := w.heap.size) (o := 2) (.bool b0) (by simp) (by simp <;> omega) (by omega)
  have K16 : Kp (((w12.setCell ⟨w.heap.size, 0, none⟩ (.bool a0)).setCell ⟨w.heap.size, 1, none⟩ (.slice p11 n11 c11)).setCell ⟨w.heap.size, 2, none⟩ (.bool b0)) ((((w12.setCell ⟨w.heap.size, 0, none⟩ (.bool a0)).setCell ⟨w.heap.size, 1, none⟩ (.slice p11 n11 c11)).setCell ⟨w.heap.size, 2, none⟩ (.bool b0)).setCell ⟨w.heap.size, 3, none⟩ (.slice q11 m11 f11)) := S.kp (g := w.heap.size) (o := 3) (x := .slice p0' ys0.length c0') (.slice q11 m11 f11) (by simp) (by simp)
  replace S : St w [(w.heap.size, 3, .slice q11 m11 f11), (w.heap.size + 1 + 1, 0, .bool a2), (w.heap.size + 1 + 1, 1, .slice p2 xs2.length c2), (w.heap.size + 1 + 1, 2, .bool b2), (w.heap.size + 1 + 1, 3, .slice p2' ys2.length c2'), (w.heap.size + 1, 0, .bool a1), (w.heap.size + 1, 1, .slice p1 xs1.length c1), (w.heap.size + 1, 2, .bool b1), (w.heap.size + 1, 3, .slice p1' ys1.length c1'), (w.heap.size, 0, .bool a0), (w.heap.size, 1, .slice p11 n11 c11), (w.heap.size, 2, .bool b0)] [(w.heap.size + 1 + 1, 0), (w.heap.size + 1 + 1, 1), (w.heap.size + 1 + 1, 2), (w.heap.size + 1 + 1, 3), (w.heap.size + 1, 0), (w.heap.size + 1, 1), (w.heap.size + 1, 2), (w.heap.size + 1, 3), (w.heap.size, 0), (w.heap.size, 1), (w.heap.size, 2), (w.heap.size, 3)] ((((w12.setCell ⟨w.heap.size, 0, none⟩ (.bool a0)).setCell ⟨w.heap.size, 1, none⟩ (.slice p11 n11 c11)).setCell ⟨w.heap.size, 2, none⟩ (.bool b0)).setCell ⟨w.heap.size, 3, none⟩ (.slice q11 m11 f11)) := S.set (g := w.heap.size) (o := 3) (.slice q11 m11 f11) (by simp) (by simp <;> omega) (by omega)
  replace S : St w [(w.heap.size + 1 + 1, 0, .bool a2), (w.heap.size + 1 + 1, 1, .slice p2 xs2.length c2), (w.heap.size + 1 + 1, 2, .bool b2), (w.heap.size + 1 + 1, 3, .slice p2' ys2.length c2'), (w.heap.size + 1, 0, .bool a1), (w.heap.size + 1, 1, .slice p1 xs1.length c1), (w.heap.size + 1, 2, .bool b1), (w.heap.size + 1, 3, .slice p1' ys1.length c1'), (w.heap.size, 0, .bool a0), (w.heap.size, 1, .slice p11 n11 c11), (w.heap.size, 2, .bool b0), (w.heap.size, 3, .slice q11 m11 f11)] [(w.heap.size + 1 + 1, 0), (w.heap.size + 1 + 1, 1), (w.heap.size + 1 + 1, 2), (w.heap.size + 1 + 1, 3), (w.heap.size + 1, 0), (w.heap.size + 1, 1), (w.heap.size + 1, 2), (w.heap.size + 1, 3), (w.heap.size, 0), (w.heap.size, 1), (w.heap.size, 2), (w.heap.size, 3)] ((((w12.setCell ⟨w.heap.size, 0, none⟩ (.bool a0)).setCell ⟨w.heap.size, 1, none⟩ (.slice p11 n11 c11)).setCell ⟨w.heap.size, 2, none⟩ (.bool b0)).setCell ⟨w.heap.size, 3, none⟩ (.slice q11 m11 f11)) := S.sub (by simp) (by simp)
  replace X1 := Lib.hid (X1.out.kp (((K13.trans K14).trans K15).trans K16))
  replace Y1 := Lib.hid (Y1.out.kp (((K13.trans K14).trans K15).trans K16))
  replace X2 := Lib.hid (X2.out.kp (((K13.trans K14).trans K15).trans K16))
  replace Y2 := Lib.hid (Y2.out.kp (((K13.trans K14).trans K15).trans K16))
  replace N11 := Lib.hid (N11.out.kp (((K13.trans K14).trans K15).trans K16))
  clear M11 K13 K14 K15 K16
  have sz17 : ((((w12.setCell ⟨w.heap.size, 0, none⟩ (.bool a0)).setCell ⟨w.heap.size, 1, none⟩ (.slice p11 n11 c11)).setCell ⟨w.heap.size, 2, none⟩ (.bool b0)).setCell ⟨w.heap.size, 3, none⟩ (.slice q11 m11 f11)).heap.size = w12.heap.size := by simp
  generalize ((((w12.setCell ⟨w.heap.size, 0, none⟩ (.bool a0)).setCell ⟨w.heap.size, 1, none⟩ (.slice p11 n11 c11)).setCell ⟨w.heap.size, 2, none⟩ (.bool b0)).setCell ⟨w.heap.size, 3, none⟩ (.slice q11 m11 f11)) = W17 at *
  go_at_call 40
  with_reducible refine (Of_v 3 (by decide) X1.out AX1.out Y1.out AY1.out (by omega) HQ1.out).mono ?_
  rintro e w19 ⟨p18, n18, c18, q18, m18, f18, x180, x181, x182, x183, y180, y181, y182, y183, rfl, h, h', g⟩
  clear X1 Y1
  replace X2 := Lib.hid (X2.out.kp (Kp.of g))
  replace Y2 := Lib.hid (Y2.out.kp (Kp.of g))
  replace N11 := Lib.hid (N11.out.kp (Kp.of g))
  have N18 := Lib.hid (h)
  have M18 := Lib.hid (h')
  replace S := S.step g
  have lg19 := g.size
  clear g h h' l0 l1 l2 lS
  have l0 := S.ltc (g := w.heap.size) (o := 0) (x := .bool a0) (by simp)
  have l1 := S.ltc (g := w.heap.size + 1) (o := 0) (x := .bool a1) (by simp)
  have l2 := S.ltc (g := w.heap.size + 1 + 1) (o := 0) (x := .bool a2) (by simp)
  have lS := S.size
  obtain ⟨e0, e1, e2, e3, e4, e5, e6, e7, e8, e9, e10, e11, h0, i0, h1, i1, h2, i2, h3, i3, h4, i4, h5, i5, h6, i6, h7, i7, h8, i8, h9, i9, h10, i10, h11, i11, G⟩ := id S
  go_wp2_with fail
  clear e0 e1 e2 e3 e4 e5 e6 e7 e8 e9 e10 e11 h0 i0 h1 i1 h2 i2 h3 i3 h4 i4 h5 i5 h6 i6 h7 i7 h8 i8 h9 i9 h10 i10 h11 i11 G
  have K20 : Kp w19 (w19.setCell ⟨w.heap.size + 1, 0, none⟩ (.bool a1)) := S.kp (g := w.heap.size + 1) (o := 0) (x := .bool a1) (.bool a1) (by simp) (by simp)
  replace S : St w [(w.heap.size + 1, 0, .bool a1), (w.heap.size + 1 + 1, 0, .bool a2), (w.heap.size + 1 + 1, 1, .slice p2 xs2.length c2), (w.heap.size + 1 + 1, 2, .bool b2), (w.heap.size + 1 + 1, 3, .slice p2' ys2.length c2'), (w.heap.size + 1, 1, .slice p1 xs1.length c1), (w.heap.size + 1, 2, .bool b1), (w.heap.size + 1, 3, .slice p1' ys1.length c1'), (w.heap.size, 0, .bool a0), (w.heap.size, 1, .slice p11 n11 c11), (w.heap.size, 2, .bool b0), (w.heap.size, 3, .slice q11 m11 f11)] [(w.heap.size + 1 + 1, 0), (w.heap.size + 1 + 1, 1), (w.heap.size + 1 + 1, 2), (w.heap.size + 1 + 1, 3), (w.heap.size + 1, 0), (w.heap.size + 1, 1), (w.heap.size + 1, 2), (w.heap.size + 1, 3), (w.heap.size, 0), (w.heap.size, 1), (w.heap.size, 2), (w.heap.size, 3)] (w19.setCell ⟨w.heap.size + 1, 0, none⟩ (.bool a1)) := S.set (g := w.heap.size + 1) (o := 0) (.bool a1) (by simp) (by simp <;> omega) (by omega)
  have K21 : Kp (w19.setCell ⟨w.heap.size + 1, 0, none⟩ (.bool a1)) ((w19.setCell ⟨w.heap.size + 1, 0, none⟩ (.bool a1)).setCell ⟨w.heap.size + 1, 1, none⟩ (.slice p18 n18 c18)) := S.kp (g := w.heap.size + 1) (o := 1) (x := .slice p1 xs1.length c1) (.slice p18 n18 c18) (by simp) (by simp)
  replace S : St w [(w.heap.size + 1, 1, .slice p18 n18 c18), (w.heap.size + 1 + 1, 0, .bool a2), (w.heap.size + 1 + 1, 1, .slice p2 xs2.length c2), (w.heap.size + 1 + 1, 2, .bool b2), (w.heap.size + 1 + 1, 3, .slice p2' ys2.length c2'), (w.heap.size + 1, 0, .bool a1), (w.heap.size + 1, 2, .bool b1), (w.heap.size + 1, 3, .slice p1' ys1.length c1'), (w.heap.size, 0, .bool a0), (w.heap.size, 1, .slice p11 n11 c11), (w.heap.size, 2, .bool b0), (w.heap.size, 3, .slice q11 m11 f11)] [(w.heap.size + 1 + 1, 0), (w.heap.size + 1 + 1, 1), (w.heap.size + 1 + 1, 2), (w.heap.size + 1 + 1, 3), (w.heap.size + 1, 0), (w.heap.size + 1, 1), (w.heap.size + 1, 2), (w.heap.size + 1, 3), (w.heap.size, 0), (w.heap.size, 1), (w.heap.size, 2), (w.heap.size, 3)] ((w19.setCell ⟨w.heap.size + 1, 0, none⟩ (.bool a1)).setCell ⟨w.heap.size + 1, 1, none⟩ (.slice p18 n18 c18)) := S.set (g := w.heap.size + 1) (o := 1) (.slice p18 n18 c18) (by simp) (by simp <;> omega) (by omega)
  have K22 : Kp ((w19.setCell ⟨w.heap.size + 1, 0, none⟩ (.bool a1)).setCell ⟨w.heap.size + 1, 1, none⟩ (.slice p18 n18 c18)) (((w19.setCell ⟨w.heap.size + 1, 0, none⟩ (.bool a1)).setCell ⟨w.heap.size + 1, 1, none⟩ (.slice p18 n18 c18)).setCell ⟨w.heap.size + 1, 2, none⟩ (.bool b1)) := S.kp (g := w.heap.size + 1) (o := 2) (x := .bool b1) (.bool b1) (by simp) (by simp)
  replace S : St w [(w.heap.size + 1, 2, .bool b1), (w.heap.size + 1 + 1, 0, .bool a2), (w.heap.size + 1 + 1, 1, .slice p2 xs2.length c2), (w.heap.size + 1 + 1, 2, .bool b2), (w.heap.size + 1 + 1, 3, .slice p2' ys2.length c2'), (w.heap.size + 1, 0, .bool a1), (w.heap.size + 1, 1, .slice p18 n18 c18), (w.heap.size + 1, 3, .slice p1' ys1.length c1'), (w.heap.size, 0, .bool a0), (w.heap.size, 1, .slice p11 n11 c11), (w.heap.size, 2, .bool b0), (w.heap.size, 3, .slice q11 m11 f11)] [(w.heap.size + 1 + 1, 0), (w.heap.size + 1 + 1, 1), (w.heap.size + 1 + 1, 2), (w.heap.size + 1 + 1, 3), (w.heap.size + 1, 0), (w.heap.size + 1, 1), (w.heap.size + 1, 2), (w.heap.size + 1, 3), (w.heap.size, 0), (w.heap.size, 1), (w.heap.size, 2), (w.heap.size, 3)] (((w19.setCell ⟨w.heap.size + 1, 0, none⟩ (.bool a1)).setCell ⟨w.heap.size + 1, 1, none⟩ (.slice p18 n18 c18)).setCell ⟨w.heap.size + 1, 2, none⟩ (.bool b1)) := S.set (g := w.heap.size + 1) (o := 2) (.bool b1) (by simp) (by simp <;> omega) (by omega)
  have K23 : Kp (((w19.setCell ⟨w.heap.size + 1, 0, none⟩ (.bool a1)).setCell ⟨w.heap.size + 1, 1, none⟩ (.slice p18 n18 c18)).setCell ⟨w.heap.size + 1, 2, none⟩ (.bool b1)) ((((w19.setCell ⟨w.heap.size + 1, 0, none⟩ (.bool a1)).setCell ⟨w.heap.size + 1, 1, none⟩ (.slice p18 n18 c18)).setCell ⟨w.heap.size + 1, 2, none⟩ (.bool b1)).setCell ⟨w.heap.size + 1, 3, none⟩ (.slice q18 m18 f18)) := S.kp (g := w.heap.size + 1) (o := 3) (x := .slice p1' ys1.length c1') (.slice q18 m18 f18) (by simp) (by simp)
  replace S : St w [(w.heap.size + 1, 3, .slice q18 m18 f18), (w.heap.size + 1 + 1, 0, .bool a2), (w.heap.size + 1 + 1, 1, .slice p2 xs2.length c2), (w.heap.size + 1 + 1, 2, .bool b2), (w.heap.size + 1 + 1, 3, .slice p2' ys2.length c2'), (w.heap.size + 1, 0, .bool a1), (w.heap.size + 1, 1, .slice p18 n18 c18), (w.heap.size + 1, 2, .bool b1), (w.heap.size, 0, .bool a0), (w.heap.size, 1, .slice p11 n11 c11), (w.heap.size, 2, .bool b0), (w.heap.size, 3, .slice q11 m11 f11)] [(w.heap.size + 1 + 1, 0), (w.heap.size + 1 + 1, 1), (w.heap.size + 1 + 1, 2), (w.heap.size + 1 + 1, 3), (w.heap.size + 1, 0), (w.heap.size + 1, 1), (w.heap.size + 1, 2), (w.heap.size + 1, 3), (w.heap.size, 0), (w.heap.size, 1), (w.heap.size, 2), (w.heap.size, 3)] ((((w19.setCell ⟨w.heap.size + 1, 0, none⟩ (.bool a1)).setCell ⟨w.heap.size + 1, 1, none⟩ (.slice p18 n18 c18)).setCell ⟨w.heap.size + 1, 2, none⟩ (.bool b1)).setCell ⟨w.heap.size + 1, 3, none⟩ (.slice q18 m18 f18)) := S.set (g := w.heap.size + 1) (o := 3) (.slice q18 m18 f18) (by simp) (by simp <;> omega) (by omega)
  replace S : St w [(w.heap.size + 1 + 1, 0, .bool a2), (w.heap.size + 1 + 1, 1, .slice p2 xs2.length c2), (w.heap.size + 1 + 1, 2, .bool b2), (w.heap.size + 1 + 1, 3, .slice p2' ys2.length c2'), (w.heap.size + 1, 0, .bool a1), (w.heap.size + 1, 1, .slice p18 n18 c18), (w.heap.size + 1, 2, .bool b1), (w.heap.size + 1, 3, .slice q18 m18 f18), (w.heap.size, 0, .bool a0), (w.heap.size, 1, .slice p11 n11 c11), (w.heap.size, 2, .bool b0), (w.heap.size, 3, .slice q11 m11 f11)] [(w.heap.size + 1 + 1, 0), (w.heap.size + 1 + 1, 1), (w.heap.size + 1 + 1, 2), (w.heap.size + 1 + 1, 3), (w.heap.size + 1, 0), (w.heap.size + 1, 1), (w.heap.size + 1, 2), (w.heap.size + 1, 3), (w.heap.size, 0), (w.heap.size, 1), (w.heap.size, 2), (w.heap.size, 3)] ((((w19.setCell ⟨w.heap.size + 1, 0, none⟩ (.bool a1)).setCell ⟨w.heap.size + 1, 1, none⟩ (.slice p18 n18 c18)).setCell ⟨w.heap.size + 1, 2, none⟩ (.bool b1)).setCell ⟨w.heap.size + 1, 3, none⟩ (.slice q18 m18 f18)) := S.sub (by simp) (by simp)
  replace X2 := Lib.hid (X2.out.kp (((K20.trans K21).trans K22).trans K23))
  replace Y2 := Lib.hid (Y2.out.kp (((K20.trans K21).trans K22).trans K23))
  replace N11 := Lib.hid (N11.out.kp (((K20.trans K21).trans K22).trans K23))
  replace N18 := Lib.hid (N18.out.kp (((K20.trans K21).trans K22).trans K23))
  clear M18 K20 K21 K22 K23
  have sz24 : ((((w19.setCell ⟨w.heap.size + 1, 0, none⟩ (.bool a1)).setCell ⟨w.heap.size + 1, 1, none⟩ (.slice p18 n18 c18)).setCell ⟨w.heap.size + 1, 2, none⟩ (.bool b1)).setCell ⟨w.heap.size + 1, 3, none⟩ (.slice q18 m18 f18)).heap.size = w19.heap.size := by simp
  generalize ((((w19.setCell ⟨w.heap.size + 1, 0, none⟩ (.bool a1)).setCell ⟨w.heap.size + 1, 1, none⟩ (.slice p18 n18 c18)).setCell ⟨w.heap.size + 1, 2, none⟩ (.bool b1)).setCell ⟨w.heap.size + 1, 3, none⟩ (.slice q18 m18 f18)) = W24 at *
  go_at_call 40
  with_reducible refine (Of_v 3 (by decide) X2.out AX2.out Y2.out AY2.out (by omega) HQ2.out).mono ?_
  rintro e w26 ⟨p25, n25, c25, q25, m25, f25, x250, x251, x252, x253, y250, y251, y252, y253, rfl, h, h', g⟩
  clear X2 Y2
  replace N11 := Lib.hid (N11.out.kp (Kp.of g))
  replace N18 := Lib.hid (N18.out.kp (Kp.of g))
  have N25 := Lib.hid (h)
  have M25 := Lib.hid (h')
  replace S := S.step g
  have lg26 := g.size
  clear g h h' l0 l1 l2 lS
  have l0 := S.ltc (g := w.heap.size) (o := 0) (x := .bool a0) (by simp)
  have l1 := S.ltc (g := w.heap.size + 1) (o := 0) (x := .bool a1) (by simp)
  have l2 := S.ltc (g := w.heap.size + 1 + 1) (o := 0) (x := .bool a2) (by simp)
  have lS := S.size
  obtain ⟨e0, e1, e2, e3, e4, e5, e6, e7, e8, e9, e10, e11, h0, i0, h1, i1, h2, i2, h3, i3, h4, i4, h5, i5, h6, i6, h7, i7, h8, i8, h9, i9, h10, i10, h11, i11, G⟩ := id S
  go_wp2_with fail
  clear e0 e1 e2 e3 e4 e5 e6 e7 e8 e9 e10 e11 h0 i0 h1 i1 h2 i2 h3 i3 h4 i4 h5 i5 h6 i6 h7 i7 h8 i8 h9 i9 h10 i10 h11 i11 G
  have K27 : Kp w26 (w26.setCell ⟨w.heap.size + 1 + 1, 0, none⟩ (.bool a2)) := S.kp (g := w.heap.size + 1 + 1) (o := 0) (x := .bool a2) (.bool a2) (by simp) (by simp)
  replace S : St w [(w.heap.size + 1 + 1, 0, .bool a2), (w.heap.size + 1 + 1, 1, .slice p2 xs2.length c2), (w.heap.size + 1 + 1, 2, .bool b2), (w.heap.size + 1 + 1, 3, .slice p2' ys2.length c2'), (w.heap.size + 1, 0, .bool a1), (w.heap.size + 1, 1, .slice p18 n18 c18), (w.heap.size + 1, 2, .bool b1), (w.heap.size + 1, 3, .slice q18 m18 f18), (w.heap.size, 0, .bool a0), (w.heap.size, 1, .slice p11 n11 c11), (w.heap.size, 2, .bool b0), (w.heap.size, 3, .slice q11 m11 f11)] [(w.heap.size + 1 + 1, 0), (w.heap.size + 1 + 1, 1), (w.heap.size + 1 + 1, 2), (w.heap.size + 1 + 1, 3), (w.heap.size + 1, 0), (w.heap.size + 1, 1), (w.heap.size + 1, 2), (w.heap.size + 1, 3), (w.heap.size, 0), (w.heap.size, 1), (w.heap.size, 2), (w.heap.size, 3)] (w26.setCell ⟨w.heap.size + 1 + 1, 0, none⟩ (.bool a2)) := S.set (g := w.heap.size + 1 + 1) (o := 0) (.bool a2) (by simp) (by simp <;> omega) (by omega)
  have K28 : Kp (w26.setCell ⟨w.heap.size + 1 + 1, 0, none⟩ (.bool a2)) ((w26.setCell ⟨w.heap.size + 1 + 1, 0, none⟩ (.bool a2)).setCell ⟨w.heap.size + 1 + 1, 1, none⟩ (.slice p25 n25 c25)) := S.kp (g := w.heap.size + 1 + 1) (o := 1) (x := .slice p2 xs2.length c2) (.slice p25 n25 c25) (by simp) (by simp)
  replace S : St w [(w.heap.size + 1 + 1, 1, .slice p25 n25 c25), (w.heap.size + 1 + 1, 0, .bool a2), (w.heap.size + 1 + 1, 2, .bool b2), (w.heap.size + 1 + 1, 3, .slice p2' ys2.length c2'), (w.heap.size + 1, 0, .bool a1), (w.heap.size + 1, 1, .slice p18 n18 c18), (w.heap.size + 1, 2, .bool b1), (w.heap.size + 1, 3, .slice q18 m18 f18), (w.heap.size, 0, .bool a0), (w.heap.size, 1, .slice p11 n11 c11), (w.heap.size, 2, .bool b0), (w.heap.size, 3, .slice q11 m11 f11)] [(w.heap.size + 1 + 1, 0), (w.heap.size + 1 + 1, 1), (w.heap.size + 1 + 1, 2), (w.heap.size + 1 + 1, 3), (w.heap.size + 1, 0), (w.heap.size + 1, 1), (w.heap.size + 1, 2), (w.heap.size + 1, 3), (w.heap.size, 0), (w.heap.size, 1), (w.heap.size, 2), (w.heap.size, 3)] ((w26.setCell ⟨w.heap.size + 1 + 1, 0, none⟩ (.bool a2)).setCell ⟨w.heap.size + 1 + 1, 1, none⟩ (.slice p25 n25 c25)) := S.set (g := w.heap.size + 1 + 1) (o := 1) (.slice p25 n25 c25) (by simp) (by simp <;> omega) (by omega)
  have K29 : Kp ((w26.setCell ⟨w.heap.size + 1 + 1, 0, none⟩ (.bool a2)).setCell ⟨w.heap.size + 1 + 1, 1, none⟩ (.slice p25 n25 c25)) (((w26.setCell ⟨w.heap.size + 1 + 1, 0, none⟩ (.bool a2)).setCell ⟨w.heap.size + 1 + 1, 1, none⟩ (.slice p25 n25 c25)).setCell ⟨w.heap.size + 1 + 1, 2, none⟩ (.bool b2)) := S.kp (g := w.heap.size + 1 + 1) (o := 2) (x := .bool b2) (.bool b2) (by simp) (by simp)
  replace S : St w [(w.heap.size + 1 + 1, 2, .bool b2), (w.heap.size + 1 + 1, 0, .bool a2), (w.heap.size + 1 + 1, 1, .slice p25 n25 c25), (w.heap.size + 1 + 1, 3, .slice p2' ys2.length c2'), (w.heap.size + 1, 0, .bool a1), (w.heap.size + 1, 1, .slice p18 n18 c18), (w.heap.size + 1, 2, .bool b1), (w.heap.size + 1, 3, .slice q18 m18 f18), (w.heap.size, 0, .bool a0), (w.heap.size, 1, .slice p11 n11 c11), (w.heap.size, 2, .bool b0), (w.heap.size, 3, .slice q11 m11 f11)] [(w.heap.size + 1 + 1, 0), (w.heap.size + 1 + 1, 1), (w.heap.size + 1 + 1, 2), (w.heap.size + 1 + 1, 3), (w.heap.size + 1, 0), (w.heap.size + 1, 1), (w.heap.size + 1, 2), (w.heap.size + 1, 3), (w.heap.size, 0), (w.heap.size, 1), (w.heap.size, 2), (w.heap.size, 3)] (((w26.setCell ⟨w.heap.size + 1 + 1, 0, none⟩ (.bool a2)).setCell ⟨w.heap.size + 1 + 1, 1, none⟩ (.slice p25 n25 c25)).setCell ⟨w.heap.size + 1 + 1, 2, none⟩ (.bool b2)) := S.set (g := w.heap.size + 1 + 1) (o := 2) (.bool b2) (by simp) (by simp <;> omega) (by omega)
  have K30 : Kp (((w26.setCell ⟨w.heap.size + 1 + 1, 0, none⟩ (.bool a2)).setCell ⟨w.heap.size + 1 + 1, 1, none⟩ (.slice p25 n25 c25)).setCell ⟨w.heap.size + 1 + 1, 2, none⟩ (.bool b2)) ((((w26.setCell ⟨w.heap.size + 1 + 1, 0, none⟩ (.bool a2)).setCell ⟨w.heap.size + 1 + 1, 1, none⟩ (.slice p25 n25 c25)).setCell ⟨w.heap.size + 1 + 1, 2, none⟩ (.bool b2)).setCell ⟨w.heap.size + 1 + 1, 3, none⟩ (.slice q25 m25 f25)) := S.kp (g := w.heap.size + 1 + 1) (o := 3) (x := .slice p2' ys2.length c2') (.slice q25 m25 f25) (by simp) (by simp)
  replace S : St w [(w.heap.size + 1 + 1, 3, .slice q25 m25 f25), (w.heap.size + 1 + 1, 0, .bool a2), (w.heap.size + 1 + 1, 1, .slice p25 n25 c25), (w.heap.size + 1 + 1, 2, .bool b2), (w.heap.size + 1, 0, .bool a1), (w.heap.size + 1, 1, .slice p18 n18 c18), (w.heap.size + 1, 2, .bool b1), (w.heap.size + 1, 3, .slice q18 m18 f18), (w.heap.size, 0, .bool a0), (w.heap.size, 1, .slice p11 n11 c11), (w.heap.size, 2, .bool b0), (w.heap.size, 3, .slice q11 m11 f11)] [(w.heap.size + 1 + 1, 0), (w.heap.size + 1 + 1, 1), (w.heap.size + 1 + 1, 2), (w.heap.size + 1 + 1, 3), (w.heap.size + 1, 0), (w.heap.size + 1, 1), (w.heap.size + 1, 2), (w.heap.size + 1, 3), (w.heap.size, 0), (w.heap.size, 1), (w.heap.size, 2), (w.heap.size, 3)] ((((w26.setCell ⟨w.heap.size + 1 + 1, 0, none⟩ (.bool a2)).setCell ⟨w.heap.size + 1 + 1, 1, none⟩ (.slice p25 n25 c25)).setCell ⟨w.heap.size + 1 + 1, 2, none⟩ (.bool b2)).setCell ⟨w.heap.size + 1 + 1, 3, none⟩ (.slice q25 m25 f25)) := S.set (g := w.heap.size + 1 + 1) (o := 3) (.slice q25 m25 f25) (by simp) (by simp <;> omega) (by omega)
  replace S : St w [(w.heap.size + 1 + 1, 0, .bool a2), (w.heap.size + 1 + 1, 1, .slice p25 n25 c25), (w.heap.size + 1 + 1, 2, .bool b2), (w.heap.size + 1 + 1, 3, .slice q25 m25 f25), (w.heap.size + 1, 0, .bool a1), (w.heap.size + 1, 1, .slice p18 n18 c18), (w.heap.size + 1, 2, .bool b1), (w.heap.size + 1, 3, .slice q18 m18 f18), (w.heap.size, 0, .bool a0), (w.heap.size, 1, .slice p11 n11 c11), (w.heap.size, 2, .bool b0), (w.heap.size, 3, .slice q11 m11 f11)] [(w.heap.size + 1 + 1, 0), (w.heap.size + 1 + 1, 1), (w.heap.size + 1 + 1, 2), (w.heap.size + 1 + 1, 3), (w.heap.size + 1, 0), (w.heap.size + 1, 1), (w.heap.size + 1, 2), (w.heap.size + 1, 3), (w.heap.size, 0), (w.heap.size, 1), (w.heap.size, 2), (w.heap.size, 3)] ((((w26.setCell ⟨w.heap.size + 1 + 1, 0, none⟩ (.bool a2)).setCell ⟨w.heap.size + 1 + 1, 1, none⟩ (.slice p25 n25 c25)).setCell ⟨w.heap.size + 1 + 1, 2, none⟩ (.bool b2)).setCell ⟨w.heap.size + 1 + 1, 3, none⟩ (.slice q25 m25 f25)) := S.sub (by simp) (by simp)
  replace N11 := Lib.hid (N11.out.kp (((K27.trans K28).trans K29).trans K30))
  replace N18 := Lib.hid (N18.out.kp (((K27.trans K28).trans K29).trans K30))
  replace N25 := Lib.hid (N25.out.kp (((K27.trans K28).trans K29).trans K30))
  clear M25 K27 K28 K29 K30
  have sz31 : ((((w26.setCell ⟨w.heap.size + 1 + 1, 0, none⟩ (.bool a2)).setCell ⟨w.heap.size + 1 + 1, 1, none⟩ (.slice p25 n25 c25)).setCell ⟨w.heap.size + 1 + 1, 2, none⟩ (.bool b2)).setCell ⟨w.heap.size + 1 + 1, 3, none⟩ (.slice q25 m25 f25)).heap.size = w26.heap.size := by simp
  generalize ((((w26.setCell ⟨w.heap.size + 1 + 1, 0, none⟩ (.bool a2)).setCell ⟨w.heap.size + 1 + 1, 1, none⟩ (.slice p25 n25 c25)).setCell ⟨w.heap.size + 1 + 1, 2, none⟩ (.bool b2)).setCell ⟨w.heap.size + 1 + 1, 3, none⟩ (.slice q25 m25 f25)) = W31 at *
  obtain ⟨z32, ez32⟩ : ∃ t : Rat, Rat.divInt 1 1 = t := ⟨_, rfl⟩
  have E32 := Lib.hid ez32
  clear ez32
  go_at_call 36
  with_reducible refine (ROf_g 1 1 (by decide) (by decide) (by decide) (by decide) (by decide) E32.out).mono ?_
  rintro e w33 ⟨b32, p32, n32, c32, d32, q32, m32, f32, rfl, h, g⟩
  replace N11 := Lib.hid (N11.out.kp (Kp.of g))
  replace N18 := Lib.hid (N18.out.kp (Kp.of g))
  replace N25 := Lib.hid (N25.out.kp (Kp.of g))
  have N32 := Lib.hid (h)
  replace S := S.step g
  have lg33 := g.size
  clear g h l0 l1 l2 lS
  have l0 := S.ltc (g := w.heap.size) (o := 0) (x := .bool a0) (by simp)
  have l1 := S.ltc (g := w.heap.size + 1) (o := 0) (x := .bool a1) (by simp)
  have l2 := S.ltc (g := w.heap.size + 1 + 1) (o := 0) (x := .bool a2) (by simp)
  have lS := S.size
  obtain ⟨e0, e1, e2, e3, e4, e5, e6, e7, e8, e9, e10, e11, h0, i0, h1, i1, h2, i2, h3, i3, h4, i4, h5, i5, h6, i6, h7, i7, h8, i8, h9, i9, h10, i10, h11, i11, G⟩ := id S
  go_wp2_with fail
  clear e0 e1 e2 e3 e4 e5 e6 e7 e8 e9 e10 e11 h0 i0 h1 i1 h2 i2 h3 i3 h4 i4 h5 i5 h6 i6 h7 i7 h8 i8 h9 i9 h10 i10 h11 i11 G
  replace S : St w [(w33.heap.size, 0, .bool b32), (w33.heap.size, 1, .slice p32 n32 c32), (w33.heap.size, 2, .bool d32), (w33.heap.size, 3, .slice q32 m32 f32), (w.heap.size + 1 + 1, 0, .bool a2), (w.heap.size + 1 + 1, 1, .slice p25 n25 c25), (w.heap.size + 1 + 1, 2, .bool b2), (w.heap.size + 1 + 1, 3, .slice q25 m25 f25), (w.heap.size + 1, 0, .bool a1), (w.heap.size + 1, 1, .slice p18 n18 c18), (w.heap.size + 1, 2, .bool b1), (w.heap.size + 1, 3, .slice q18 m18 f18), (w.heap.size, 0, .bool a0), (w.heap.size, 1, .slice p11 n11 c11), (w.heap.size, 2, .bool b0), (w.heap.size, 3, .slice q11 m11 f11)] [(w33.heap.size, 0), (w33.heap.size, 1), (w33.heap.size, 2), (w33.heap.size, 3), (w.heap.size + 1 + 1, 0), (w.heap.size + 1 + 1, 1), (w.heap.size + 1 + 1, 2), (w.heap.size + 1 + 1, 3), (w.heap.size + 1, 0), (w.heap.size + 1, 1), (w.heap.size + 1, 2), (w.heap.size + 1, 3), (w.heap.size, 0), (w.heap.size, 1), (w.heap.size, 2), (w.heap.size, 3)] (w33.alloc (.cells #[.bool b32, .slice p32 n32 c32, .bool d32, .slice q32 m32 f32] 46)) := S.made (w33.heap.size) [.bool b32, .slice p32 n32 c32, .bool d32, .slice q32 m32 f32] 46 (by simp)
  replace N11 := Lib.hid (N11.out.kp (Kp.of (grown_alloc w33 (.cells #[.bool b32, .slice p32 n32 c32, .bool d32, .slice q32 m32 f32] 46) none)))
  replace N18 := Lib.hid (N18.out.kp (Kp.of (grown_alloc w33 (.cells #[.bool b32, .slice p32 n32 c32, .bool d32, .slice q32 m32 f32] 46) none)))
  replace N25 := Lib.hid (N25.out.kp (Kp.of (grown_alloc w33 (.cells #[.bool b32, .slice p32 n32 c32, .bool d32, .slice q32 m32 f32] 46) none)))
  replace N32 := Lib.hid (N32.out.kp (Kp.of (grown_alloc w33 (.cells #[.bool b32, .slice p32 n32 c32, .bool d32, .slice q32 m32 f32] 46) none)))
  have sz34 : (w33.alloc (.cells #[.bool b32, .slice p32 n32 c32, .bool d32, .slice q32 m32 f32] 46)).heap.size = w33.heap.size + 1 := by simp
  generalize (w33.alloc (.cells #[.bool b32, .slice p32 n32 c32, .bool d32, .slice q32 m32 f32] 46)) = W34 at *
  have T0 : Cl [(w.heap.size, 0, .bool a0), (w.heap.size, 1, .slice p11 n11 c11), (w.heap.size, 2, .bool b0), (w.heap.size, 3, .slice q11 m11 f11), (w.heap.size + 1, 0, .bool a1), (w.heap.size + 1, 1, .slice p18 n18 c18), (w.heap.size + 1, 2, .bool b1), (w.heap.size + 1, 3, .slice q18 m18 f18), (w.heap.size + 1 + 1, 0, .bool a2), (w.heap.size + 1 + 1, 1, .slice p25 n25 c25), (w.heap.size + 1 + 1, 2, .bool b2), (w.heap.size + 1 + 1, 3, .slice q25 m25 f25)] W34 := S.cl (by simp)
  refine wp_region_noPanic ?_
  refine wp_region_held_drew (S := fun w' => w'.cell? ⟨w.heap.size, 0, none⟩ = some (.bool a0) ∧ w'.cell? ⟨w.heap.size, 1, none⟩ = some (.slice p11 n11 c11) ∧ w'.cell? ⟨w.heap.size, 2, none⟩ = some (.bool b0) ∧ w'.cell? ⟨w.heap.size, 3, none⟩ = some (.slice q11 m11 f11) ∧ w'.cell? ⟨w.heap.size + 1, 0, none⟩ = some (.bool a1) ∧ w'.cell? ⟨w.heap.size + 1, 1, none⟩ = some (.slice p18 n18 c18) ∧ w'.cell? ⟨w.heap.size + 1, 2, none⟩ = some (.bool b1) ∧ w'.cell? ⟨w.heap.size + 1, 3, none⟩ = some (.slice q18 m18 f18) ∧ w'.cell? ⟨w.heap.size + 1 + 1, 0, none⟩ = some (.bool a2) ∧ w'.cell? ⟨w.heap.size + 1 + 1, 1, none⟩ = some (.slice p25 n25 c25) ∧ w'.cell? ⟨w.heap.size + 1 + 1, 2, none⟩ = some (.bool b2) ∧ w'.cell? ⟨w.heap.size + 1 + 1, 3, none⟩ = some (.slice q25 m25 f25) ∧ True) (by kernel_rfl) (by exact Cl.step (cs := [(w.heap.size, 0, .bool a0), (w.heap.size, 1, .slice p11 n11 c11), (w.heap.size, 2, .bool b0), (w.heap.size, 3, .slice q11 m11 f11), (w.heap.size + 1, 0, .bool a1), (w.heap.size + 1, 1, .slice p18 n18 c18), (w.heap.size + 1, 2, .bool b1), (w.heap.size + 1, 3, .slice q18 m18 f18), (w.heap.size + 1 + 1, 0, .bool a2), (w.heap.size + 1 + 1, 1, .slice p25 n25 c25), (w.heap.size + 1 + 1, 2, .bool b2), (w.heap.size + 1 + 1, 3, .slice q25 m25 f25)]) (grown_drew _ _) T0) (fun hHeld => ?_)
  change wpAnyH _ _ _ _ _ 24 #[false, false, false, false, false, false, false, false, false, false, false, false, false, false, false, false, false, false, false, false, false, false, false, false] _ _
  replace S := S.step (grown_drew W34 none)
  replace N11 := Lib.hid (N11.out.kp (Kp.of (grown_drew W34 none)))
  replace N18 := Lib.hid (N18.out.kp (Kp.of (grown_drew W34 none)))
  replace N25 := Lib.hid (N25.out.kp (Kp.of (grown_drew W34 none)))
  replace N32 := Lib.hid (N32.out.kp (Kp.of (grown_drew W34 none)))
  have lg35 := (grown_drew W34 none).size
  clear T0
  generalize W34.drew = wr35 at *
  clear l0 l1 l2 lS
  have l0 := S.ltc (g := w.heap.size) (o := 0) (x := .bool a0) (by simp)
  have l1 := S.ltc (g := w.heap.size + 1) (o := 0) (x := .bool a1) (by simp)
  have l2 := S.ltc (g := w.heap.size + 1 + 1) (o := 0) (x := .bool a2) (by simp)
  have l3 := S.ltc (g := w33.heap.size) (o := 0) (x := .bool b32) (by simp)
  have lS := S.size
  refine wpAnyH_take (i := 0) (oi := _) (v := ?vq36) rfl (by kernel_rfl) (by kernel_rfl) (by kernel_rfl) (fun _ _ _ h => h) (Or.inl ⟨by rfl, ?hyq36⟩) (by assumption) ?restq36
  case hyq36 => (intro w hSw; (try dsimp only at hSw); go_simp; try with_reducible rfl)
  try simp only [Act.put, List.getElem_toArray, List.getElem_cons_zero, List.setIfInBounds_toArray, List.set_cons_zero, List.set_cons_succ]
  refine wpAnyH_take (i := 1) (oi := _) (v := ?vq37) rfl (by kernel_rfl) (by kernel_rfl) (by kernel_rfl) (fun _ _ _ h => h) (Or.inl ⟨by rfl, ?hyq37⟩) (by assumption) ?restq37
  case hyq37 => (intro w hSw; (try dsimp only at hSw); go_simp; try with_reducible rfl)
  try simp only [Act.put, List.getElem_toArray, List.getElem_cons_zero, List.getElem_cons_succ, List.setIfInBounds_toArray, List.set_cons_zero, List.set_cons_succ]
  refine wpAnyH_take (i := 2) (oi := _) (v := ?vq38) rfl (by kernel_rfl) (by kernel_rfl) (by kernel_rfl) (fun _ _ _ h => h) (Or.inl ⟨by rfl, ?hyq38⟩) (by assumption) ?restq38
  case hyq38 => (intro w hSw; (try dsimp only at hSw); go_simp; try with_reducible rfl)
  try simp only [Act.put, List.getElem_toArray, List.getElem_cons_zero, List.getElem_cons_succ, List.setIfInBounds_toArray, List.set_cons_zero, List.set_cons_succ]
  refine wpAnyH_take (i := 5) (oi := _) (v := ?vq39) rfl (by kernel_rfl) (by kernel_rfl) (by kernel_rfl) (fun _ _ _ h => h) (Or.inl ⟨by rfl, ?hyq39⟩) (by assumption) ?restq39
  case hyq39 => (intro w hSw; (try dsimp only at hSw); go_simp; try with_reducible rfl)
  try simp only [Act.put, List.getElem_toArray, List.getElem_cons_zero, List.getElem_cons_succ, List.setIfInBounds_toArray, List.set_cons_zero, List.set_cons_succ]
  refine wpAnyH_take (i := 6) (oi := _) (v := ?vq40) rfl (by kernel_rfl) (by kernel_rfl) (by kernel_rfl) (fun _ _ _ h => h) (Or.inl ⟨by rfl, ?hyq40⟩) (by assumption) ?restq40
  case hyq40 => (intro w hSw; (try dsimp only at hSw); go_simp; try with_reducible rfl)
  try simp only [Act.put, List.getElem_toArray, List.getElem_cons_zero, List.getElem_cons_succ, List.setIfInBounds_toArray, List.set_cons_zero, List.set_cons_succ]
  refine wpAnyH_take (i := 8) (oi := _) (v := ?vq41) rfl (by kernel_rfl) (by kernel_rfl) (by kernel_rfl) (fun _ _ _ h => h) (Or.inl ⟨by rfl, ?hyq41⟩) (by assumption) ?restq41
  case hyq41 => (intro w hSw; (try dsimp only at hSw); go_simp; try with_reducible rfl)
  try simp only [Act.put, List.getElem_toArray, List.getElem_cons_zero, List.getElem_cons_succ, List.setIfInBounds_toArray, List.set_cons_zero, List.set_cons_succ]
  refine wpAnyH_take (i := 9) (oi := _) (v := ?vq42) rfl (by kernel_rfl) (by kernel_rfl) (by kernel_rfl) (fun _ _ _ h => h) (Or.inl ⟨by rfl, ?hyq42⟩) (by assumption) ?restq42
  case hyq42 => (intro w hSw; (try dsimp only at hSw); go_simp; try with_reducible rfl)
  try simp only [Act.put, List.getElem_toArray, List.getElem_cons_zero, List.getElem_cons_succ, List.setIfInBounds_toArray, List.set_cons_zero, List.set_cons_succ]
  obtain ⟨z44, ez44⟩ : ∃ t : Rat, q1 + q2 = t := ⟨_, rfl⟩
  have E44 := Lib.hid ez44
  clear ez44
  refine wpAnyH_ready (rs := [3]) (by kernel_rfl) (by simp) ?_
  refine AllReadyH.cons (o := _) rfl (fun K hK => ?_) AllReadyH.nil
  go_simp
  go_at_call 43
  with_reducible refine (RAdd_g N18.out N25.out (by omega) E44.out).mono ?_
  rintro e w45 ⟨b44, p44, n44, c44, d44, q44, m44, f44, rfl, h, g⟩
  replace N11 := Lib.hid (N11.out.kp (Kp.of g))
  replace N18 := Lib.hid (N18.out.kp (Kp.of g))
  replace N25 := Lib.hid (N25.out.kp (Kp.of g))
  replace N32 := Lib.hid (N32.out.kp (Kp.of g))
  have N44 := Lib.hid (h)
  replace S := S.step g
  have lg45 := g.size
  clear l0 l1 l2 l3 lS
  have l0 := S.ltc (g := w.heap.size) (o := 0) (x := .bool a0) (by simp)
  have l1 := S.ltc (g := w.heap.size + 1) (o := 0) (x := .bool a1) (by simp)
  have l2 := S.ltc (g := w.heap.size + 1 + 1) (o := 0) (x := .bool a2) (by simp)
  have l3 := S.ltc (g := w33.heap.size) (o := 0) (x := .bool b32) (by simp)
  have lS := S.size
  go_wp2_with fail
  refine hK.out _ _ ?hSq43 (fun hHeld => ?_)
  case hSq43 => exact Cl.step (cs := [(w.heap.size, 0, .bool a0), (w.heap.size, 1, .slice p11 n11 c11), (w.heap.size, 2, .bool b0), (w.heap.size, 3, .slice q11 m11 f11), (w.heap.size + 1, 0, .bool a1), (w.heap.size + 1, 1, .slice p18 n18 c18), (w.heap.size + 1, 2, .bool b1), (w.heap.size + 1, 3, .slice q18 m18 f18), (w.heap.size + 1 + 1, 0, .bool a2), (w.heap.size + 1 + 1, 1, .slice p25 n25 c25), (w.heap.size + 1 + 1, 2, .bool b2), (w.heap.size + 1 + 1, 3, .slice q25 m25 f25)]) g (by assumption)
  clear hK K g h
  try simp only [List.setIfInBounds_toArray, List.set_cons_zero, List.set_cons_succ]
  obtain ⟨z47, ez47⟩ : ∃ t : Rat, q0 * z44 = t := ⟨_, rfl⟩
  have E47 := Lib.hid ez47
  clear ez47
  refine wpAnyH_ready (rs := [4]) (by kernel_rfl) (by simp) ?_
  refine AllReadyH.cons (o := _) rfl (fun K hK => ?_) AllReadyH.nil
  go_simp
  go_at_call 47
  with_reducible refine (RMul_g N11.out N44.out.q (by omega) E47.out).mono ?_
  rintro e w48 ⟨b47, p47, n47, c47, d47, q47, m47, f47, rfl, h, g⟩
  replace N11 := Lib.hid (N11.out.kp (Kp.of g))
  replace N18 := Lib.hid (N18.out.kp (Kp.of g))
  replace N25 := Lib.hid (N25.out.kp (Kp.of g))
  replace N32 := Lib.hid (N32.out.kp (Kp.of g))
  clear N44
  have N47 := Lib.hid (h)
  replace S := S.step g
  have lg48 := g.size
  clear l0 l1 l2 l3 lS
  have l0 := S.ltc (g := w.heap.size) (o := 0) (x := .bool a0) (by simp)
  have l1 := S.ltc (g := w.heap.size + 1) (o := 0) (x := .bool a1) (by simp)
  have l2 := S.ltc (g := w.heap.size + 1 + 1) (o := 0) (x := .bool a2) (by simp)
  have l3 := S.ltc (g := w33.heap.size) (o := 0) (x := .bool b32) (by simp)
  have lS := S.size
  go_wp2_with fail
  refine hK.out _ _ ?hSq46 (fun hHeld => ?_)
  case hSq46 => exact Cl.step (cs := [(w.heap.size, 0, .bool a0), (w.heap.size, 1, .slice p11 n11 c11), (w.heap.size, 2, .bool b0), (w.heap.size, 3, .slice q11 m11 f11), (w.heap.size + 1, 0, .bool a1), (w.heap.size + 1, 1, .slice p18 n18 c18), (w.heap.size + 1, 2, .bool b1), (w.heap.size + 1, 3, .slice q18 m18 f18), (w.heap.size + 1 + 1, 0, .bool a2), (w.heap.size + 1 + 1, 1, .slice p25 n25 c25), (w.heap.size + 1 + 1, 2, .bool b2), (w.heap.size + 1 + 1, 3, .slice q25 m25 f25)]) g (by assumption)
  clear hK K g h
  try simp only [List.setIfInBounds_toArray, List.set_cons_zero, List.set_cons_succ]
  obtain ⟨z50, ez50⟩ : ∃ t : Rat, q0 * q1 = t := ⟨_, rfl⟩
  have E50 := Lib.hid ez50
  clear ez50
  refine wpAnyH_ready (rs := [7]) (by kernel_rfl) (by simp) ?_
  refine AllReadyH.cons (o := _) rfl (fun K hK => ?_) AllReadyH.nil
  go_simp
  go_at_call 47
  with_reducible refine (RMul_g N11.out N18.out (by omega) E50.out).mono ?_
  rintro e w51 ⟨b50, p50, n50, c50, d50, q50, m50, f50, rfl, h, g⟩
  replace N11 := Lib.hid (N11.out.kp (Kp.of g))
  replace N18 := Lib.hid (N18.out.kp (Kp.of g))
  replace N25 := Lib.hid (N25.out.kp (Kp.of g))
  replace N32 := Lib.hid (N32.out.kp (Kp.of g))
  replace N47 := Lib.hid (N47.out.kp (Kp.of g))
  have N50 := Lib.hid (h)
  replace S := S.step g
  have lg51 := g.size
  clear l0 l1 l2 l3 lS
  have l0 := S.ltc (g := w.heap.size) (o := 0) (x := .bool a0) (by simp)
  have l1 := S.ltc (g := w.heap.size + 1) (o := 0) (x := .bool a1) (by simp)
  have l2 := S.ltc (g := w.heap.size + 1 + 1) (o := 0) (x := .bool a2) (by simp)
  have l3 := S.ltc (g := w33.heap.size) (o := 0) (x := .bool b32) (by simp)
  have lS := S.size
  go_wp2_with fail
  refine hK.out _ _ ?hSq49 (fun hHeld => ?_)
  case hSq49 => exact Cl.step (cs := [(w.heap.size, 0, .bool a0), (w.heap.size, 1, .slice p11 n11 c11), (w.heap.size, 2, .bool b0), (w.heap.size, 3, .slice q11 m11 f11), (w.heap.size + 1, 0, .bool a1), (w.heap.size + 1, 1, .slice p18 n18 c18), (w.heap.size + 1, 2, .bool b1), (w.heap.size + 1, 3, .slice q18 m18 f18), (w.heap.size + 1 + 1, 0, .bool a2), (w.heap.size + 1 + 1, 1, .slice p25 n25 c25), (w.heap.size + 1 + 1, 2, .bool b2), (w.heap.size + 1 + 1, 3, .slice q25 m25 f25)]) g (by assumption)
  clear hK K g h
  try simp only [List.setIfInBounds_toArray, List.set_cons_zero, List.set_cons_succ]
  obtain ⟨z53, ez53⟩ : ∃ t : Rat, q0 * q2 = t := ⟨_, rfl⟩
  have E53 := Lib.hid ez53
  clear ez53
  refine wpAnyH_ready (rs := [10]) (by kernel_rfl) (by simp) ?_
  refine AllReadyH.cons (o := _) rfl (fun K hK => ?_) AllReadyH.nil
  go_simp
  go_at_call 47
  with_reducible refine (RMul_g N11.out N25.out (by omega) E53.out).mono ?_
  rintro e w54 ⟨b53, p53, n53, c53, d53, q53, m53, f53, rfl, h, g⟩
  replace N11 := Lib.hid (N11.out.kp (Kp.of g))
  replace N18 := Lib.hid (N18.out.kp (Kp.of g))
  clear N25
  replace N32 := Lib.hid (N32.out.kp (Kp.of g))
  replace N47 := Lib.hid (N47.out.kp (Kp.of g))
  replace N50 := Lib.hid (N50.out.kp (Kp.of g))
  have N53 := Lib.hid (h)
  replace S := S.step g
  have lg54 := g.size
  clear l0 l1 l2 l3 lS
  have l0 := S.ltc (g := w.heap.size) (o := 0) (x := .bool a0) (by simp)
  have l1 := S.ltc (g := w.heap.size + 1) (o := 0) (x := .bool a1) (by simp)
  have l2 := S.ltc (g := w.heap.size + 1 + 1) (o := 0) (x := .bool a2) (by simp)
  have l3 := S.ltc (g := w33.heap.size) (o := 0) (x := .bool b32) (by simp)
  have lS := S.size
  go_wp2_with fail
  refine hK.out _ _ ?hSq52 (fun hHeld => ?_)
  case hSq52 => exact Cl.step (cs := [(w.heap.size, 0, .bool a0), (w.heap.size, 1, .slice p11 n11 c11), (w.heap.size, 2, .bool b0), (w.heap.size, 3, .slice q11 m11 f11), (w.heap.size + 1, 0, .bool a1), (w.heap.size + 1, 1, .slice p18 n18 c18), (w.heap.size + 1, 2, .bool b1), (w.heap.size + 1, 3, .slice q18 m18 f18), (w.heap.size + 1 + 1, 0, .bool a2), (w.heap.size + 1 + 1, 1, .slice p25 n25 c25), (w.heap.size + 1 + 1, 2, .bool b2), (w.heap.size + 1 + 1, 3, .slice q25 m25 f25)]) g (by assumption)
  clear hK K g h
  try simp only [List.setIfInBounds_toArray, List.set_cons_zero, List.set_cons_succ]
  obtain ⟨z56, ez56⟩ : ∃ t : Rat, z50 + z53 = t := ⟨_, rfl⟩
  have E56 := Lib.hid ez56
  clear ez56
  refine wpAnyH_ready (rs := [11]) (by kernel_rfl) (by simp) ?_
  refine AllReadyH.cons (o := _) rfl (fun K hK => ?_) AllReadyH.nil
  go_simp
  go_at_call 43
  with_reducible refine (RAdd_g N50.out.q N53.out.q (by omega) E56.out).mono ?_
  rintro e w57 ⟨b56, p56, n56, c56, d56, q56, m56, f56, rfl, h, g⟩
  replace N11 := Lib.hid (N11.out.kp (Kp.of g))
  replace N18 := Lib.hid (N18.out.kp (Kp.of g))
  replace N32 := Lib.hid (N32.out.kp (Kp.of g))
  replace N47 := Lib.hid (N47.out.kp (Kp.of g))
  clear N50 N53
  have N56 := Lib.hid (h)
  replace S := S.step g
  have lg57 := g.size
  clear l0 l1 l2 l3 lS
  have l0 := S.ltc (g := w.heap.size) (o := 0) (x := .bool a0) (by simp)
  have l1 := S.ltc (g := w.heap.size + 1) (o := 0) (x := .bool a1) (by simp)
  have l2 := S.ltc (g := w.heap.size + 1 + 1) (o := 0) (x := .bool a2) (by simp)
  have l3 := S.ltc (g := w33.heap.size) (o := 0) (x := .bool b32) (by simp)
  have lS := S.size
  go_wp2_with fail
  refine hK.out _ _ ?hSq55 (fun hHeld => ?_)
  case hSq55 => exact Cl.step (cs := [(w.heap.size, 0, .bool a0), (w.heap.size, 1, .slice p11 n11 c11), (w.heap.size, 2, .bool b0), (w.heap.size, 3, .slice q11 m11 f11), (w.heap.size + 1, 0, .bool a1), (w.heap.size + 1, 1, .slice p18 n18 c18), (w.heap.size + 1, 2, .bool b1), (w.heap.size + 1, 3, .slice q18 m18 f18), (w.heap.size + 1 + 1, 0, .bool a2), (w.heap.size + 1 + 1, 1, .slice p25 n25 c25), (w.heap.size + 1 + 1, 2, .bool b2), (w.heap.size + 1 + 1, 3, .slice q25 m25 f25)]) g (by assumption)
  clear hK K g h
  try simp only [List.setIfInBounds_toArray, List.set_cons_zero, List.set_cons_succ]
  refine wpAnyH_ready (rs := [12]) (by kernel_rfl) (by simp) ?_
  refine AllReadyH.cons (o := _) rfl (fun K hK => ?_) AllReadyH.nil
  go_simp
  go_at_call 52
  with_reducible refine (RCmp_g N47.out.q N56.out.q 0 (by omega) (cmpQ_eq (by rw [← E56.out, ← E53.out, ← E50.out, ← E47.out, ← E44.out]; grind))).mono ?_
  rintro e w59 ⟨rfl, g⟩
  replace N11 := Lib.hid (N11.out.kp (Kp.of g))
  replace N18 := Lib.hid (N18.out.kp (Kp.of g))
  replace N32 := Lib.hid (N32.out.kp (Kp.of g))
  clear N47 N56
  replace S := S.step g
  have lg59 := g.size
  clear l0 l1 l2 l3 lS
  have l0 := S.ltc (g := w.heap.size) (o := 0) (x := .bool a0) (by simp)
  have l1 := S.ltc (g := w.heap.size + 1) (o := 0) (x := .bool a1) (by simp)
  have l2 := S.ltc (g := w.heap.size + 1 + 1) (o := 0) (x := .bool a2) (by simp)
  have l3 := S.ltc (g := w33.heap.size) (o := 0) (x := .bool b32) (by simp)
  have lS := S.size
  go_wp2_with fail
  refine hK.out _ _ ?hSq58 (fun hHeld => ?_)
  case hSq58 => exact Cl.step (cs := [(w.heap.size, 0, .bool a0), (w.heap.size, 1, .slice p11 n11 c11), (w.heap.size, 2, .bool b0), (w.heap.size, 3, .slice q11 m11 f11), (w.heap.size + 1, 0, .bool a1), (w.heap.size + 1, 1, .slice p18 n18 c18), (w.heap.size + 1, 2, .bool b1), (w.heap.size + 1, 3, .slice q18 m18 f18), (w.heap.size + 1 + 1, 0, .bool a2), (w.heap.size + 1 + 1, 1, .slice p25 n25 c25), (w.heap.size + 1 + 1, 2, .bool b2), (w.heap.size + 1 + 1, 3, .slice q25 m25 f25)]) g (by assumption)
  clear hK K g
  try simp only [List.setIfInBounds_toArray, List.set_cons_zero, List.set_cons_succ]
  refine wpAnyH_take (i := 13) (oi := _) (v := .bool false) rfl (by kernel_rfl) (by kernel_rfl) (by kernel_rfl) (fun _ _ _ h => h) (Or.inl ⟨by rfl, ?hyq60⟩) (by assumption) ?restq60
  case hyq60 => (intro w hSw; (try dsimp only at hSw); go_simp; try simp only [decide_true, decide_false])
  try simp only [Act.put, List.getElem_toArray, List.getElem_cons_zero, List.getElem_cons_succ, List.setIfInBounds_toArray, List.set_cons_zero, List.set_cons_succ]
  refine wpAnyH_take (i := 14) (oi := _) (v := ?vq61) rfl (by kernel_rfl) (by kernel_rfl) (by kernel_rfl) (fun _ _ _ h => h) (Or.inl ⟨by rfl, ?hyq61⟩) (by assumption) ?restq61
  case hyq61 => (intro w hSw; (try dsimp only at hSw); go_simp; try with_reducible rfl)
  try simp only [Act.put, List.getElem_toArray, List.getElem_cons_zero, List.getElem_cons_succ, List.setIfInBounds_toArray, List.set_cons_zero, List.set_cons_succ]
  refine wpAnyH_take (i := 15) (oi := _) (v := ?vq62) rfl (by kernel_rfl) (by kernel_rfl) (by kernel_rfl) (fun _ _ _ h => h) (Or.inl ⟨by rfl, ?hyq62⟩) (by assumption) ?restq62
  case hyq62 => (intro w hSw; (try dsimp only at hSw); go_simp; try with_reducible rfl)
  try simp only [Act.put, List.getElem_toArray, List.getElem_cons_zero, List.getElem_cons_succ, List.setIfInBounds_toArray, List.set_cons_zero, List.set_cons_succ]
  refine wpAnyH_take (i := 16) (oi := _) (v := ?vq63) rfl (by kernel_rfl) (by kernel_rfl) (by kernel_rfl) (fun _ _ _ h => h) (Or.inl ⟨by rfl, ?hyq63⟩) (by assumption) ?restq63
  case hyq63 => (intro w hSw; (try dsimp only at hSw); go_simp; try with_reducible rfl)
  try simp only [Act.put, List.getElem_toArray, List.getElem_cons_zero, List.getElem_cons_succ, List.setIfInBounds_toArray, List.set_cons_zero, List.set_cons_succ]
  refine wpAnyH_take (i := 18) (oi := _) (v := ?vq64) rfl (by kernel_rfl) (by kernel_rfl) (by kernel_rfl) (fun _ _ _ h => h) (Or.inl ⟨by rfl, ?hyq64⟩) (by assumption) ?restq64
  case hyq64 => (intro w hSw; (try dsimp only at hSw); go_simp; try with_reducible rfl)
  try simp only [Act.put, List.getElem_toArray, List.getElem_cons_zero, List.getElem_cons_succ, List.setIfInBounds_toArray, List.set_cons_zero, List.set_cons_succ]
  refine wpAnyH_take (i := 20) (oi := _) (v := ?vq65) rfl (by kernel_rfl) (by kernel_rfl) (by kernel_rfl) (fun _ _ _ h => h) (Or.inl ⟨by rfl, ?hyq65⟩) (by assumption) ?restq65
  case hyq65 => (intro w hSw; (try dsimp only at hSw); go_simp; try with_reducible rfl)
  try simp only [Act.put, List.getElem_toArray, List.getElem_cons_zero, List.getElem_cons_succ, List.setIfInBounds_toArray, List.set_cons_zero, List.set_cons_succ]
  obtain ⟨z67, ez67⟩ : ∃ t : Rat, q0 + q1 = t := ⟨_, rfl⟩
  have E67 := Lib.hid ez67
  clear ez67
  refine wpAnyH_ready (rs := [17]) (by kernel_rfl) (by simp) ?_
  refine AllReadyH.cons (o := _) rfl (fun K hK => ?_) AllReadyH.nil
  go_simp
  go_at_call 43
  with_reducible refine (RAdd_g N11.out N18.out (by omega) E67.out).mono ?_
  rintro e w68 ⟨b67, p67, n67, c67, d67, q67, m67, f67, rfl, h, g⟩
  replace N11 := Lib.hid (N11.out.kp (Kp.of g))
  replace N18 := Lib.hid (N18.out.kp (Kp.of g))
  replace N32 := Lib.hid (N32.out.kp (Kp.of g))
  have N67 := Lib.hid (h)
  replace S := S.step g
  have lg68 := g.size
  clear l0 l1 l2 l3 lS
  have l0 := S.ltc (g := w.heap.size) (o := 0) (x := .bool a0) (by simp)
  have l1 := S.ltc (g := w.heap.size + 1) (o := 0) (x := .bool a1) (by simp)
  have l2 := S.ltc (g := w.heap.size + 1 + 1) (o := 0) (x := .bool a2) (by simp)
  have l3 := S.ltc (g := w33.heap.size) (o := 0) (x := .bool b32) (by simp)
  have lS := S.size
  go_wp2_with fail
  refine hK.out _ _ ?hSq66 (fun hHeld => ?_)
  case hSq66 => exact Cl.step (cs := [(w.heap.size, 0, .bool a0), (w.heap.size, 1, .slice p11 n11 c11), (w.heap.size, 2, .bool b0), (w.heap.size, 3, .slice q11 m11 f11), (w.heap.size + 1, 0, .bool a1), (w.heap.size + 1, 1, .slice p18 n18 c18), (w.heap.size + 1, 2, .bool b1), (w.heap.size + 1, 3, .slice q18 m18 f18), (w.heap.size + 1 + 1, 0, .bool a2), (w.heap.size + 1 + 1, 1, .slice p25 n25 c25), (w.heap.size + 1 + 1, 2, .bool b2), (w.heap.size + 1 + 1, 3, .slice q25 m25 f25)]) g (by assumption)
  clear hK K g h
  try simp only [List.setIfInBounds_toArray, List.set_cons_zero, List.set_cons_succ]
  obtain ⟨z70, ez70⟩ : ∃ t : Rat, z67 - q1 = t := ⟨_, rfl⟩
  have E70 := Lib.hid ez70
  clear ez70
  refine wpAnyH_ready (rs := [19]) (by kernel_rfl) (by simp) ?_
  refine AllReadyH.cons (o := _) rfl (fun K hK => ?_) AllReadyH.nil
  go_simp
  go_at_call 45
  with_reducible refine (RSub_g N67.out.q N18.out (by omega) E70.out).mono ?_
  rintro e w71 ⟨b70, p70, n70, c70, d70, q70, m70, f70, rfl, h, g⟩
  replace N11 := Lib.hid (N11.out.kp (Kp.of g))
  replace N18 := Lib.hid (N18.out.kp (Kp.of g))
  replace N32 := Lib.hid (N32.out.kp (Kp.of g))
  clear N67
  have N70 := Lib.hid (h)
  replace S := S.step g
  have lg71 := g.size
  clear l0 l1 l2 l3 lS
  have l0 := S.ltc (g := w.heap.size) (o := 0) (x := .bool a0) (by simp)
  have l1 := S.ltc (g := w.heap.size + 1) (o := 0) (x := .bool a1) (by simp)
  have l2 := S.ltc (g := w.heap.size + 1 + 1) (o := 0) (x := .bool a2) (by simp)
  have l3 := S.ltc (g := w33.heap.size) (o := 0) (x := .bool b32) (by simp)
  have lS := S.size
  go_wp2_with fail
  refine hK.out _ _ ?hSq69 (fun hHeld => ?_)
  case hSq69 => exact Cl.step (cs := [(w.heap.size, 0, .bool a0), (w.heap.size, 1, .slice p11 n11 c11), (w.heap.size, 2, .bool b0), (w.heap.size, 3, .slice q11 m11 f11), (w.heap.size + 1, 0, .bool a1), (w.heap.size + 1, 1, .slice p18 n18 c18), (w.heap.size + 1, 2, .bool b1), (w.heap.size + 1, 3, .slice q18 m18 f18), (w.heap.size + 1 + 1, 0, .bool a2), (w.heap.size + 1 + 1, 1, .slice p25 n25 c25), (w.heap.size + 1 + 1, 2, .bool b2), (w.heap.size + 1 + 1, 3, .slice q25 m25 f25)]) g (by assumption)
  clear hK K g h
  try simp only [List.setIfInBounds_toArray, List.set_cons_zero, List.set_cons_succ]
  refine wpAnyH_ready (rs := [21]) (by kernel_rfl) (by simp) ?_
  refine AllReadyH.cons (o := _) rfl (fun K hK => ?_) AllReadyH.nil
  go_simp
  go_at_call 52
  with_reducible refine (RCmp_g N70.out.q N11.out 0 (by omega) (cmpQ_eq (by rw [← E70.out, ← E67.out]; grind))).mono ?_
  rintro e w73 ⟨rfl, g⟩
  replace N11 := Lib.hid (N11.out.kp (Kp.of g))
  replace N18 := Lib.hid (N18.out.kp (Kp.of g))
  replace N32 := Lib.hid (N32.out.kp (Kp.of g))
  clear N70
  replace S := S.step g
  have lg73 := g.size
  clear l0 l1 l2 l3 lS
  have l0 := S.ltc (g := w.heap.size) (o := 0) (x := .bool a0) (by simp)
  have l1 := S.ltc (g := w.heap.size + 1) (o := 0) (x := .bool a1) (by simp)
  have l2 := S.ltc (g := w.heap.size + 1 + 1) (o := 0) (x := .bool a2) (by simp)
  have l3 := S.ltc (g := w33.heap.size) (o := 0) (x := .bool b32) (by simp)
  have lS := S.size
  go_wp2_with fail
  refine hK.out _ _ ?hSq72 (fun hHeld => ?_)
  case hSq72 => exact Cl.step (cs := [(w.heap.size, 0, .bool a0), (w.heap.size, 1, .slice p11 n11 c11), (w.heap.size, 2, .bool b0), (w.heap.size, 3, .slice q11 m11 f11), (w.heap.size + 1, 0, .bool a1), (w.heap.size + 1, 1, .slice p18 n18 c18), (w.heap.size + 1, 2, .bool b1), (w.heap.size + 1, 3, .slice q18 m18 f18), (w.heap.size + 1 + 1, 0, .bool a2), (w.heap.size + 1 + 1, 1, .slice p25 n25 c25), (w.heap.size + 1 + 1, 2, .bool b2), (w.heap.size + 1 + 1, 3, .slice q25 m25 f25)]) g (by assumption)
  clear hK K g
  try simp only [List.setIfInBounds_toArray, List.set_cons_zero, List.set_cons_succ]
  refine wpAnyH_take (i := 22) (oi := _) (v := .bool false) rfl (by kernel_rfl) (by kernel_rfl) (by kernel_rfl) (fun _ _ _ h => h) (Or.inl ⟨by rfl, ?hyq74⟩) (by assumption) ?restq74
  case hyq74 => (intro w hSw; (try dsimp only at hSw); go_simp; try simp only [decide_true, decide_false])
  try simp only [Act.put, List.getElem_toArray, List.getElem_cons_zero, List.getElem_cons_succ, List.setIfInBounds_toArray, List.set_cons_zero, List.set_cons_succ]
  refine wpAnyH_take (i := 23) (oi := _) (v := ?vq75) rfl (by kernel_rfl) (by kernel_rfl) (by kernel_rfl) (fun _ _ _ h => h) (Or.inl ⟨by rfl, ?hyq75⟩) (by assumption) ?restq75
  case hyq75 => (intro w hSw; (try dsimp only at hSw); go_simp; try with_reducible rfl)
  try simp only [Act.put, List.getElem_toArray, List.getElem_cons_zero, List.getElem_cons_succ, List.setIfInBounds_toArray, List.set_cons_zero, List.set_cons_succ]
  refine wpAnyH_done (by kernel_rfl) ?_ _
  refine NoPanic.normal ?_
  obtain ⟨e0, e1, e2, e3, e4, e5, e6, e7, e8, e9, e10, e11, e12, e13, e14, e15, h0, i0, h1, i1, h2, i2, h3, i3, h4, i4, h5, i5, h6, i6, h7, i7, h8, i8, h9, i9, h10, i10, h11, i11, h12, i12, h13, i13, h14, i14, h15, i15, G⟩ := id S
  go_wp2_with fail
  clear e0 e1 e2 e3 e4 e5 e6 e7 e8 e9 e10 e11 e12 e13 e14 e15 h0 i0 h1 i1 h2 i2 h3 i3 h4 i4 h5 i5 h6 i6 h7 i7 h8 i8 h9 i9 h10 i10 h11 i11 h12 i12 h13 i13 h14 i14 h15 i15 G
  obtain ⟨z76, ez76⟩ : ∃ t : Int, Rat.floor q0 = t := ⟨_, rfl⟩
  have E76 := Lib.hid ez76
  clear ez76
  go_at_call 57
  with_reducible refine (RFloor_g N11.out (by omega) E76.out).mono ?_
  rintro e w77 ⟨b76, p76, n76, c76, rfl, h, g⟩
  replace N11 := Lib.hid (N11.out.kp (Kp.of g))
  replace N18 := Lib.hid (N18.out.kp (Kp.of g))
  replace N32 := Lib.hid (N32.out.kp (Kp.of g))
  have N76 := Lib.hid (h)
  replace S := S.step g
  have lg77 := g.size
  clear g h l0 l1 l2 l3 lS
  have l0 := S.ltc (g := w.heap.size) (o := 0) (x := .bool a0) (by simp)
  have l1 := S.ltc (g := w.heap.size + 1) (o := 0) (x := .bool a1) (by simp)
  have l2 := S.ltc (g := w.heap.size + 1 + 1) (o := 0) (x := .bool a2) (by simp)
  have l3 := S.ltc (g := w33.heap.size) (o := 0) (x := .bool b32) (by simp)
  have lS := S.size
  obtain ⟨e0, e1, e2, e3, e4, e5, e6, e7, e8, e9, e10, e11, e12, e13, e14, e15, h0, i0, h1, i1, h2, i2, h3, i3, h4, i4, h5, i5, h6, i6, h7, i7, h8, i8, h9, i9, h10, i10, h11, i11, h12, i12, h13, i13, h14, i14, h15, i15, G⟩ := id S
  go_wp2_with fail
  clear e0 e1 e2 e3 e4 e5 e6 e7 e8 e9 e10 e11 e12 e13 e14 e15 h0 i0 h1 i1 h2 i2 h3 i3 h4 i4 h5 i5 h6 i6 h7 i7 h8 i8 h9 i9 h10 i10 h11 i11 h12 i12 h13 i13 h14 i14 h15 i15 G
  obtain ⟨z78, ez78⟩ : ∃ t : Rat, ((z76 : Int) : Rat) = t := ⟨_, rfl⟩
  have E78 := Lib.hid ez78
  clear ez78
  go_at_call 39
  with_reducible refine (RInt_z N76.out.i (by omega) E78.out).mono ?_
  rintro e w79 ⟨b78, p78, n78, c78, d78, q78, m78, f78, rfl, h, g⟩
  replace N11 := Lib.hid (N11.out.kp (Kp.of g))
  replace N18 := Lib.hid (N18.out.kp (Kp.of g))
  replace N32 := Lib.hid (N32.out.kp (Kp.of g))
  clear N76
  have N78 := Lib.hid (h)
  replace S := S.step g
  have lg79 := g.size
  clear g h l0 l1 l2 l3 lS
  have l0 := S.ltc (g := w.heap.size) (o := 0) (x := .bool a0) (by simp)
  have l1 := S.ltc (g := w.heap.size + 1) (o := 0) (x := .bool a1) (by simp)
  have l2 := S.ltc (g := w.heap.size + 1 + 1) (o := 0) (x := .bool a2) (by simp)
  have l3 := S.ltc (g := w33.heap.size) (o := 0) (x := .bool b32) (by simp)
  have lS := S.size
  obtain ⟨e0, e1, e2, e3, e4, e5, e6, e7, e8, e9, e10, e11, e12, e13, e14, e15, h0, i0, h1, i1, h2, i2, h3, i3, h4, i4, h5, i5, h6, i6, h7, i7, h8, i8, h9, i9, h10, i10, h11, i11, h12, i12, h13, i13, h14, i14, h15, i15, G⟩ := id S
  go_wp2_with fail
  clear e0 e1 e2 e3 e4 e5 e6 e7 e8 e9 e10 e11 e12 e13 e14 e15 h0 i0 h1 i1 h2 i2 h3 i3 h4 i4 h5 i5 h6 i6 h7 i7 h8 i8 h9 i9 h10 i10 h11 i11 h12 i12 h13 i13 h14 i14 h15 i15 G
  replace S : St w [(w79.heap.size, 0, .bool b78), (w79.heap.size, 1, .slice p78 n78 c78), (w79.heap.size, 2, .bool d78), (w79.heap.size, 3, .slice q78 m78 f78), (w33.heap.size, 0, .bool b32), (w33.heap.size, 1, .slice p32 n32 c32), (w33.heap.size, 2, .bool d32), (w33.heap.size, 3, .slice q32 m32 f32), (w.heap.size + 1 + 1, 0, .bool a2), (w.heap.size + 1 + 1, 1, .slice p25 n25 c25), (w.heap.size + 1 + 1, 2, .bool b2), (w.heap.size + 1 + 1, 3, .slice q25 m25 f25), (w.heap.size + 1, 0, .bool a1), (w.heap.size + 1, 1, .slice p18 n18 c18), (w.heap.size + 1, 2, .bool b1), (w.heap.size + 1, 3, .slice q18 m18 f18), (w.heap.size, 0, .bool a0), (w.heap.size, 1, .slice p11 n11 c11), (w.heap.size, 2, .bool b0), (w.heap.size, 3, .slice q11 m11 f11)] [(w79.heap.size, 0), (w79.heap.size, 1), (w79.heap.size, 2), (w79.heap.size, 3), (w33.heap.size, 0), (w33.heap.size, 1), (w33.heap.size, 2), (w33.heap.size, 3), (w.heap.size + 1 + 1, 0), (w.heap.size + 1 + 1, 1), (w.heap.size + 1 + 1, 2), (w.heap.size + 1 + 1, 3), (w.heap.size + 1, 0), (w.heap.size + 1, 1), (w.heap.size + 1, 2), (w.heap.size + 1, 3), (w.heap.size, 0), (w.heap.size, 1), (w.heap.size, 2), (w.heap.size, 3)] (w79.alloc (.cells #[.bool b78, .slice p78 n78 c78, .bool d78, .slice q78 m78 f78] 46)) := S.made (w79.heap.size) [.bool b78, .slice p78 n78 c78, .bool d78, .slice q78 m78 f78] 46 (by simp)
  replace N11 := Lib.hid (N11.out.kp (Kp.of (grown_alloc w79 (.cells #[.bool b78, .slice p78 n78 c78, .bool d78, .slice q78 m78 f78] 46) none)))
  replace N18 := Lib.hid (N18.out.kp (Kp.of (grown_alloc w79 (.cells #[.bool b78, .slice p78 n78 c78, .bool d78, .slice q78 m78 f78] 46) none)))
  replace N32 := Lib.hid (N32.out.kp (Kp.of (grown_alloc w79 (.cells #[.bool b78, .slice p78 n78 c78, .bool d78, .slice q78 m78 f78] 46) none)))
  replace N78 := Lib.hid (N78.out.kp (Kp.of (grown_alloc w79 (.cells #[.bool b78, .slice p78 n78 c78, .bool d78, .slice q78 m78 f78] 46) none)))
  have sz80 : (w79.alloc (.cells #[.bool b78, .slice p78 n78 c78, .bool d78, .slice q78 m78 f78] 46)).heap.size = w79.heap.size + 1 := by simp
  generalize (w79.alloc (.cells #[.bool b78, .slice p78 n78 c78, .bool d78, .slice q78 m78 f78] 46)) = W80 at *
  have T0 : Cl [(w79.heap.size, 0, .bool b78), (w79.heap.size, 1, .slice p78 n78 c78), (w79.heap.size, 2, .bool d78), (w79.heap.size, 3, .slice q78 m78 f78), (w.heap.size, 0, .bool a0), (w.heap.size, 1, .slice p11 n11 c11), (w.heap.size, 2, .bool b0), (w.heap.size, 3, .slice q11 m11 f11), (w33.heap.size, 0, .bool b32), (w33.heap.size, 1, .slice p32 n32 c32), (w33.heap.size, 2, .bool d32), (w33.heap.size, 3, .slice q32 m32 f32)] W80 := S.cl (by simp)
  refine wp_region_noPanic ?_
  refine wp_region_held_drew (S := fun w' => w'.cell? ⟨w79.heap.size, 0, none⟩ = some (.bool b78) ∧ w'.cell? ⟨w79.heap.size, 1, none⟩ = some (.slice p78 n78 c78) ∧ w'.cell? ⟨w79.heap.size, 2, none⟩ = some (.bool d78) ∧ w'.cell? ⟨w79.heap.size, 3, none⟩ = some (.slice q78 m78 f78) ∧ w'.cell? ⟨w.heap.size, 0, none⟩ = some (.bool a0) ∧ w'.cell? ⟨w.heap.size, 1, none⟩ = some (.slice p11 n11 c11) ∧ w'.cell? ⟨w.heap.size, 2, none⟩ = some (.bool b0) ∧ w'.cell? ⟨w.heap.size, 3, none⟩ = some (.slice q11 m11 f11) ∧ w'.cell? ⟨w33.heap.size, 0, none⟩ = some (.bool b32) ∧ w'.cell? ⟨w33.heap.size, 1, none⟩ = some (.slice p32 n32 c32) ∧ w'.cell? ⟨w33.heap.size, 2, none⟩ = some (.bool d32) ∧ w'.cell? ⟨w33.heap.size, 3, none⟩ = some (.slice q32 m32 f32) ∧ True) (by kernel_rfl) (by exact Cl.step (cs := [(w79.heap.size, 0, .bool b78), (w79.heap.size, 1, .slice p78 n78 c78), (w79.heap.size, 2, .bool d78), (w79.heap.size, 3, .slice q78 m78 f78), (w.heap.size, 0, .bool a0), (w.heap.size, 1, .slice p11 n11 c11), (w.heap.size, 2, .bool b0), (w.heap.size, 3, .slice q11 m11 f11), (w33.heap.size, 0, .bool b32), (w33.heap.size, 1, .slice p32 n32 c32), (w33.heap.size, 2, .bool d32), (w33.heap.size, 3, .slice q32 m32 f32)]) (grown_drew _ _) T0) (fun hHeld => ?_)
  change wpAnyH _ _ _ _ _ 12 #[false, false, false, false, false, false, false, false, false, false, false, false] _ _
  replace S := S.step (grown_drew W80 none)
  replace N11 := Lib.hid (N11.out.kp (Kp.of (grown_drew W80 none)))
  replace N18 := Lib.hid (N18.out.kp (Kp.of (grown_drew W80 none)))
  replace N32 := Lib.hid (N32.out.kp (Kp.of (grown_drew W80 none)))
  replace N78 := Lib.hid (N78.out.kp (Kp.of (grown_drew W80 none)))
  have lg81 := (grown_drew W80 none).size
  clear T0
  generalize W80.drew = wr81 at *
  clear l0 l1 l2 l3 lS
  have l0 := S.ltc (g := w.heap.size) (o := 0) (x := .bool a0) (by simp)
  have l1 := S.ltc (g := w.heap.size + 1) (o := 0) (x := .bool a1) (by simp)
  have l2 := S.ltc (g := w.heap.size + 1 + 1) (o := 0) (x := .bool a2) (by simp)
  have l3 := S.ltc (g := w33.heap.size) (o := 0) (x := .bool b32) (by simp)
  have l4 := S.ltc (g := w79.heap.size) (o := 0) (x := .bool b78) (by simp)
  have lS := S.size
  refine wpAnyH_take (i := 0) (oi := _) (v := ?vq82) rfl (by kernel_rfl) (by kernel_rfl) (by kernel_rfl) (fun _ _ _ h => h) (Or.inl ⟨by rfl, ?hyq82⟩) (by assumption) ?restq82
  case hyq82 => (intro w hSw; (try dsimp only at hSw); go_simp; try with_reducible rfl)
  try simp only [Act.put, List.getElem_toArray, List.getElem_cons_zero, List.setIfInBounds_toArray, List.set_cons_zero, List.set_cons_succ]
  refine wpAnyH_take (i := 1) (oi := _) (v := ?vq83) rfl (by kernel_rfl) (by kernel_rfl) (by kernel_rfl) (fun _ _ _ h => h) (Or.inl ⟨by rfl, ?hyq83⟩) (by assumption) ?restq83
  case hyq83 => (intro w hSw; (try dsimp only at hSw); go_simp; try with_reducible rfl)
  try simp only [Act.put, List.getElem_toArray, List.getElem_cons_zero, List.getElem_cons_succ, List.setIfInBounds_toArray, List.set_cons_zero, List.set_cons_succ]
  have cle : cmpQ z78 q0 ≤ 0 := cmpQ_le (by rw [← E78.out, ← E76.out]; exact Rat.floor_le _)
  obtain ⟨t, ht⟩ : ∃ t, cmpQ z78 q0 = t := ⟨_, rfl⟩
  rw [ht] at cle
  have Ht := Lib.hid ht
  have cl2 : ¬ (0 : Int) < t := by omega
  clear ht
  refine wpAnyH_ready (rs := [2]) (by kernel_rfl) (by simp) ?_
  refine AllReadyH.cons (o := _) rfl (fun K hK => ?_) AllReadyH.nil
  go_simp
  go_at_call 52
  with_reducible refine (RCmp_g N78.out.q N11.out t (by omega) Ht.out).mono ?_
  rintro e w85 ⟨rfl, g⟩
  replace N11 := Lib.hid (N11.out.kp (Kp.of g))
  replace N18 := Lib.hid (N18.out.kp (Kp.of g))
  replace N32 := Lib.hid (N32.out.kp (Kp.of g))
  replace N78 := Lib.hid (N78.out.kp (Kp.of g))
  replace S := S.step g
  have lg85 := g.size
  clear l0 l1 l2 l3 l4 lS
  have l0 := S.ltc (g := w.heap.size) (o := 0) (x := .bool a0) (by simp)
  have l1 := S.ltc (g := w.heap.size + 1) (o := 0) (x := .bool a1) (by simp)
  have l2 := S.ltc (g := w.heap.size + 1 + 1) (o := 0) (x := .bool a2) (by simp)
  have l3 := S.ltc (g := w33.heap.size) (o := 0) (x := .bool b32) (by simp)
  have l4 := S.ltc (g := w79.heap.size) (o := 0) (x := .bool b78) (by simp)
  have lS := S.size
  go_wp2_with fail
  refine hK.out _ _ ?hSq84 (fun hHeld => ?_)
  case hSq84 => exact Cl.step (cs := [(w79.heap.size, 0, .bool b78), (w79.heap.size, 1, .slice p78 n78 c78), (w79.heap.size, 2, .bool d78), (w79.heap.size, 3, .slice q78 m78 f78), (w.heap.size, 0, .bool a0), (w.heap.size, 1, .slice p11 n11 c11), (w.heap.size, 2, .bool b0), (w.heap.size, 3, .slice q11 m11 f11), (w33.heap.size, 0, .bool b32), (w33.heap.size, 1, .slice p32 n32 c32), (w33.heap.size, 2, .bool d32), (w33.heap.size, 3, .slice q32 m32 f32)]) g (by assumption)
  clear hK K g
  try simp only [List.setIfInBounds_toArray, List.set_cons_zero, List.set_cons_succ]
  refine wpAnyH_take (i := 3) (oi := _) (v := .bool false) rfl (by kernel_rfl) (by kernel_rfl) (by kernel_rfl) (fun _ _ _ h => h) (Or.inl ⟨by rfl, ?hyq86⟩) (by assumption) ?restq86
  case hyq86 => (intro w hSw; (try dsimp only at hSw); go_simp; try simp only [cl2, decide_false])
  try simp only [Act.put, List.getElem_toArray, List.getElem_cons_zero, List.getElem_cons_succ, List.setIfInBounds_toArray, List.set_cons_zero, List.set_cons_succ]
  refine wpAnyH_take (i := 4) (oi := _) (v := ?vq87) rfl (by kernel_rfl) (by kernel_rfl) (by kernel_rfl) (fun _ _ _ h => h) (Or.inl ⟨by rfl, ?hyq87⟩) (by assumption) ?restq87
  case hyq87 => (intro w hSw; (try dsimp only at hSw); go_simp; try with_reducible rfl)
  try simp only [Act.put, List.getElem_toArray, List.getElem_cons_zero, List.getElem_cons_succ, List.setIfInBounds_toArray, List.set_cons_zero, List.set_cons_succ]
  refine wpAnyH_take (i := 5) (oi := _) (v := ?vq88) rfl (by kernel_rfl) (by kernel_rfl) (by kernel_rfl) (fun _ _ _ h => h) (Or.inl ⟨by rfl, ?hyq88⟩) (by assumption) ?restq88
  case hyq88 => (intro w hSw; (try dsimp only at hSw); go_simp; try with_reducible rfl)
  try simp only [Act.put, List.getElem_toArray, List.getElem_cons_zero, List.getElem_cons_succ, List.setIfInBounds_toArray, List.set_cons_zero, List.set_cons_succ]
  refine wpAnyH_take (i := 6) (oi := _) (v := ?vq89) rfl (by kernel_rfl) (by kernel_rfl) (by kernel_rfl) (fun _ _ _ h => h) (Or.inl ⟨by rfl, ?hyq89⟩) (by assumption) ?restq89
  case hyq89 => (intro w hSw; (try dsimp only at hSw); go_simp; try with_reducible rfl)
  try simp only [Act.put, List.getElem_toArray, List.getElem_cons_zero, List.getElem_cons_succ, List.setIfInBounds_toArray, List.set_cons_zero, List.set_cons_succ]
  refine wpAnyH_take (i := 8) (oi := _) (v := ?vq90) rfl (by kernel_rfl) (by kernel_rfl) (by kernel_rfl) (fun _ _ _ h => h) (Or.inl ⟨by rfl, ?hyq90⟩) (by assumption) ?restq90
  case hyq90 => (intro w hSw; (try dsimp only at hSw); go_simp; try with_reducible rfl)
  try simp only [Act.put, List.getElem_toArray, List.getElem_cons_zero, List.getElem_cons_succ, List.setIfInBounds_toArray, List.set_cons_zero, List.set_cons_succ]
  obtain ⟨z92, ez92⟩ : ∃ t : Rat, z78 + z32 = t := ⟨_, rfl⟩
  have E92 := Lib.hid ez92
  clear ez92
  refine wpAnyH_ready (rs := [7]) (by kernel_rfl) (by simp) ?_
  refine AllReadyH.cons (o := _) rfl (fun K hK => ?_) AllReadyH.nil
  go_simp
  go_at_call 43
  with_reducible refine (RAdd_g N78.out.q N32.out.q (by omega) E92.out).mono ?_
  rintro e w93 ⟨b92, p92, n92, c92, d92, q92, m92, f92, rfl, h, g⟩
  replace N11 := Lib.hid (N11.out.kp (Kp.of g))
  replace N18 := Lib.hid (N18.out.kp (Kp.of g))
  clear N32 N78
  have N92 := Lib.hid (h)
  replace S := S.step g
  have lg93 := g.size
  clear l0 l1 l2 l3 l4 lS
  have l0 := S.ltc (g := w.heap.size) (o := 0) (x := .bool a0) (by simp)
  have l1 := S.ltc (g := w.heap.size + 1) (o := 0) (x := .bool a1) (by simp)
  have l2 := S.ltc (g := w.heap.size + 1 + 1) (o := 0) (x := .bool a2) (by simp)
  have l3 := S.ltc (g := w33.heap.size) (o := 0) (x := .bool b32) (by simp)
  have l4 := S.ltc (g := w79.heap.size) (o := 0) (x := .bool b78) (by simp)
  have lS := S.size
  go_wp2_with fail
  refine hK.out _ _ ?hSq91 (fun hHeld => ?_)
  case hSq91 => exact Cl.step (cs := [(w79.heap.size, 0, .bool b78), (w79.heap.size, 1, .slice p78 n78 c78), (w79.heap.size, 2, .bool d78), (w79.heap.size, 3, .slice q78 m78 f78), (w.heap.size, 0, .bool a0), (w.heap.size, 1, .slice p11 n11 c11), (w.heap.size, 2, .bool b0), (w.heap.size, 3, .slice q11 m11 f11), (w33.heap.size, 0, .bool b32), (w33.heap.size, 1, .slice p32 n32 c32), (w33.heap.size, 2, .bool d32), (w33.heap.size, 3, .slice q32 m32 f32)]) g (by assumption)
  clear hK K g h
  try simp only [List.setIfInBounds_toArray, List.set_cons_zero, List.set_cons_succ]
  refine wpAnyH_ready (rs := [9]) (by kernel_rfl) (by simp) ?_
  refine AllReadyH.cons (o := _) rfl (fun K hK => ?_) AllReadyH.nil
  go_simp
  go_at_call 52
  with_reducible refine (RCmp_g N92.out.q N11.out 1 (by omega) (cmpQ_gt (by rw [← E92.out, ← E78.out, ← E76.out, ← E32.out]; exact floor_up1 _))).mono ?_
  rintro e w95 ⟨rfl, g⟩
  replace N11 := Lib.hid (N11.out.kp (Kp.of g))
  replace N18 := Lib.hid (N18.out.kp (Kp.of g))
  clear N92
  replace S := S.step g
  have lg95 := g.size
  clear l0 l1 l2 l3 l4 lS
  have l0 := S.ltc (g := w.heap.size) (o := 0) (x := .bool a0) (by simp)
  have l1 := S.ltc (g := w.heap.size + 1) (o := 0) (x := .bool a1) (by simp)
  have l2 := S.ltc (g := w.heap.size + 1 + 1) (o := 0) (x := .bool a2) (by simp)
  have l3 := S.ltc (g := w33.heap.size) (o := 0) (x := .bool b32) (by simp)
  have l4 := S.ltc (g := w79.heap.size) (o := 0) (x := .bool b78) (by simp)
  have lS := S.size
  go_wp2_with fail
  refine hK.out _ _ ?hSq94 (fun hHeld => ?_)
  case hSq94 => exact Cl.step (cs := [(w79.heap.size, 0, .bool b78), (w79.heap.size, 1, .slice p78 n78 c78), (w79.heap.size, 2, .bool d78), (w79.heap.size, 3, .slice q78 m78 f78), (w.heap.size, 0, .bool a0), (w.heap.size, 1, .slice p11 n11 c11), (w.heap.size, 2, .bool b0), (w.heap.size, 3, .slice q11 m11 f11), (w33.heap.size, 0, .bool b32), (w33.heap.size, 1, .slice p32 n32 c32), (w33.heap.size, 2, .bool d32), (w33.heap.size, 3, .slice q32 m32 f32)]) g (by assumption)
  clear hK K g
  try simp only [List.setIfInBounds_toArray, List.set_cons_zero, List.set_cons_succ]
  refine wpAnyH_take (i := 10) (oi := _) (v := .bool false) rfl (by kernel_rfl) (by kernel_rfl) (by kernel_rfl) (fun _ _ _ h => h) (Or.inl ⟨by rfl, ?hyq96⟩) (by assumption) ?restq96
  case hyq96 => (intro w hSw; (try dsimp only at hSw); go_simp; try simp only [decide_true, decide_false])
  try simp only [Act.put, List.getElem_toArray, List.getElem_cons_zero, List.getElem_cons_succ, List.setIfInBounds_toArray, List.set_cons_zero, List.set_cons_succ]
  refine wpAnyH_take (i := 11) (oi := _) (v := ?vq97) rfl (by kernel_rfl) (by kernel_rfl) (by kernel_rfl) (fun _ _ _ h => h) (Or.inl ⟨by rfl, ?hyq97⟩) (by assumption) ?restq97
  case hyq97 => (intro w hSw; (try dsimp only at hSw); go_simp; try with_reducible rfl)
  try simp only [Act.put, List.getElem_toArray, List.getElem_cons_zero, List.getElem_cons_succ, List.setIfInBounds_toArray, List.set_cons_zero, List.set_cons_succ]
  refine wpAnyH_done (by kernel_rfl) ?_ _
  refine NoPanic.normal ?_
  obtain ⟨e0, e1, e2, e3, e4, e5, e6, e7, e8, e9, e10, e11, e12, e13, e14, e15, e16, e17, e18, e19, h0, i0, h1, i1, h2, i2, h3, i3, h4, i4, h5, i5, h6, i6, h7, i7, h8, i8, h9, i9, h10, i10, h11, i11, h12, i12, h13, i13, h14, i14, h15, i15, h16, i16, h17, i17, h18, i18, h19, i19, G⟩ := id S
  go_wp2_with fail
  clear e0 e1 e2 e3 e4 e5 e6 e7 e8 e9 e10 e11 e12 e13 e14 e15 e16 e17 e18 e19 h0 i0 h1 i1 h2 i2 h3 i3 h4 i4 h5 i5 h6 i6 h7 i7 h8 i8 h9 i9 h10 i10 h11 i11 h12 i12 h13 i13 h14 i14 h15 i15 h16 i16 h17 i17 h18 i18 h19 i19 G
  by_cases hb : q1 = 0
  · have B0 := Lib.hid hb
    clear hb
    go_at_call 54
    with_reducible refine (RQuo_0 N11.out N18.out (by omega) B0.out).mono ?_
    rintro e w99 ⟨rfl, g⟩
    replace N11 := Lib.hid (N11.out.kp (Kp.of g))
    replace N18 := Lib.hid (N18.out.kp (Kp.of g))
    replace S := S.step g
    have lg99 := g.size
    clear g l0 l1 l2 l3 l4 lS
    have l0 := S.ltc (g := w.heap.size) (o := 0) (x := .bool a0) (by simp)
    have l1 := S.ltc (g := w.heap.size + 1) (o := 0) (x := .bool a1) (by simp)
    have l2 := S.ltc (g := w.heap.size + 1 + 1) (o := 0) (x := .bool a2) (by simp)
    have l3 := S.ltc (g := w33.heap.size) (o := 0) (x := .bool b32) (by simp)
    have l4 := S.ltc (g := w79.heap.size) (o := 0) (x := .bool b78) (by simp)
    have lS := S.size
    obtain ⟨e0, e1, e2, e3, e4, e5, e6, e7, e8, e9, e10, e11, e12, e13, e14, e15, e16, e17, e18, e19, h0, i0, h1, i1, h2, i2, h3, i3, h4, i4, h5, i5, h6, i6, h7, i7, h8, i8, h9, i9, h10, i10, h11, i11, h12, i12, h13, i13, h14, i14, h15, i15, h16, i16, h17, i17, h18, i18, h19, i19, G⟩ := id S
    go_wp2_with fail
    clear e0 e1 e2 e3 e4 e5 e6 e7 e8 e9 e10 e11 e12 e13 e14 e15 e16 e17 e18 e19 h0 i0 h1 i1 h2 i2 h3 i3 h4 i4 h5 i5 h6 i6 h7 i7 h8 i8 h9 i9 h10 i10 h11 i11 h12 i12 h13 i13 h14 i14 h15 i15 h16 i16 h17 i17 h18 i18 h19 i19 G
    replace S : St w [(w99.heap.size, 0, .bool false), (w99.heap.size, 1, .slice none 0 0), (w99.heap.size, 2, .bool false), (w99.heap.size, 3, .slice none 0 0), (w79.heap.size, 0, .bool b78), (w79.heap.size, 1, .slice p78 n78 c78), (w79.heap.size, 2, .bool d78), (w79.heap.size, 3, .slice q78 m78 f78), (w33.heap.size, 0, .bool b32), (w33.heap.size, 1, .slice p32 n32 c32), (w33.heap.size, 2, .bool d32), (w33.heap.size, 3, .slice q32 m32 f32), (w.heap.size + 1 + 1, 0, .bool a2), (w.heap.size + 1 + 1, 1, .slice p25 n25 c25), (w.heap.size + 1 + 1, 2, .bool b2), (w.heap.size + 1 + 1, 3, .slice q25 m25 f25), (w.heap.size + 1, 0, .bool a1), (w.heap.size + 1, 1, .slice p18 n18 c18), (w.heap.size + 1, 2, .bool b1), (w.heap.size + 1, 3, .slice q18 m18 f18), (w.heap.size, 0, .bool a0), (w.heap.size, 1, .slice p11 n11 c11), (w.heap.size, 2, .bool b0), (w.heap.size, 3, .slice q11 m11 f11)] [(w99.heap.size, 0), (w99.heap.size, 1), (w99.heap.size, 2), (w99.heap.size, 3), (w79.heap.size, 0), (w79.heap.size, 1), (w79.heap.size, 2), (w79.heap.size, 3), (w33.heap.size, 0), (w33.heap.size, 1), (w33.heap.size, 2), (w33.heap.size, 3), (w.heap.size + 1 + 1, 0), (w.heap.size + 1 + 1, 1), (w.heap.size + 1 + 1, 2), (w.heap.size + 1 + 1, 3), (w.heap.size + 1, 0), (w.heap.size + 1, 1), (w.heap.size + 1, 2), (w.heap.size + 1, 3), (w.heap.size, 0), (w.heap.size, 1), (w.heap.size, 2), (w.heap.size, 3)] (w99.alloc (.cells #[.bool false, .slice none 0 0, .bool false, .slice none 0 0] 46)) := S.made (w99.heap.size) [.bool false, .slice none 0 0, .bool false, .slice none 0 0] 46 (by simp)
    replace N11 := Lib.hid (N11.out.kp (Kp.of (grown_alloc w99 (.cells #[.bool false, .slice none 0 0, .bool false, .slice none 0 0] 46) none)))
    replace N18 := Lib.hid (N18.out.kp (Kp.of (grown_alloc w99 (.cells #[.bool false, .slice none 0 0, .bool false, .slice none 0 0] 46) none)))
    have sz100 : (w99.alloc (.cells #[.bool false, .slice none 0 0, .bool false, .slice none 0 0] 46)).heap.size = w99.heap.size + 1 := by simp
    generalize (w99.alloc (.cells #[.bool false, .slice none 0 0, .bool false, .slice none 0 0] 46)) = W100 at *
    have T0 : Cl [(w99.heap.size, 0, .bool false), (w99.heap.size, 1, .slice none 0 0), (w99.heap.size, 2, .bool false), (w99.heap.size, 3, .slice none 0 0), (w.heap.size + 1, 0, .bool a1), (w.heap.size + 1, 1, .slice p18 n18 c18), (w.heap.size + 1, 2, .bool b1), (w.heap.size + 1, 3, .slice q18 m18 f18), (w.heap.size, 0, .bool a0), (w.heap.size, 1, .slice p11 n11 c11), (w.heap.size, 2, .bool b0), (w.heap.size, 3, .slice q11 m11 f11)] W100 := S.cl (by simp)
    refine wp_region_noPanic ?_
    refine wp_region_held_drew (S := fun w' => w'.cell? ⟨w99.heap.size, 0, none⟩ = some (.bool false) ∧ w'.cell? ⟨w99.heap.size, 1, none⟩ = some (.slice none 0 0) ∧ w'.cell? ⟨w99.heap.size, 2, none⟩ = some (.bool false) ∧ w'.cell? ⟨w99.heap.size, 3, none⟩ = some (.slice none 0 0) ∧ w'.cell? ⟨w.heap.size + 1, 0, none⟩ = some (.bool a1) ∧ w'.cell? ⟨w.heap.size + 1, 1, none⟩ = some (.slice p18 n18 c18) ∧ w'.cell? ⟨w.heap.size + 1, 2, none⟩ = some (.bool b1) ∧ w'.cell? ⟨w.heap.size + 1, 3, none⟩ = some (.slice q18 m18 f18) ∧ w'.cell? ⟨w.heap.size, 0, none⟩ = some (.bool a0) ∧ w'.cell? ⟨w.heap.size, 1, none⟩ = some (.slice p11 n11 c11) ∧ w'.cell? ⟨w.heap.size, 2, none⟩ = some (.bool b0) ∧ w'.cell? ⟨w.heap.size, 3, none⟩ = some (.slice q11 m11 f11) ∧ True) (by kernel_rfl) (by exact Cl.step (cs := [(w99.heap.size, 0, .bool false), (w99.heap.size, 1, .slice none 0 0), (w99.heap.size, 2, .bool false), (w99.heap.size, 3, .slice none 0 0), (w.heap.size + 1, 0, .bool a1), (w.heap.size + 1, 1, .slice p18 n18 c18), (w.heap.size + 1, 2, .bool b1), (w.heap.size + 1, 3, .slice q18 m18 f18), (w.heap.size, 0, .bool a0), (w.heap.size, 1, .slice p11 n11 c11), (w.heap.size, 2, .bool b0), (w.heap.size, 3, .slice q11 m11 f11)]) (grown_drew _ _) T0) (fun hHeld => ?_)
    change wpAnyH _ _ _ _ _ 10 #[false, false, false, false, false, false, false, false, false, false] _ _
    replace S := S.step (grown_drew W100 none)
    replace N11 := Lib.hid (N11.out.kp (Kp.of (grown_drew W100 none)))
    replace N18 := Lib.hid (N18.out.kp (Kp.of (grown_drew W100 none)))
    have lg101 := (grown_drew W100 none).size
    clear T0
    generalize W100.drew = wr101 at *
    clear l0 l1 l2 l3 l4 lS
    have l0 := S.ltc (g := w.heap.size) (o := 0) (x := .bool a0) (by simp)
    have l1 := S.ltc (g := w.heap.size + 1) (o := 0) (x := .bool a1) (by simp)
    have l2 := S.ltc (g := w.heap.size + 1 + 1) (o := 0) (x := .bool a2) (by simp)
    have l3 := S.ltc (g := w33.heap.size) (o := 0) (x := .bool b32) (by simp)
    have l4 := S.ltc (g := w79.heap.size) (o := 0) (x := .bool b78) (by simp)
    have l5 := S.ltc (g := w99.heap.size) (o := 0) (x := .bool false) (by simp)
    have lS := S.size
    refine wpAnyH_take (i := 0) (oi := _) (v := ?vq102) rfl (by kernel_rfl) (by kernel_rfl) (by kernel_rfl) (fun _ _ _ h => h) (Or.inl ⟨by rfl, ?hyq102⟩) (by assumption) ?restq102
    case hyq102 => (intro w hSw; (try dsimp only at hSw); go_simp; try with_reducible rfl)
    try simp only [Act.put, List.getElem_toArray, List.getElem_cons_zero, List.setIfInBounds_toArray, List.set_cons_zero, List.set_cons_succ]
    refine wpAnyH_take (i := 1) (oi := _) (v := .bool false) rfl (by kernel_rfl) (by kernel_rfl) (by kernel_rfl) (fun _ _ _ h => h) (Or.inl ⟨by rfl, ?hyq103⟩) (by assumption) ?restq103
    case hyq103 => (intro w hSw; (try dsimp only at hSw); go_simp; try simp only [decide_true, decide_false])
    try simp only [Act.put, List.getElem_toArray, List.getElem_cons_zero, List.getElem_cons_succ, List.setIfInBounds_toArray, List.set_cons_zero, List.set_cons_succ]
    refine wpAnyH_take (i := 2) (oi := _) (v := ?vq104) rfl (by kernel_rfl) (by kernel_rfl) (by kernel_rfl) (fun _ _ _ h => h) (Or.inl ⟨by rfl, ?hyq104⟩) (by assumption) ?restq104
    case hyq104 => (intro w hSw; (try dsimp only at hSw); go_simp; try with_reducible rfl)
    try simp only [Act.put, List.getElem_toArray, List.getElem_cons_zero, List.getElem_cons_succ, List.setIfInBounds_toArray, List.set_cons_zero, List.set_cons_succ]
    refine wpAnyH_take (i := 3) (oi := _) (v := undef) rfl (by kernel_rfl) (by kernel_rfl) (by kernel_rfl) (fun _ _ _ h => h) (Or.inr ⟨by rfl, rfl⟩) (by assumption) ?_
    try simp only [Act.put, List.getElem_toArray, List.getElem_cons_zero, List.getElem_cons_succ, List.setIfInBounds_toArray, List.set_cons_zero, List.set_cons_succ]
    refine wpAnyH_take (i := 4) (oi := _) (v := undef) rfl (by kernel_rfl) (by kernel_rfl) (by kernel_rfl) (fun _ _ _ h => h) (Or.inr ⟨by rfl, rfl⟩) (by assumption) ?_
    try simp only [Act.put, List.getElem_toArray, List.getElem_cons_zero, List.getElem_cons_succ, List.setIfInBounds_toArray, List.set_cons_zero, List.set_cons_succ]
    refine wpAnyH_take (i := 5) (oi := _) (v := undef) rfl (by kernel_rfl) (by kernel_rfl) (by kernel_rfl) (fun _ _ _ h => h) (Or.inr ⟨by rfl, rfl⟩) (by assumption) ?_
    try simp only [Act.put, List.getElem_toArray, List.getElem_cons_zero, List.getElem_cons_succ, List.setIfInBounds_toArray, List.set_cons_zero, List.set_cons_succ]
    refine wpAnyH_take (i := 6) (oi := _) (v := undef) rfl (by kernel_rfl) (by kernel_rfl) (by kernel_rfl) (fun _ _ _ h => h) (Or.inr ⟨by rfl, rfl⟩) (by assumption) ?_
    try simp only [Act.put, List.getElem_toArray, List.getElem_cons_zero, List.getElem_cons_succ, List.setIfInBounds_toArray, List.set_cons_zero, List.set_cons_succ]
    refine wpAnyH_take (i := 7) (oi := _) (v := undef) rfl (by kernel_rfl) (by kernel_rfl) (by kernel_rfl) (fun _ _ _ h => h) (Or.inr ⟨by rfl, rfl⟩) (by assumption) ?_
    try simp only [Act.put, List.getElem_toArray, List.getElem_cons_zero, List.getElem_cons_succ, List.setIfInBounds_toArray, List.set_cons_zero, List.set_cons_succ]
    refine wpAnyH_take (i := 8) (oi := _) (v := undef) rfl (by kernel_rfl) (by kernel_rfl) (by kernel_rfl) (fun _ _ _ h => h) (Or.inr ⟨by rfl, rfl⟩) (by assumption) ?_
    try simp only [Act.put, List.getElem_toArray, List.getElem_cons_zero, List.getElem_cons_succ, List.setIfInBounds_toArray, List.set_cons_zero, List.set_cons_succ]
    refine wpAnyH_take (i := 9) (oi := _) (v := ?vq111) rfl (by kernel_rfl) (by kernel_rfl) (by kernel_rfl) (fun _ _ _ h => h) (Or.inl ⟨by rfl, ?hyq111⟩) (by assumption) ?restq111
    case hyq111 => (intro w hSw; (try dsimp only at hSw); go_simp; try with_reducible rfl)
    try simp only [Act.put, List.getElem_toArray, List.getElem_cons_zero, List.getElem_cons_succ, List.setIfInBounds_toArray, List.set_cons_zero, List.set_cons_succ]
    refine wpAnyH_done (by kernel_rfl) ?_ _
    refine NoPanic.normal ?_
    obtain ⟨e0, e1, e2, e3, e4, e5, e6, e7, e8, e9, e10, e11, e12, e13, e14, e15, e16, e17, e18, e19, e20, e21, e22, e23, h0, i0, h1, i1, h2, i2, h3, i3, h4, i4, h5, i5, h6, i6, h7, i7, h8, i8, h9, i9, h10, i10, h11, i11, h12, i12, h13, i13, h14, i14, h15, i15, h16, i16, h17, i17, h18, i18, h19, i19, h20, i20, h21, i21, h22, i22, h23, i23, G⟩ := id S
    go_wp2_with fail
    clear e0 e1 e2 e3 e4 e5 e6 e7 e8 e9 e10 e11 e12 e13 e14 e15 e16 e17 e18 e19 e20 e21 e22 e23 h0 i0 h1 i1 h2 i2 h3 i3 h4 i4 h5 i5 h6 i6 h7 i7 h8 i8 h9 i9 h10 i10 h11 i11 h12 i12 h13 i13 h14 i14 h15 i15 h16 i16 h17 i17 h18 i18 h19 i19 h20 i20 h21 i21 h22 i22 h23 i23 G
    obtain ⟨z112, ez112⟩ : ∃ t : Rat, (q0 + q1) / 2 = t := ⟨_, rfl⟩
    have E112 := Lib.hid ez112
    clear ez112
    go_at_call 51
    with_reducible refine (RMid_g N11.out N18.out (by omega) E112.out).mono ?_
    rintro e w113 ⟨b112, p112, n112, c112, d112, q112, m112, f112, rfl, h, g⟩
    replace N11 := Lib.hid (N11.out.kp (Kp.of g))
    replace N18 := Lib.hid (N18.out.kp (Kp.of g))
    have N112 := Lib.hid (h)
    replace S := S.step g
    have lg113 := g.size
    clear g h l0 l1 l2 l3 l4 l5 lS
    have l0 := S.ltc (g := w.heap.size) (o := 0) (x := .bool a0) (by simp)
    have l1 := S.ltc (g := w.heap.size + 1) (o := 0) (x := .bool a1) (by simp)
    have l2 := S.ltc (g := w.heap.size + 1 + 1) (o := 0) (x := .bool a2) (by simp)
    have l3 := S.ltc (g := w33.heap.size) (o := 0) (x := .bool b32) (by simp)
    have l4 := S.ltc (g := w79.heap.size) (o := 0) (x := .bool b78) (by simp)
    have l5 := S.ltc (g := w99.heap.size) (o := 0) (x := .bool false) (by simp)
    have lS := S.size
    obtain ⟨e0, e1, e2, e3, e4, e5, e6, e7, e8, e9, e10, e11, e12, e13, e14, e15, e16, e17, e18, e19, e20, e21, e22, e23, h0, i0, h1, i1, h2, i2, h3, i3, h4, i4, h5, i5, h6, i6, h7, i7, h8, i8, h9, i9, h10, i10, h11, i11, h12, i12, h13, i13, h14, i14, h15, i15, h16, i16, h17, i17, h18, i18, h19, i19, h20, i20, h21, i21, h22, i22, h23, i23, G⟩ := id S
    go_wp2_with fail
    clear e0 e1 e2 e3 e4 e5 e6 e7 e8 e9 e10 e11 e12 e13 e14 e15 e16 e17 e18 e19 e20 e21 e22 e23 h0 i0 h1 i1 h2 i2 h3 i3 h4 i4 h5 i5 h6 i6 h7 i7 h8 i8 h9 i9 h10 i10 h11 i11 h12 i12 h13 i13 h14 i14 h15 i15 h16 i16 h17 i17 h18 i18 h19 i19 h20 i20 h21 i21 h22 i22 h23 i23 G
    replace S : St w [(w113.heap.size, 0, .bool b112), (w113.heap.size, 1, .slice p112 n112 c112), (w113.heap.size, 2, .bool d112), (w113.heap.size, 3, .slice q112 m112 f112), (w99.heap.size, 0, .bool false), (w99.heap.size, 1, .slice none 0 0), (w99.heap.size, 2, .bool false), (w99.heap.size, 3, .slice none 0 0), (w79.heap.size, 0, .bool b78), (w79.heap.size, 1, .slice p78 n78 c78), (w79.heap.size, 2, .bool d78), (w79.heap.size, 3, .slice q78 m78 f78), (w33.heap.size, 0, .bool b32), (w33.heap.size, 1, .slice p32 n32 c32), (w33.heap.size, 2, .bool d32), (w33.heap.size, 3, .slice q32 m32 f32), (w.heap.size + 1 + 1, 0, .bool a2), (w.heap.size + 1 + 1, 1, .slice p25 n25 c25), (w.heap.size + 1 + 1, 2, .bool b2), (w.heap.size + 1 + 1, 3, .slice q25 m25 f25), (w.heap.size + 1, 0, .bool a1), (w.heap.size + 1, 1, .slice p18 n18 c18), (w.heap.size + 1, 2, .bool b1), (w.heap.size + 1, 3, .slice q18 m18 f18), (w.heap.size, 0, .bool a0), (w.heap.size, 1, .slice p11 n11 c11), (w.heap.size, 2, .bool b0), (w.heap.size, 3, .slice q11 m11 f11)] [(w113.heap.size, 0), (w113.heap.size, 1), (w113.heap.size, 2), (w113.heap.size, 3), (w99.heap.size, 0), (w99.heap.size, 1), (w99.heap.size, 2), (w99.heap.size, 3), (w79.heap.size, 0), (w79.heap.size, 1), (w79.heap.size, 2), (w79.heap.size, 3), (w33.heap.size, 0), (w33.heap.size, 1), (w33.heap.size, 2), (w33.heap.size, 3), (w.heap.size + 1 + 1, 0), (w.heap.size + 1 + 1, 1), (w.heap.size + 1 + 1, 2), (w.heap.size + 1 + 1, 3), (w.heap.size + 1, 0), (w.heap.size + 1, 1), (w.heap.size + 1, 2), (w.heap.size + 1, 3), (w.heap.size, 0), (w.heap.size, 1), (w.heap.size, 2), (w.heap.size, 3)] (w113.alloc (.cells #[.bool b112, .slice p112 n112 c112, .bool d112, .slice q112 m112 f112] 46)) := S.made (w113.heap.size) [.bool b112, .slice p112 n112 c112, .bool d112, .slice q112 m112 f112] 46 (by simp)
    replace N11 := Lib.hid (N11.out.kp (Kp.of (grown_alloc w113 (.cells #[.bool b112, .slice p112 n112 c112, .bool d112, .slice q112 m112 f112] 46) none)))
    replace N18 := Lib.hid (N18.out.kp (Kp.of (grown_alloc w113 (.cells #[.bool b112, .slice p112 n112 c112, .bool d112, .slice q112 m112 f112] 46) none)))
    replace N112 := Lib.hid (N112.out.kp (Kp.of (grown_alloc w113 (.cells #[.bool b112, .slice p112 n112 c112, .bool d112, .slice q112 m112 f112] 46) none)))
    have sz114 : (w113.alloc (.cells #[.bool b112, .slice p112 n112 c112, .bool d112, .slice q112 m112 f112] 46)).heap.size = w113.heap.size + 1 := by simp
    generalize (w113.alloc (.cells #[.bool b112, .slice p112 n112 c112, .bool d112, .slice q112 m112 f112] 46)) = W114 at *
    obtain ⟨s, hs⟩ : ∃ s, cmpQ q0 q1 = s := ⟨_, rfl⟩
    have Hs := Lib.hid hs
    clear hs
    go_at_call 52
    with_reducible refine (RCmp_g N11.out N18.out s (by omega) Hs.out).mono ?_
    rintro e w115 ⟨rfl, g⟩
    replace N11 := Lib.hid (N11.out.kp (Kp.of g))
    replace N18 := Lib.hid (N18.out.kp (Kp.of g))
    replace N112 := Lib.hid (N112.out.kp (Kp.of g))
    replace S := S.step g
    have lg115 := g.size
    clear g l0 l1 l2 l3 l4 l5 lS
    have l0 := S.ltc (g := w.heap.size) (o := 0) (x := .bool a0) (by simp)
    have l1 := S.ltc (g := w.heap.size + 1) (o := 0) (x := .bool a1) (by simp)
    have l2 := S.ltc (g := w.heap.size + 1 + 1) (o := 0) (x := .bool a2) (by simp)
    have l3 := S.ltc (g := w33.heap.size) (o := 0) (x := .bool b32) (by simp)
    have l4 := S.ltc (g := w79.heap.size) (o := 0) (x := .bool b78) (by simp)
    have l5 := S.ltc (g := w99.heap.size) (o := 0) (x := .bool false) (by simp)
    have l6 := S.ltc (g := w113.heap.size) (o := 0) (x := .bool b112) (by simp)
    have lS := S.size
    obtain ⟨e0, e1, e2, e3, e4, e5, e6, e7, e8, e9, e10, e11, e12, e13, e14, e15, e16, e17, e18, e19, e20, e21, e22, e23, e24, e25, e26, e27, h0, i0, h1, i1, h2, i2, h3, i3, h4, i4, h5, i5, h6, i6, h7, i7, h8, i8, h9, i9, h10, i10, h11, i11, h12, i12, h13, i13, h14, i14, h15, i15, h16, i16, h17, i17, h18, i18, h19, i19, h20, i20, h21, i21, h22, i22, h23, i23, h24, i24, h25, i25, h26, i26, h27, i27, G⟩ := id S
    go_wp2_with fail
    clear e0 e1 e2 e3 e4 e5 e6 e7 e8 e9 e10 e11 e12 e13 e14 e15 e16 e17 e18 e19 e20 e21 e22 e23 e24 e25 e26 e27 h0 i0 h1 i1 h2 i2 h3 i3 h4 i4 h5 i5 h6 i6 h7 i7 h8 i8 h9 i9 h10 i10 h11 i11 h12 i12 h13 i13 h14 i14 h15 i15 h16 i16 h17 i17 h18 i18 h19 i19 h20 i20 h21 i21 h22 i22 h23 i23 h24 i24 h25 i25 h26 i26 h27 i27 G
    go_at_call 52
    with_reducible refine (RCmp_g N11.out N112.out.q s (by omega) (by rw [← E112.out, cmpQ_mid]; exact Hs.out)).mono ?_
    rintro e w116 ⟨rfl, g⟩
    replace N11 := Lib.hid (N11.out.kp (Kp.of g))
    replace N18 := Lib.hid (N18.out.kp (Kp.of g))
    replace N112 := Lib.hid (N112.out.kp (Kp.of g))
    replace S := S.step g
    have lg116 := g.size
    clear g l0 l1 l2 l3 l4 l5 l6 lS
    have l0 := S.ltc (g := w.heap.size) (o := 0) (x := .bool a0) (by simp)
    have l1 := S.ltc (g := w.heap.size + 1) (o := 0) (x := .bool a1) (by simp)
    have l2 := S.ltc (g := w.heap.size + 1 + 1) (o := 0) (x := .bool a2) (by simp)
    have l3 := S.ltc (g := w33.heap.size) (o := 0) (x := .bool b32) (by simp)
    have l4 := S.ltc (g := w79.heap.size) (o := 0) (x := .bool b78) (by simp)
    have l5 := S.ltc (g := w99.heap.size) (o := 0) (x := .bool false) (by simp)
    have l6 := S.ltc (g := w113.heap.size) (o := 0) (x := .bool b112) (by simp)
    have lS := S.size
    obtain ⟨e0, e1, e2, e3, e4, e5, e6, e7, e8, e9, e10, e11, e12, e13, e14, e15, e16, e17, e18, e19, e20, e21, e22, e23, e24, e25, e26, e27, h0, i0, h1, i1, h2, i2, h3, i3, h4, i4, h5, i5, h6, i6, h7, i7, h8, i8, h9, i9, h10, i10, h11, i11, h12, i12, h13, i13, h14, i14, h15, i15, h16, i16, h17, i17, h18, i18, h19, i19, h20, i20, h21, i21, h22, i22, h23, i23, h24, i24, h25, i25, h26, i26, h27, i27, G⟩ := id S
    go_wp2_with fail
    clear e0 e1 e2 e3 e4 e5 e6 e7 e8 e9 e10 e11 e12 e13 e14 e15 e16 e17 e18 e19 e20 e21 e22 e23 e24 e25 e26 e27 h0 i0 h1 i1 h2 i2 h3 i3 h4 i4 h5 i5 h6 i6 h7 i7 h8 i8 h9 i9 h10 i10 h11 i11 h12 i12 h13 i13 h14 i14 h15 i15 h16 i16 h17 i17 h18 i18 h19 i19 h20 i20 h21 i21 h22 i22 h23 i23 h24 i24 h25 i25 h26 i26 h27 i27 G
    go_at_call 52
    with_reducible refine (RCmp_g N112.out.q N18.out s (by omega) (by rw [← E112.out, cmpQ_mid']; exact Hs.out)).mono ?_
    rintro e w117 ⟨rfl, g⟩
    replace N11 := Lib.hid (N11.out.kp (Kp.of g))
    replace N18 := Lib.hid (N18.out.kp (Kp.of g))
    clear N112
    replace S := S.step g
    have lg117 := g.size
    clear g l0 l1 l2 l3 l4 l5 l6 lS
    have l0 := S.ltc (g := w.heap.size) (o := 0) (x := .bool a0) (by simp)
    have l1 := S.ltc (g := w.heap.size + 1) (o := 0) (x := .bool a1) (by simp)
    have l2 := S.ltc (g := w.heap.size + 1 + 1) (o := 0) (x := .bool a2) (by simp)
    have l3 := S.ltc (g := w33.heap.size) (o := 0) (x := .bool b32) (by simp)
    have l4 := S.ltc (g := w79.heap.size) (o := 0) (x := .bool b78) (by simp)
    have l5 := S.ltc (g := w99.heap.size) (o := 0) (x := .bool false) (by simp)
    have l6 := S.ltc (g := w113.heap.size) (o := 0) (x := .bool b112) (by simp)
    have lS := S.size
    obtain ⟨e0, e1, e2, e3, e4, e5, e6, e7, e8, e9, e10, e11, e12, e13, e14, e15, e16, e17, e18, e19, e20, e21, e22, e23, e24, e25, e26, e27, h0, i0, h1, i1, h2, i2, h3, i3, h4, i4, h5, i5, h6, i6, h7, i7, h8, i8, h9, i9, h10, i10, h11, i11, h12, i12, h13, i13, h14, i14, h15, i15, h16, i16, h17, i17, h18, i18, h19, i19, h20, i20, h21, i21, h22, i22, h23, i23, h24, i24, h25, i25, h26, i26, h27, i27, G⟩ := id S
    go_wp2_with fail
    clear e0 e1 e2 e3 e4 e5 e6 e7 e8 e9 e10 e11 e12 e13 e14 e15 e16 e17 e18 e19 e20 e21 e22 e23 e24 e25 e26 e27 h0 i0 h1 i1 h2 i2 h3 i3 h4 i4 h5 i5 h6 i6 h7 i7 h8 i8 h9 i9 h10 i10 h11 i11 h12 i12 h13 i13 h14 i14 h15 i15 h16 i16 h17 i17 h18 i18 h19 i19 h20 i20 h21 i21 h22 i22 h23 i23 h24 i24 h25 i25 h26 i26 h27 i27 G
    go_at_call 37
    with_reducible refine (wakes4 _).mono ?_
    rintro e w118 ⟨rfl, g⟩
    replace N11 := Lib.hid (N11.out.kp (Kp.of g))
    replace N18 := Lib.hid (N18.out.kp (Kp.of g))
    replace S := S.step g
    have lg118 := g.size
    clear g l0 l1 l2 l3 l4 l5 l6 lS
    have l0 := S.ltc (g := w.heap.size) (o := 0) (x := .bool a0) (by simp)
    have l1 := S.ltc (g := w.heap.size + 1) (o := 0) (x := .bool a1) (by simp)
    have l2 := S.ltc (g := w.heap.size + 1 + 1) (o := 0) (x := .bool a2) (by simp)
    have l3 := S.ltc (g := w33.heap.size) (o := 0) (x := .bool b32) (by simp)
    have l4 := S.ltc (g := w79.heap.size) (o := 0) (x := .bool b78) (by simp)
    have l5 := S.ltc (g := w99.heap.size) (o := 0) (x := .bool false) (by simp)
    have l6 := S.ltc (g := w113.heap.size) (o := 0) (x := .bool b112) (by simp)
    have lS := S.size
    obtain ⟨e0, e1, e2, e3, e4, e5, e6, e7, e8, e9, e10, e11, e12, e13, e14, e15, e16, e17, e18, e19, e20, e21, e22, e23, e24, e25, e26, e27, h0, i0, h1, i1, h2, i2, h3, i3, h4, i4, h5, i5, h6, i6, h7, i7, h8, i8, h9, i9, h10, i10, h11, i11, h12, i12, h13, i13, h14, i14, h15, i15, h16, i16, h17, i17, h18, i18, h19, i19, h20, i20, h21, i21, h22, i22, h23, i23, h24, i24, h25, i25, h26, i26, h27, i27, G⟩ := id S
    go_wp2_with fail
    clear e0 e1 e2 e3 e4 e5 e6 e7 e8 e9 e10 e11 e12 e13 e14 e15 e16 e17 e18 e19 e20 e21 e22 e23 e24 e25 e26 e27 h0 i0 h1 i1 h2 i2 h3 i3 h4 i4 h5 i5 h6 i6 h7 i7 h8 i8 h9 i9 h10 i10 h11 i11 h12 i12 h13 i13 h14 i14 h15 i15 h16 i16 h17 i17 h18 i18 h19 i19 h20 i20 h21 i21 h22 i22 h23 i23 h24 i24 h25 i25 h26 i26 h27 i27 G
    go_ret
    exact ⟨rfl, S.all⟩
  · have B0 := Lib.hid hb
    clear hb
    obtain ⟨z98, ez98⟩ : ∃ t : Rat, q0 / q1 = t := ⟨_, rfl⟩
    have E98 := Lib.hid ez98
    clear ez98
    go_at_call 54
    with_reducible refine (RQuo_g N11.out N18.out (by omega) B0.out E98.out).mono ?_
    rintro e w99 ⟨b98, p98, n98, c98, d98, q98, m98, f98, rfl, h, g⟩
    replace N11 := Lib.hid (N11.out.kp (Kp.of g))
    replace N18 := Lib.hid (N18.out.kp (Kp.of g))
    have N98 := Lib.hid (h)
    replace S := S.step g
    have lg99 := g.size
    clear g h l0 l1 l2 l3 l4 lS
    have l0 := S.ltc (g := w.heap.size) (o := 0) (x := .bool a0) (by simp)
    have l1 := S.ltc (g := w.heap.size + 1) (o := 0) (x := .bool a1) (by simp)
    have l2 := S.ltc (g := w.heap.size + 1 + 1) (o := 0) (x := .bool a2) (by simp)
    have l3 := S.ltc (g := w33.heap.size) (o := 0) (x := .bool b32) (by simp)
    have l4 := S.ltc (g := w79.heap.size) (o := 0) (x := .bool b78) (by simp)
    have lS := S.size
    obtain ⟨e0, e1, e2, e3, e4, e5, e6, e7, e8, e9, e10, e11, e12, e13, e14, e15, e16, e17, e18, e19, h0, i0, h1, i1, h2, i2, h3, i3, h4, i4, h5, i5, h6, i6, h7, i7, h8, i8, h9, i9, h10, i10, h11, i11, h12, i12, h13, i13, h14, i14, h15, i15, h16, i16, h17, i17, h18, i18, h19, i19, G⟩ := id S
    go_wp2_with fail
    clear e0 e1 e2 e3 e4 e5 e6 e7 e8 e9 e10 e11 e12 e13 e14 e15 e16 e17 e18 e19 h0 i0 h1 i1 h2 i2 h3 i3 h4 i4 h5 i5 h6 i6 h7 i7 h8 i8 h9 i9 h10 i10 h11 i11 h12 i12 h13 i13 h14 i14 h15 i15 h16 i16 h17 i17 h18 i18 h19 i19 G
    replace S : St w [(w99.heap.size, 0, .bool b98), (w99.heap.size, 1, .slice p98 n98 c98), (w99.heap.size, 2, .bool d98), (w99.heap.size, 3, .slice q98 m98 f98), (w79.heap.size, 0, .bool b78), (w79.heap.size, 1, .slice p78 n78 c78), (w79.heap.size, 2, .bool d78), (w79.heap.size, 3, .slice q78 m78 f78), (w33.heap.size, 0, .bool b32), (w33.heap.size, 1, .slice p32 n32 c32), (w33.heap.size, 2, .bool d32), (w33.heap.size, 3, .slice q32 m32 f32), (w.heap.size + 1 + 1, 0, .bool a2), (w.heap.size + 1 + 1, 1, .slice p25 n25 c25), (w.heap.size + 1 + 1, 2, .bool b2), (w.heap.size + 1 + 1, 3, .slice q25 m25 f25), (w.heap.size + 1, 0, .bool a1), (w.heap.size + 1, 1, .slice p18 n18 c18), (w.heap.size + 1, 2, .bool b1), (w.heap.size + 1, 3, .slice q18 m18 f18), (w.heap.size, 0, .bool a0), (w.heap.size, 1, .slice p11 n11 c11), (w.heap.size, 2, .bool b0), (w.heap.size, 3, .slice q11 m11 f11)] [(w99.heap.size, 0), (w99.heap.size, 1), (w99.heap.size, 2), (w99.heap.size, 3), (w79.heap.size, 0), (w79.heap.size, 1), (w79.heap.size, 2), (w79.heap.size, 3), (w33.heap.size, 0), (w33.heap.size, 1), (w33.heap.size, 2), (w33.heap.size, 3), (w.heap.size + 1 + 1, 0), (w.heap.size + 1 + 1, 1), (w.heap.size + 1 + 1, 2), (w.heap.size + 1 + 1, 3), (w.heap.size + 1, 0), (w.heap.size + 1, 1), (w.heap.size + 1, 2), (w.heap.size + 1, 3), (w.heap.size, 0), (w.heap.size, 1), (w.heap.size, 2), (w.heap.size, 3)] (w99.alloc (.cells #[.bool b98, .slice p98 n98 c98, .bool d98, .slice q98 m98 f98] 46)) := S.made (w99.heap.size) [.bool b98, .slice p98 n98 c98, .bool d98, .slice q98 m98 f98] 46 (by simp)
    replace N11 := Lib.hid (N11.out.kp (Kp.of (grown_alloc w99 (.cells #[.bool b98, .slice p98 n98 c98, .bool d98, .slice q98 m98 f98] 46) none)))
    replace N18 := Lib.hid (N18.out.kp (Kp.of (grown_alloc w99 (.cells #[.bool b98, .slice p98 n98 c98, .bool d98, .slice q98 m98 f98] 46) none)))
    replace N98 := Lib.hid (N98.out.kp (Kp.of (grown_alloc w99 (.cells #[.bool b98, .slice p98 n98 c98, .bool d98, .slice q98 m98 f98] 46) none)))
    have sz100 : (w99.alloc (.cells #[.bool b98, .slice p98 n98 c98, .bool d98, .slice q98 m98 f98] 46)).heap.size = w99.heap.size + 1 := by simp
    generalize (w99.alloc (.cells #[.bool b98, .slice p98 n98 c98, .bool d98, .slice q98 m98 f98] 46)) = W100 at *
    have T0 : Cl [(w99.heap.size, 0, .bool b98), (w99.heap.size, 1, .slice p98 n98 c98), (w99.heap.size, 2, .bool d98), (w99.heap.size, 3, .slice q98 m98 f98), (w.heap.size + 1, 0, .bool a1), (w.heap.size + 1, 1, .slice p18 n18 c18), (w.heap.size + 1, 2, .bool b1), (w.heap.size + 1, 3, .slice q18 m18 f18), (w.heap.size, 0, .bool a0), (w.heap.size, 1, .slice p11 n11 c11), (w.heap.size, 2, .bool b0), (w.heap.size, 3, .slice q11 m11 f11)] W100 := S.cl (by simp)
    refine wp_region_noPanic ?_
    refine wp_region_held_drew (S := fun w' => w'.cell? ⟨w99.heap.size, 0, none⟩ = some (.bool b98) ∧ w'.cell? ⟨w99.heap.size, 1, none⟩ = some (.slice p98 n98 c98) ∧ w'.cell? ⟨w99.heap.size, 2, none⟩ = some (.bool d98) ∧ w'.cell? ⟨w99.heap.size, 3, none⟩ = some (.slice q98 m98 f98) ∧ w'.cell? ⟨w.heap.size + 1, 0, none⟩ = some (.bool a1) ∧ w'.cell? ⟨w.heap.size + 1, 1, none⟩ = some (.slice p18 n18 c18) ∧ w'.cell? ⟨w.heap.size + 1, 2, none⟩ = some (.bool b1) ∧ w'.cell? ⟨w.heap.size + 1, 3, none⟩ = some (.slice q18 m18 f18) ∧ w'.cell? ⟨w.heap.size, 0, none⟩ = some (.bool a0) ∧ w'.cell? ⟨w.heap.size, 1, none⟩ = some (.slice p11 n11 c11) ∧ w'.cell? ⟨w.heap.size, 2, none⟩ = some (.bool b0) ∧ w'.cell? ⟨w.heap.size, 3, none⟩ = some (.slice q11 m11 f11) ∧ True) (by kernel_rfl) (by exact Cl.step (cs := [(w99.heap.size, 0, .bool b98), (w99.heap.size, 1, .slice p98 n98 c98), (w99.heap.size, 2, .bool d98), (w99.heap.size, 3, .slice q98 m98 f98), (w.heap.size + 1, 0, .bool a1), (w.heap.size + 1, 1, .slice p18 n18 c18), (w.heap.size + 1, 2, .bool b1), (w.heap.size + 1, 3, .slice q18 m18 f18), (w.heap.size, 0, .bool a0), (w.heap.size, 1, .slice p11 n11 c11), (w.heap.size, 2, .bool b0), (w.heap.size, 3, .slice q11 m11 f11)]) (grown_drew _ _) T0) (fun hHeld => ?_)
    change wpAnyH _ _ _ _ _ 10 #[false, false, false, false, false, false, false, false, false, false] _ _
    replace S := S.step (grown_drew W100 none)
    replace N11 := Lib.hid (N11.out.kp (Kp.of (grown_drew W100 none)))
    replace N18 := Lib.hid (N18.out.kp (Kp.of (grown_drew W100 none)))
    replace N98 := Lib.hid (N98.out.kp (Kp.of (grown_drew W100 none)))
    have lg101 := (grown_drew W100 none).size
    clear T0
    generalize W100.drew = wr101 at *
    clear l0 l1 l2 l3 l4 lS
    have l0 := S.ltc (g := w.heap.size) (o := 0) (x := .bool a0) (by simp)
    have l1 := S.ltc (g := w.heap.size + 1) (o := 0) (x := .bool a1) (by simp)
    have l2 := S.ltc (g := w.heap.size + 1 + 1) (o := 0) (x := .bool a2) (by simp)
    have l3 := S.ltc (g := w33.heap.size) (o := 0) (x := .bool b32) (by simp)
    have l4 := S.ltc (g := w79.heap.size) (o := 0) (x := .bool b78) (by simp)
    have l5 := S.ltc (g := w99.heap.size) (o := 0) (x := .bool b98) (by simp)
    have lS := S.size
    refine wpAnyH_take (i := 0) (oi := _) (v := ?vu102) rfl (by kernel_rfl) (by kernel_rfl) (by kernel_rfl) (fun _ _ _ h => h) (Or.inl ⟨by rfl, ?hyu102⟩) (by assumption) ?restu102
    case hyu102 => (intro w hSw; (try dsimp only at hSw); go_simp; try with_reducible rfl)
    try simp only [Act.put, List.getElem_toArray, List.getElem_cons_zero, List.setIfInBounds_toArray, List.set_cons_zero, List.set_cons_succ]
    refine wpAnyH_take (i := 1) (oi := _) (v := .bool true) rfl (by kernel_rfl) (by kernel_rfl) (by kernel_rfl) (fun _ _ _ h => h) (Or.inl ⟨by rfl, ?hyu103⟩) (by assumption) ?restu103
    case hyu103 => (intro w hSw; (try dsimp only at hSw); go_simp; try simp only [decide_true, decide_false])
    try simp only [Act.put, List.getElem_toArray, List.getElem_cons_zero, List.getElem_cons_succ, List.setIfInBounds_toArray, List.set_cons_zero, List.set_cons_succ]
    refine wpAnyH_take (i := 2) (oi := _) (v := ?vu104) rfl (by kernel_rfl) (by kernel_rfl) (by kernel_rfl) (fun _ _ _ h => h) (Or.inl ⟨by rfl, ?hyu104⟩) (by assumption) ?restu104
    case hyu104 => (intro w hSw; (try dsimp only at hSw); go_simp; try with_reducible rfl)
    try simp only [Act.put, List.getElem_toArray, List.getElem_cons_zero, List.getElem_cons_succ, List.setIfInBounds_toArray, List.set_cons_zero, List.set_cons_succ]
    refine wpAnyH_take (i := 3) (oi := _) (v := ?vu105) rfl (by kernel_rfl) (by kernel_rfl) (by kernel_rfl) (fun _ _ _ h => h) (Or.inl ⟨by rfl, ?hyu105⟩) (by assumption) ?restu105
    case hyu105 => (intro w hSw; (try dsimp only at hSw); go_simp; try with_reducible rfl)
    try simp only [Act.put, List.getElem_toArray, List.getElem_cons_zero, List.getElem_cons_succ, List.setIfInBounds_toArray, List.set_cons_zero, List.set_cons_succ]
    refine wpAnyH_take (i := 4) (oi := _) (v := ?vu106) rfl (by kernel_rfl) (by kernel_rfl) (by kernel_rfl) (fun _ _ _ h => h) (Or.inl ⟨by rfl, ?hyu106⟩) (by assumption) ?restu106
    case hyu106 => (intro w hSw; (try dsimp only at hSw); go_simp; try with_reducible rfl)
    try simp only [Act.put, List.getElem_toArray, List.getElem_cons_zero, List.getElem_cons_succ, List.setIfInBounds_toArray, List.set_cons_zero, List.set_cons_succ]
    refine wpAnyH_take (i := 6) (oi := _) (v := ?vu107) rfl (by kernel_rfl) (by kernel_rfl) (by kernel_rfl) (fun _ _ _ h => h) (Or.inl ⟨by rfl, ?hyu107⟩) (by assumption) ?restu107
    case hyu107 => (intro w hSw; (try dsimp only at hSw); go_simp; try with_reducible rfl)
    try simp only [Act.put, List.getElem_toArray, List.getElem_cons_zero, List.getElem_cons_succ, List.setIfInBounds_toArray, List.set_cons_zero, List.set_cons_succ]
    obtain ⟨z109, ez109⟩ : ∃ t : Rat, z98 * q1 = t := ⟨_, rfl⟩
    have E109 := Lib.hid ez109
    clear ez109
    refine wpAnyH_ready (rs := [5]) (by kernel_rfl) (by simp) ?_
    refine AllReadyH.cons (o := _) rfl (fun K hK => ?_) AllReadyH.nil
    go_simp
    go_at_call 47
    with_reducible refine (RMul_g N98.out.q N18.out (by omega) E109.out).mono ?_
    rintro e w110 ⟨b109, p109, n109, c109, d109, q109, m109, f109, rfl, h, g⟩
    replace N11 := Lib.hid (N11.out.kp (Kp.of g))
    replace N18 := Lib.hid (N18.out.kp (Kp.of g))
    clear N98
    have N109 := Lib.hid (h)
    replace S := S.step g
    have lg110 := g.size
    clear l0 l1 l2 l3 l4 l5 lS
    have l0 := S.ltc (g := w.heap.size) (o := 0) (x := .bool a0) (by simp)
    have l1 := S.ltc (g := w.heap.size + 1) (o := 0) (x := .bool a1) (by simp)
    have l2 := S.ltc (g := w.heap.size + 1 + 1) (o := 0) (x := .bool a2) (by simp)
    have l3 := S.ltc (g := w33.heap.size) (o := 0) (x := .bool b32) (by simp)
    have l4 := S.ltc (g := w79.heap.size) (o := 0) (x := .bool b78) (by simp)
    have l5 := S.ltc (g := w99.heap.size) (o := 0) (x := .bool b98) (by simp)
    have lS := S.size
    go_wp2_with fail
    refine hK.out _ _ ?hSu108 (fun hHeld => ?_)
    case hSu108 => exact Cl.step (cs := [(w99.heap.size, 0, .bool b98), (w99.heap.size, 1, .slice p98 n98 c98), (w99.heap.size, 2, .bool d98), (w99.heap.size, 3, .slice q98 m98 f98), (w.heap.size + 1, 0, .bool a1), (w.heap.size + 1, 1, .slice p18 n18 c18), (w.heap.size + 1, 2, .bool b1), (w.heap.size + 1, 3, .slice q18 m18 f18), (w.heap.size, 0, .bool a0), (w.heap.size, 1, .slice p11 n11 c11), (w.heap.size, 2, .bool b0), (w.heap.size, 3, .slice q11 m11 f11)]) g (by assumption)
    clear hK K g h
    try simp only [List.setIfInBounds_toArray, List.set_cons_zero, List.set_cons_succ]
    refine wpAnyH_ready (rs := [7]) (by kernel_rfl) (by simp) ?_
    refine AllReadyH.cons (o := _) rfl (fun K hK => ?_) AllReadyH.nil
    go_simp
    go_at_call 52
    with_reducible refine (RCmp_g N109.out.q N11.out 0 (by omega) (cmpQ_eq (by rw [← E109.out, ← E98.out]; exact Rat.div_mul_cancel B0.out))).mono ?_
    rintro e w112 ⟨rfl, g⟩
    replace N11 := Lib.hid (N11.out.kp (Kp.of g))
    replace N18 := Lib.hid (N18.out.kp (Kp.of g))
    clear N109
    replace S := S.step g
    have lg112 := g.size
    clear l0 l1 l2 l3 l4 l5 lS
    have l0 := S.ltc (g := w.heap.size) (o := 0) (x := .bool a0) (by simp)
    have l1 := S.ltc (g := w.heap.size + 1) (o := 0) (x := .bool a1) (by simp)
    have l2 := S.ltc (g := w.heap.size + 1 + 1) (o := 0) (x := .bool a2) (by simp)
    have l3 := S.ltc (g := w33.heap.size) (o := 0) (x := .bool b32) (by simp)
    have l4 := S.ltc (g := w79.heap.size) (o := 0) (x := .bool b78) (by simp)
    have l5 := S.ltc (g := w99.heap.size) (o := 0) (x := .bool b98) (by simp)
    have lS := S.size
    go_wp2_with fail
    refine hK.out _ _ ?hSu111 (fun hHeld => ?_)
    case hSu111 => exact Cl.step (cs := [(w99.heap.size, 0, .bool b98), (w99.heap.size, 1, .slice p98 n98 c98), (w99.heap.size, 2, .bool d98), (w99.heap.size, 3, .slice q98 m98 f98), (w.heap.size + 1, 0, .bool a1), (w.heap.size + 1, 1, .slice p18 n18 c18), (w.heap.size + 1, 2, .bool b1), (w.heap.size + 1, 3, .slice q18 m18 f18), (w.heap.size, 0, .bool a0), (w.heap.size, 1, .slice p11 n11 c11), (w.heap.size, 2, .bool b0), (w.heap.size, 3, .slice q11 m11 f11)]) g (by assumption)
    clear hK K g
    try simp only [List.setIfInBounds_toArray, List.set_cons_zero, List.set_cons_succ]
    refine wpAnyH_take (i := 8) (oi := _) (v := .bool false) rfl (by kernel_rfl) (by kernel_rfl) (by kernel_rfl) (fun _ _ _ h => h) (Or.inl ⟨by rfl, ?hyu113⟩) (by assumption) ?restu113
    case hyu113 => (intro w hSw; (try dsimp only at hSw); go_simp; try simp only [decide_true, decide_false])
    try simp only [Act.put, List.getElem_toArray, List.getElem_cons_zero, List.getElem_cons_succ, List.setIfInBounds_toArray, List.set_cons_zero, List.set_cons_succ]
    refine wpAnyH_take (i := 9) (oi := _) (v := ?vu114) rfl (by kernel_rfl) (by kernel_rfl) (by kernel_rfl) (fun _ _ _ h => h) (Or.inl ⟨by rfl, ?hyu114⟩) (by assumption) ?restu114
    case hyu114 => (intro w hSw; (try dsimp only at hSw); go_simp; try with_reducible rfl)
    try simp only [Act.put, List.getElem_toArray, List.getElem_cons_zero, List.getElem_cons_succ, List.setIfInBounds_toArray, List.set_cons_zero, List.set_cons_succ]
    refine wpAnyH_done (by kernel_rfl) ?_ _
    refine NoPanic.normal ?_
    obtain ⟨e0, e1, e2, e3, e4, e5, e6, e7, e8, e9, e10, e11, e12, e13, e14, e15, e16, e17, e18, e19, e20, e21, e22, e23, h0, i0, h1, i1, h2, i2, h3, i3, h4, i4, h5, i5, h6, i6, h7, i7, h8, i8, h9, i9, h10, i10, h11, i11, h12, i12, h13, i13, h14, i14, h15, i15, h16, i16, h17, i17, h18, i18, h19, i19, h20, i20, h21, i21, h22, i22, h23, i23, G⟩ := id S
    go_wp2_with fail
    clear e0 e1 e2 e3 e4 e5 e6 e7 e8 e9 e10 e11 e12 e13 e14 e15 e16 e17 e18 e19 e20 e21 e22 e23 h0 i0 h1 i1 h2 i2 h3 i3 h4 i4 h5 i5 h6 i6 h7 i7 h8 i8 h9 i9 h10 i10 h11 i11 h12 i12 h13 i13 h14 i14 h15 i15 h16 i16 h17 i17 h18 i18 h19 i19 h20 i20 h21 i21 h22 i22 h23 i23 G
    obtain ⟨z115, ez115⟩ : ∃ t : Rat, (q0 + q1) / 2 = t := ⟨_, rfl⟩
    have E115 := Lib.hid ez115
    clear ez115
    go_at_call 51
    with_reducible refine (RMid_g N11.out N18.out (by omega) E115.out).mono ?_
    rintro e w116 ⟨b115, p115, n115, c115, d115, q115, m115, f115, rfl, h, g⟩
    replace N11 := Lib.hid (N11.out.kp (Kp.of g))
    replace N18 := Lib.hid (N18.out.kp (Kp.of g))
    have N115 := Lib.hid (h)
    replace S := S.step g
    have lg116 := g.size
    clear g h l0 l1 l2 l3 l4 l5 lS
    have l0 := S.ltc (g := w.heap.size) (o := 0) (x := .bool a0) (by simp)
    have l1 := S.ltc (g := w.heap.size + 1) (o := 0) (x := .bool a1) (by simp)
    have l2 := S.ltc (g := w.heap.size + 1 + 1) (o := 0) (x := .bool a2) (by simp)
    have l3 := S.ltc (g := w33.heap.size) (o := 0) (x := .bool b32) (by simp)
    have l4 := S.ltc (g := w79.heap.size) (o := 0) (x := .bool b78) (by simp)
    have l5 := S.ltc (g := w99.heap.size) (o := 0) (x := .bool b98) (by simp)
    have lS := S.size
    obtain ⟨e0, e1, e2, e3, e4, e5, e6, e7, e8, e9, e10, e11, e12, e13, e14, e15, e16, e17, e18, e19, e20, e21, e22, e23, h0, i0, h1, i1, h2, i2, h3, i3, h4, i4, h5, i5, h6, i6, h7, i7, h8, i8, h9, i9, h10, i10, h11, i11, h12, i12, h13, i13, h14, i14, h15, i15, h16, i16, h17, i17, h18, i18, h19, i19, h20, i20, h21, i21, h22, i22, h23, i23, G⟩ := id S
    go_wp2_with fail
    clear e0 e1 e2 e3 e4 e5 e6 e7 e8 e9 e10 e11 e12 e13 e14 e15 e16 e17 e18 e19 e20 e21 e22 e23 h0 i0 h1 i1 h2 i2 h3 i3 h4 i4 h5 i5 h6 i6 h7 i7 h8 i8 h9 i9 h10 i10 h11 i11 h12 i12 h13 i13 h14 i14 h15 i15 h16 i16 h17 i17 h18 i18 h19 i19 h20 i20 h21 i21 h22 i22 h23 i23 G
    replace S : St w [(w116.heap.size, 0, .bool b115), (w116.heap.size, 1, .slice p115 n115 c115), (w116.heap.size, 2, .bool d115), (w116.heap.size, 3, .slice q115 m115 f115), (w99.heap.size, 0, .bool b98), (w99.heap.size, 1, .slice p98 n98 c98), (w99.heap.size, 2, .bool d98), (w99.heap.size, 3, .slice q98 m98 f98), (w79.heap.size, 0, .bool b78), (w79.heap.size, 1, .slice p78 n78 c78), (w79.heap.size, 2, .bool d78), (w79.heap.size, 3, .slice q78 m78 f78), (w33.heap.size, 0, .bool b32), (w33.heap.size, 1, .slice p32 n32 c32), (w33.heap.size, 2, .bool d32), (w33.heap.size, 3, .slice q32 m32 f32), (w.heap.size + 1 + 1, 0, .bool a2), (w.heap.size + 1 + 1, 1, .slice p25 n25 c25), (w.heap.size + 1 + 1, 2, .bool b2), (w.heap.size + 1 + 1, 3, .slice q25 m25 f25), (w.heap.size + 1, 0, .bool a1), (w.heap.size + 1, 1, .slice p18 n18 c18), (w.heap.size + 1, 2, .bool b1), (w.heap.size + 1, 3, .slice q18 m18 f18), (w.heap.size, 0, .bool a0), (w.heap.size, 1, .slice p11 n11 c11), (w.heap.size, 2, .bool b0), (w.heap.size, 3, .slice q11 m11 f11)] [(w116.heap.size, 0), (w116.heap.size, 1), (w116.heap.size, 2), (w116.heap.size, 3), (w99.heap.size, 0), (w99.heap.size, 1), (w99.heap.size, 2), (w99.heap.size, 3), (w79.heap.size, 0), (w79.heap.size, 1), (w79.heap.size, 2), (w79.heap.size, 3), (w33.heap.size, 0), (w33.heap.size, 1), (w33.heap.size, 2), (w33.heap.size, 3), (w.heap.size + 1 + 1, 0), (w.heap.size + 1 + 1, 1), (w.heap.size + 1 + 1, 2), (w.heap.size + 1 + 1, 3), (w.heap.size + 1, 0), (w.heap.size + 1, 1), (w.heap.size + 1, 2), (w.heap.size + 1, 3), (w.heap.size, 0), (w.heap.size, 1), (w.heap.size, 2), (w.heap.size, 3)] (w116.alloc (.cells #[.bool b115, .slice p115 n115 c115, .bool d115, .slice q115 m115 f115] 46)) := S.made (w116.heap.size) [.bool b115, .slice p115 n115 c115, .bool d115, .slice q115 m115 f115] 46 (by simp)
    replace N11 := Lib.hid (N11.out.kp (Kp.of (grown_alloc w116 (.cells #[.bool b115, .slice p115 n115 c115, .bool d115, .slice q115 m115 f115] 46) none)))
    replace N18 := Lib.hid (N18.out.kp (Kp.of (grown_alloc w116 (.cells #[.bool b115, .slice p115 n115 c115, .bool d115, .slice q115 m115 f115] 46) none)))
    replace N115 := Lib.hid (N115.out.kp (Kp.of (grown_alloc w116 (.cells #[.bool b115, .slice p115 n115 c115, .bool d115, .slice q115 m115 f115] 46) none)))
    have sz117 : (w116.alloc (.cells #[.bool b115, .slice p115 n115 c115, .bool d115, .slice q115 m115 f115] 46)).heap.size = w116.heap.size + 1 := by simp
    generalize (w116.alloc (.cells #[.bool b115, .slice p115 n115 c115, .bool d115, .slice q115 m115 f115] 46)) = W117 at *
    obtain ⟨s, hs⟩ : ∃ s, cmpQ q0 q1 = s := ⟨_, rfl⟩
    have Hs := Lib.hid hs
    clear hs
    go_at_call 52
    with_reducible refine (RCmp_g N11.out N18.out s (by omega) Hs.out).mono ?_
    rintro e w118 ⟨rfl, g⟩
    replace N11 := Lib.hid (N11.out.kp (Kp.of g))
    replace N18 := Lib.hid (N18.out.kp (Kp.of g))
    replace N115 := Lib.hid (N115.out.kp (Kp.of g))
    replace S := S.step g
    have lg118 := g.size
    clear g l0 l1 l2 l3 l4 l5 lS
    have l0 := S.ltc (g := w.heap.size) (o := 0) (x := .bool a0) (by simp)
    have l1 := S.ltc (g := w.heap.size + 1) (o := 0) (x := .bool a1) (by simp)
    have l2 := S.ltc (g := w.heap.size + 1 + 1) (o := 0) (x := .bool a2) (by simp)
    have l3 := S.ltc (g := w33.heap.size) (o := 0) (x := .bool b32) (by simp)
    have l4 := S.ltc (g := w79.heap.size) (o := 0) (x := .bool b78) (by simp)
    have l5 := S.ltc (g := w99.heap.size) (o := 0) (x := .bool b98) (by simp)
    have l6 := S.ltc (g := w116.heap.size) (o := 0) (x := .bool b115) (by simp)
    have lS := S.size
    obtain ⟨e0, e1, e2, e3, e4, e5, e6, e7, e8, e9, e10, e11, e12, e13, e14, e15, e16, e17, e18, e19, e20, e21, e22, e23, e24, e25, e26, e27, h0, i0, h1, i1, h2, i2, h3, i3, h4, i4, h5, i5, h6, i6, h7, i7, h8, i8, h9, i9, h10, i10, h11, i11, h12, i12, h13, i13, h14, i14, h15, i15, h16, i16, h17, i17, h18, i18, h19, i19, h20, i20, h21, i21, h22, i22, h23, i23, h24, i24, h25, i25, h26, i26, h27, i27, G⟩ := id S
    go_wp2_with fail
    clear e0 e1 e2 e3 e4 e5 e6 e7 e8 e9 e10 e11 e12 e13 e14 e15 e16 e17 e18 e19 e20 e21 e22 e23 e24 e25 e26 e27 h0 i0 h1 i1 h2 i2 h3 i3 h4 i4 h5 i5 h6 i6 h7 i7 h8 i8 h9 i9 h10 i10 h11 i11 h12 i12 h13 i13 h14 i14 h15 i15 h16 i16 h17 i17 h18 i18 h19 i19 h20 i20 h21 i21 h22 i22 h23 i23 h24 i24 h25 i25 h26 i26 h27 i27 G
    go_at_call 52
    with_reducible refine (RCmp_g N11.out N115.out.q s (by omega) (by rw [← E115.out, cmpQ_mid]; exact Hs.out)).mono ?_
    rintro e w119 ⟨rfl, g⟩
    clear N11
    replace N18 := Lib.hid (N18.out.kp (Kp.of g))
    replace N115 := Lib.hid (N115.out.kp (Kp.of g))
    replace S := S.step g
    have lg119 := g.size
    clear g l0 l1 l2 l3 l4 l5 l6 lS
    have l0 := S.ltc (g := w.heap.size) (o := 0) (x := .bool a0) (by simp)
    have l1 := S.ltc (g := w.heap.size + 1) (o := 0) (x := .bool a1) (by simp)
    have l2 := S.ltc (g := w.heap.size + 1 + 1) (o := 0) (x := .bool a2) (by simp)
    have l3 := S.ltc (g := w33.heap.size) (o := 0) (x := .bool b32) (by simp)
    have l4 := S.ltc (g := w79.heap.size) (o := 0) (x := .bool b78) (by simp)
    have l5 := S.ltc (g := w99.heap.size) (o := 0) (x := .bool b98) (by simp)
    have l6 := S.ltc (g := w116.heap.size) (o := 0) (x := .bool b115) (by simp)
    have lS := S.size
    obtain ⟨e0, e1, e2, e3, e4, e5, e6, e7, e8, e9, e10, e11, e12, e13, e14, e15, e16, e17, e18, e19, e20, e21, e22, e23, e24, e25, e26, e27, h0, i0, h1, i1, h2, i2, h3, i3, h4, i4, h5, i5, h6, i6, h7, i7, h8, i8, h9, i9, h10, i10, h11, i11, h12, i12, h13, i13, h14, i14, h15, i15, h16, i16, h17, i17, h18, i18, h19, i19, h20, i20, h21, i21, h22, i22, h23, i23, h24, i24, h25, i25, h26, i26, h27, i27, G⟩ := id S
    go_wp2_with fail
    clear e0 e1 e2 e3 e4 e5 e6 e7 e8 e9 e10 e11 e12 e13 e14 e15 e16 e17 e18 e19 e20 e21 e22 e23 e24 e25 e26 e27 h0 i0 h1 i1 h2 i2 h3 i3 h4 i4 h5 i5 h6 i6 h7 i7 h8 i8 h9 i9 h10 i10 h11 i11 h12 i12 h13 i13 h14 i14 h15 i15 h16 i16 h17 i17 h18 i18 h19 i19 h20 i20 h21 i21 h22 i22 h23 i23 h24 i24 h25 i25 h26 i26 h27 i27 G
    go_at_call 52
    with_reducible refine (RCmp_g N115.out.q N18.out s (by omega) (by rw [← E115.out, cmpQ_mid']; exact Hs.out)).mono ?_
    rintro e w120 ⟨rfl, g⟩
    clear N18 N115
    replace S := S.step g
    have lg120 := g.size
    clear g l0 l1 l2 l3 l4 l5 l6 lS
    have l0 := S.ltc (g := w.heap.size) (o := 0) (x := .bool a0) (by simp)
    have l1 := S.ltc (g := w.heap.size + 1) (o := 0) (x := .bool a1) (by simp)
    have l2 := S.ltc (g := w.heap.size + 1 + 1) (o := 0) (x := .bool a2) (by simp)
    have l3 := S.ltc (g := w33.heap.size) (o := 0) (x := .bool b32) (by simp)
    have l4 := S.ltc (g := w79.heap.size) (o := 0) (x := .bool b78) (by simp)
    have l5 := S.ltc (g := w99.heap.size) (o := 0) (x := .bool b98) (by simp)
    have l6 := S.ltc (g := w116.heap.size) (o := 0) (x := .bool b115) (by simp)
    have lS := S.size
    obtain ⟨e0, e1, e2, e3, e4, e5, e6, e7, e8, e9, e10, e11, e12, e13, e14, e15, e16, e17, e18, e19, e20, e21, e22, e23, e24, e25, e26, e27, h0, i0, h1, i1, h2, i2, h3, i3, h4, i4, h5, i5, h6, i6, h7, i7, h8, i8, h9, i9, h10, i10, h11, i11, h12, i12, h13, i13, h14, i14, h15, i15, h16, i16, h17, i17, h18, i18, h19, i19, h20, i20, h21, i21, h22, i22, h23, i23, h24, i24, h25, i25, h26, i26, h27, i27, G⟩ := id S
    go_wp2_with fail
    clear e0 e1 e2 e3 e4 e5 e6 e7 e8 e9 e10 e11 e12 e13 e14 e15 e16 e17 e18 e19 e20 e21 e22 e23 e24 e25 e26 e27 h0 i0 h1 i1 h2 i2 h3 i3 h4 i4 h5 i5 h6 i6 h7 i7 h8 i8 h9 i9 h10 i10 h11 i11 h12 i12 h13 i13 h14 i14 h15 i15 h16 i16 h17 i17 h18 i18 h19 i19 h20 i20 h21 i21 h22 i22 h23 i23 h24 i24 h25 i25 h26 i26 h27 i27 G
    go_at_call 37
    with_reducible refine (wakes4 _).mono ?_
    rintro e w121 ⟨rfl, g⟩
    replace S := S.step g
    have lg121 := g.size
    clear g l0 l1 l2 l3 l4 l5 l6 lS
    have l0 := S.ltc (g := w.heap.size) (o := 0) (x := .bool a0) (by simp)
    have l1 := S.ltc (g := w.heap.size + 1) (o := 0) (x := .bool a1) (by simp)
    have l2 := S.ltc (g := w.heap.size + 1 + 1) (o := 0) (x := .bool a2) (by simp)
    have l3 := S.ltc (g := w33.heap.size) (o := 0) (x := .bool b32) (by simp)
    have l4 := S.ltc (g := w79.heap.size) (o := 0) (x := .bool b78) (by simp)
    have l5 := S.ltc (g := w99.heap.size) (o := 0) (x := .bool b98) (by simp)
    have l6 := S.ltc (g := w116.heap.size) (o := 0) (x := .bool b115) (by simp)
    have lS := S.size
    obtain ⟨e0, e1, e2, e3, e4, e5, e6, e7, e8, e9, e10, e11, e12, e13, e14, e15, e16, e17, e18, e19, e20, e21, e22, e23, e24, e25, e26, e27, h0, i0, h1, i1, h2, i2, h3, i3, h4, i4, h5, i5, h6, i6, h7, i7, h8, i8, h9, i9, h10, i10, h11, i11, h12, i12, h13, i13, h14, i14, h15, i15, h16, i16, h17, i17, h18, i18, h19, i19, h20, i20, h21, i21, h22, i22, h23, i23, h24, i24, h25, i25, h26, i26, h27, i27, G⟩ := id S
    go_wp2_with fail
    clear e0 e1 e2 e3 e4 e5 e6 e7 e8 e9 e10 e11 e12 e13 e14 e15 e16 e17 e18 e19 e20 e21 e22 e23 e24 e25 e26 e27 h0 i0 h1 i1 h2 i2 h3 i3 h4 i4 h5 i5 h6 i6 h7 i7 h8 i8 h9 i9 h10 i10 h11 i11 h12 i12 h13 i13 h14 i14 h15 i15 h16 i16 h17 i17 h18 i18 h19 i19 h20 i20 h21 i21 h22 i22 h23 i23 h24 i24 h25 i25 h26 i26 h27 i27 G
    go_ret
    exact ⟨rfl, S.all⟩

set_option maxRecDepth 100000 in
theorem lifted (os : Os) (started : os.Started) (H : Type) (enc : TypeId × Value → H) :
    ReturnsInHanded {} Tryz.checked os 12 .any (fun w args => (Rows.ratioLawsSpec.pre enc Tryz.prog Tryz.f12 [] false w args ∧ laidMetH Tryz.prog Rows.ratioLawsRow.laid w) ∧ sizedMet enc Tryz.prog Tryz.f12 (OpenSpec.ofChange Rows.ratioLawsSpec) false w args) (Rows.ratioLawsSpec.post enc Tryz.prog Tryz.f12 false true false false) := by
  refine returnsInHanded_of_change_and (C := Tryz.checked) (X := fun w _ => laidMetH Tryz.prog Rows.ratioLawsRow.laid w) (fun _ _ _ hh h => h.of_heap hh) Tryz.own started (by kernel_rfl) Tryz.func12
    (ChangeSpec.witness_at (enc := enc) (C := Tryz.checked) (os := os) (X := fun w _ => laidMetH Tryz.prog Rows.ratioLawsRow.laid w) false (World.laidAll Tryz.prog os Rows.ratioLawsRow.laid) #[.agg #[.bool false, .slice none 0 0, .bool false, .slice none 0 0], .agg #[.bool false, .slice none 0 0, .bool false, .slice none 0 0], .agg #[.bool false, .slice none 0 0, .bool false, .slice none 0 0]] 8 (World.laidAll_os _ _ _) (by kernel_rfl) (by kernel_rfl) (by kernel_rfl) (by kernel_rfl) (by kernel_rfl)
      (by rw [MakeChecks.laidMetH_plain _ _ _ (by kernel_rfl)]; exact laidMet_laidAll _ (by kernel_rfl) (by kernel_rfl))) ?_
  intro W base args ds gs before hval0 hW _ _ _ _
  have hval : ∀ (j : Nat) t v, Tryz.f12.params[j]? = some t → args[j]? = some v → Value.okWide Tryz.prog W .any base t v := hval0
  obtain ⟨p, q, hA0, hV, rfl, _, _⟩ := id hW
  have hA : DataW.TrodAll enc Tryz.prog W 0 (fun _ => true) true Tryz.f12.params.toList args.toList ds p := hA0
  rw [Tryz.params12] at hA hval
  obtain ⟨v0, vs0, d0, ds0, p0, q0, hargs, rfl, rfl, h0, r0⟩ := trodAll_cons hA
  obtain ⟨v1, vs1, d1, ds1, p1, q1, rfl, rfl, rfl, h1, r1⟩ := trodAll_cons r0
  obtain ⟨v2, vs2, d2, ds2, p2, q2, rfl, rfl, rfl, h2, r2⟩ := trodAll_cons r1
  obtain ⟨rfl, rfl, rfl⟩ := trodAll_nil r2
  obtain rfl : args = #[v0, v1, v2] := by cases args; simp_all
  obtain ⟨b0, w0, b0', w0', xs0, ys0, rfl, s0, a0, s0', a0'⟩ := rat_of_trod h0 (hval 0 46 v0 rfl rfl)
  obtain ⟨b1, w1, b1', w1', xs1, ys1, rfl, s1, a1, s1', a1'⟩ := rat_of_trod h1 (hval 1 46 v1 rfl rfl)
  obtain ⟨b2, w2, b2', w2', xs2, ys2, rfl, s2, a2, s2', a2'⟩ := rat_of_trod h2 (hval 2 46 v2 rfl rfl)
  refine (walk s0 a0 s0' a0' s1 a1 s1' a1' s2 a2 s2' a2').mono fun e W' ⟨he, hg⟩ => ?_
  subst he
  refine ⟨_, rfl, law_post Tryz.laidOut rfl (by kernel_rfl) Tryz.underlying4 ?_ ?_ hW hg⟩
  · rw [Tryz.params12]; decide +kernel
  · rw [Tryz.params12]
    intro ds h
    match ds, h with
    | [_, _, _], _ => rfl

theorem row_holds : Rows.RatioLawsSaid :=
  OpenClaim.holds_of_wide 12 Tryz.f12 rfl rfl rfl rfl rfl rfl rfl ⟨rfl, rfl, rfl, rfl, rfl⟩ rfl rfl rfl rfl rfl (by kernel_rfl) Tryz.func12 (by kernel_rfl)
    (of_decide_eq_true (by kernel_rfl)) (by unfold Func.isWrapper; first | (rw [if_pos (by decide +kernel)]; kernel_rfl) | (rw [if_neg (by decide +kernel)]; exact ⟨rfl, rfl⟩))
    (fun os started H enc _ => lifted os started H enc)
theorem holds : Rows.RatioLawsCardSaid :=
  Claim7.holds_tied_plain_at .later [] Rows.ratioLawsCard.laidKinds true Rows.ratioLawsCard.stood.harness true
    row_holds (fun _ h => by cases h) (by kernel_rfl) (fun _ h => by cases h) ratioLaws_row_tie rfl ⟨rfl, rfl⟩ (by kernel_rfl) rfl
    (fun f fn hf hfn => by
      obtain rfl : f = 12 := Option.some.inj ((show Tryz.prog.funcNamed "orrery/orrerylaw04.RatioLaws" = some 12 by kernel_rfl).symm.trans hf) |>.symm
      obtain rfl : fn = Tryz.f12 := (Option.some.inj (Tryz.func12.symm.trans hfn)).symm
      exact ⟨by kernel_rfl, fun j t ht => by rw [Tryz.params12] at ht; exact stand_no t (by rcases j with _ | _ | _ | _ | _ | j <;> simp at ht <;> simp [← ht])⟩)
    (by kernel_rfl)

end Go.Proofs.YtmkplojojaopmaaGreatDoor.rlaws
