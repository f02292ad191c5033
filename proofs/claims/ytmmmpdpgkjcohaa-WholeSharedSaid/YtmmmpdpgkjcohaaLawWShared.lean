/- WholeShared holds: for every four whole numbers the law returns true and leaves them as they were. No condition. -/
import Derived.Test.YtmmmpdpgkjcohaaGcd
namespace Go.Proofs.Ytmmmpdpgkjcohaa.shared
open Go.ChangeShapes Go.WideShapes Go.ChangeAt Go.RowKit

theorem gcd_shift (a b m : Int) : Nat.gcd (a + b * m).natAbs b.natAbs = Nat.gcd a.natAbs b.natAbs := Int.gcd_add_mul_left_left b a m
theorem gcd_all_mul (a b c m : Int) : ((Nat.gcd (Nat.gcd (a * m).natAbs (b * m).natAbs) (c * m).natAbs : Nat) : Int) = ((Nat.gcd (Nat.gcd a.natAbs b.natAbs) c.natAbs : Nat) : Int) * (m.natAbs : Int) := by
  rw [Int.natAbs_mul, Int.natAbs_mul, Int.natAbs_mul, Nat.gcd_mul_right, Nat.gcd_mul_right]; push_cast; rfl
theorem gcd_turn (a b c : Nat) : Nat.gcd (Nat.gcd a b) c = Nat.gcd c (Nat.gcd b a) := by rw [Nat.gcd_comm c, Nat.gcd_comm b]
theorem gcd_twice (a b c : Nat) : Nat.gcd (Nat.gcd a b) c = Nat.gcd (Nat.gcd (Nat.gcd a c) b) a := by
  apply Nat.dvd_antisymm
  · have h1 := Nat.gcd_dvd_left (Nat.gcd a b) c
    exact Nat.dvd_gcd (Nat.dvd_gcd (Nat.dvd_gcd (Nat.dvd_trans h1 (Nat.gcd_dvd_left _ _)) (Nat.gcd_dvd_right _ _)) (Nat.dvd_trans h1 (Nat.gcd_dvd_right _ _))) (Nat.dvd_trans h1 (Nat.gcd_dvd_left _ _))
  · have h1 := Nat.gcd_dvd_left (Nat.gcd (Nat.gcd a c) b) a
    have h2 := Nat.gcd_dvd_left (Nat.gcd a c) b
    exact Nat.dvd_gcd (Nat.dvd_gcd (Nat.gcd_dvd_right _ _) (Nat.dvd_trans h1 (Nat.gcd_dvd_right _ _))) (Nat.dvd_trans h1 (Nat.dvd_trans h2 (Nat.gcd_dvd_right _ _)))
set_option maxHeartbeats 8000000 in
set_option maxRecDepth 100000 in
theorem walk {b1 b2 b3 b4 : Bool} {v1 v2 v3 v4 : Value} {xs ys zs us : List Nat} {w : World} (hx : Sl w .u32 v1 xs) (ax : All 4294967296 xs) (hy : Sl w .u32 v2 ys) (ay : All 4294967296 ys) (hz : Sl w .u32 v3 zs) (az : All 4294967296 zs) (hu : Sl w .u32 v4 us) (au : All 4294967296 us) :
    Calls Try.prog 10 #[.agg #[.bool b1, v1], .agg #[.bool b2, v2], .agg #[.bool b3, v3], .agg #[.bool b4, v4]] w (Bool_ w true) := by
  obtain ⟨p1, c1, rfl, -⟩ := id hx
  obtain ⟨p2, c2, rfl, -⟩ := id hy
  obtain ⟨p3, c3, rfl, -⟩ := id hz
  obtain ⟨p4, c4, rfl, -⟩ := id hu
  have Hx := Lib.hid hx
  have Hy := Lib.hid hy
  have Hz := Lib.hid hz
  have Hu := Lib.hid hu
  have Ax := Lib.hid ax
  have Ay := Lib.hid ay
  have Az := Lib.hid az
  have Au := Lib.hid au
  have S : Bx w [(w.heap.size + 1 + 1 + 1, .bool b4, .slice p4 us.length c4), (w.heap.size + 1 + 1, .bool b3, .slice p3 zs.length c3), (w.heap.size + 1, .bool b2, .slice p2 ys.length c2), (w.heap.size, .bool b1, .slice p1 xs.length c1)] ((((w.alloc (.cells #[.bool b1, .slice p1 xs.length c1] 24)).alloc (.cells #[.bool b2, .slice p2 ys.length c2] 24)).alloc (.cells #[.bool b3, .slice p3 zs.length c3] 24)).alloc (.cells #[.bool b4, .slice p4 us.length c4] 24)) := (((((Bx.start w).box (w.heap.size) (.bool b1) (.slice p1 xs.length c1) 24 (by simp)).box (w.heap.size + 1) (.bool b2) (.slice p2 ys.length c2) 24 (by simp)).box (w.heap.size + 1 + 1) (.bool b3) (.slice p3 zs.length c3) 24 (by simp)).box (w.heap.size + 1 + 1 + 1) (.bool b4) (.slice p4 us.length c4) 24 (by simp))
  clear hx ax hy ay hz az hu au
  go_enter Try.func10, Try.ntmps10
  obtain ⟨e0, e1, e2, e3, e4, e5, e6, e7, e8, e9, e10, e11, e12, e13, e14, e15, G⟩ := id S
  go_wp2_with fail
  clear e0 e1 e2 e3 e4 e5 e6 e7 e8 e9 e10 e11 e12 e13 e14 e15 G
  refine (Of_l 4 (Hx.out.grown S.all (.inl rfl)) Ax.out (by omega)).mono ?_
  rintro e w1 ⟨pA, nA, cA, ua, rfl, hs, hd, g⟩
  replace hs := hs.grown g (.inl rfl)
  replace S := S.step _ g
  clear g
  obtain ⟨za, hza⟩ : ∃ z, sg b1 (val 4294967296 (xs.take 4)) = z := ⟨_, rfl⟩
  rw [hza] at hd
  have bda := hd.bd
  obtain ⟨pa, ca, rfl, -⟩ := id hd
  have VA := Lib.hid (show IntV _ (.agg #[.bool b1, .slice pA nA cA]) za 4 from ⟨_, _, _, rfl, Num.row hs (Ax.out.take 4) 4 (by rw [List.length_take]; omega), hza.symm⟩)
  clear hs hd hza
  have z1_0 := S.lt (g := w.heap.size + 1 + 1 + 1) (x := .bool b4) (y := .slice p4 us.length c4) (by simp)
  have z1_1 := S.lt (g := w.heap.size + 1 + 1) (x := .bool b3) (y := .slice p3 zs.length c3) (by simp)
  have z1_2 := S.lt (g := w.heap.size + 1) (x := .bool b2) (y := .slice p2 ys.length c2) (by simp)
  have z1_3 := S.lt (g := w.heap.size) (x := .bool b1) (y := .slice p1 xs.length c1) (by simp)
  obtain ⟨e0, e1, e2, e3, e4, e5, e6, e7, e8, e9, e10, e11, e12, e13, e14, e15, G⟩ := id S
  have K : Kp w1 ((w1.setCell ⟨w.heap.size, 0, none⟩ (.bool b1)).setCell ⟨w.heap.size, 1, none⟩ (.slice pA nA cA)) := (S.kp (g := w.heap.size) (x := .bool b1) (y := .slice p1 xs.length c1) (.bool b1) (.slice pA nA cA) (by simp) (by simp) (by simp))
  have S2 : Bx w [(w.heap.size, .bool b1, .slice pA nA cA), (w.heap.size + 1 + 1 + 1, .bool b4, .slice p4 us.length c4), (w.heap.size + 1 + 1, .bool b3, .slice p3 zs.length c3), (w.heap.size + 1, .bool b2, .slice p2 ys.length c2)] ((w1.setCell ⟨w.heap.size, 0, none⟩ (.bool b1)).setCell ⟨w.heap.size, 1, none⟩ (.slice pA nA cA)) := S.put (g := w.heap.size) (u := .bool b1) (v := .slice pA nA cA) (x := .bool b1) (y := .slice p1 xs.length c1) (bs' := [(w.heap.size + 1 + 1 + 1, .bool b4, .slice p4 us.length c4), (w.heap.size + 1 + 1, .bool b3, .slice p3 zs.length c3), (w.heap.size + 1, .bool b2, .slice p2 ys.length c2)]) (by simp) (by simp <;> omega) (by simp <;> omega) (by omega)
  replace S : Bx w [(w.heap.size, .bool b1, .slice pA nA cA), (w.heap.size + 1 + 1 + 1, .bool b4, .slice p4 us.length c4), (w.heap.size + 1 + 1, .bool b3, .slice p3 zs.length c3), (w.heap.size + 1, .bool b2, .slice p2 ys.length c2)] ((w1.setCell ⟨w.heap.size, 0, none⟩ (.bool b1)).setCell ⟨w.heap.size, 1, none⟩ (.slice pA nA cA)) := S2
  replace VA := Lib.hid (VA.out.kp K)
  go_wp2_with fail
  clear K S2 e0 e1 e2 e3 e4 e5 e6 e7 e8 e9 e10 e11 e12 e13 e14 e15 G
  have sz1 : (((w1.setCell ⟨w.heap.size, 0, none⟩ (.bool b1)).setCell ⟨w.heap.size, 1, none⟩ (.slice pA nA cA))).heap.size = w1.heap.size := by simp
  generalize ((w1.setCell ⟨w.heap.size, 0, none⟩ (.bool b1)).setCell ⟨w.heap.size, 1, none⟩ (.slice pA nA cA)) = W1 at *
  refine (Of_l 4 (Hy.out.grown S.all (.inl rfl)) Ay.out (by omega)).mono ?_
  rintro e w2 ⟨pB, nB, cB, ub, rfl, hs, hd, g⟩
  replace hs := hs.grown g (.inl rfl)
  replace VA := Lib.hid (VA.out.kp (Kp.of g))
  replace S := S.step _ g
  clear g
  obtain ⟨zb, hzb⟩ : ∃ z, sg b2 (val 4294967296 (ys.take 4)) = z := ⟨_, rfl⟩
  rw [hzb] at hd
  have bdb := hd.bd
  obtain ⟨pb, cb, rfl, -⟩ := id hd
  have VB := Lib.hid (show IntV _ (.agg #[.bool b2, .slice pB nB cB]) zb 4 from ⟨_, _, _, rfl, Num.row hs (Ay.out.take 4) 4 (by rw [List.length_take]; omega), hzb.symm⟩)
  clear hs hd hzb
  have z2_0 := S.lt (g := w.heap.size) (x := .bool b1) (y := .slice pA nA cA) (by simp)
  have z2_1 := S.lt (g := w.heap.size + 1 + 1 + 1) (x := .bool b4) (y := .slice p4 us.length c4) (by simp)
  have z2_2 := S.lt (g := w.heap.size + 1 + 1) (x := .bool b3) (y := .slice p3 zs.length c3) (by simp)
  have z2_3 := S.lt (g := w.heap.size + 1) (x := .bool b2) (y := .slice p2 ys.length c2) (by simp)
  obtain ⟨e0, e1, e2, e3, e4, e5, e6, e7, e8, e9, e10, e11, e12, e13, e14, e15, G⟩ := id S
  have K : Kp w2 ((w2.setCell ⟨w.heap.size + 1, 0, none⟩ (.bool b2)).setCell ⟨w.heap.size + 1, 1, none⟩ (.slice pB nB cB)) := (S.kp (g := w.heap.size + 1) (x := .bool b2) (y := .slice p2 ys.length c2) (.bool b2) (.slice pB nB cB) (by simp) (by simp) (by simp))
  have S2 : Bx w [(w.heap.size + 1, .bool b2, .slice pB nB cB), (w.heap.size, .bool b1, .slice pA nA cA), (w.heap.size + 1 + 1 + 1, .bool b4, .slice p4 us.length c4), (w.heap.size + 1 + 1, .bool b3, .slice p3 zs.length c3)] ((w2.setCell ⟨w.heap.size + 1, 0, none⟩ (.bool b2)).setCell ⟨w.heap.size + 1, 1, none⟩ (.slice pB nB cB)) := S.put (g := w.heap.size + 1) (u := .bool b2) (v := .slice pB nB cB) (x := .bool b2) (y := .slice p2 ys.length c2) (bs' := [(w.heap.size, .bool b1, .slice pA nA cA), (w.heap.size + 1 + 1 + 1, .bool b4, .slice p4 us.length c4), (w.heap.size + 1 + 1, .bool b3, .slice p3 zs.length c3)]) (by simp) (by simp <;> omega) (by simp <;> omega) (by omega)
  replace S : Bx w [(w.heap.size + 1, .bool b2, .slice pB nB cB), (w.heap.size, .bool b1, .slice pA nA cA), (w.heap.size + 1 + 1 + 1, .bool b4, .slice p4 us.length c4), (w.heap.size + 1 + 1, .bool b3, .slice p3 zs.length c3)] ((w2.setCell ⟨w.heap.size + 1, 0, none⟩ (.bool b2)).setCell ⟨w.heap.size + 1, 1, none⟩ (.slice pB nB cB)) := S2
  replace VA := Lib.hid (VA.out.kp K)
  replace VB := Lib.hid (VB.out.kp K)
  go_wp2_with fail
  clear K S2 e0 e1 e2 e3 e4 e5 e6 e7 e8 e9 e10 e11 e12 e13 e14 e15 G
  have sz2 : (((w2.setCell ⟨w.heap.size + 1, 0, none⟩ (.bool b2)).setCell ⟨w.heap.size + 1, 1, none⟩ (.slice pB nB cB))).heap.size = w2.heap.size := by simp
  generalize ((w2.setCell ⟨w.heap.size + 1, 0, none⟩ (.bool b2)).setCell ⟨w.heap.size + 1, 1, none⟩ (.slice pB nB cB)) = W2 at *
  refine (Of_l 4 (Hz.out.grown S.all (.inl rfl)) Az.out (by omega)).mono ?_
  rintro e w3 ⟨pC, nC, cC, uc, rfl, hs, hd, g⟩
  replace hs := hs.grown g (.inl rfl)
  replace VA := Lib.hid (VA.out.kp (Kp.of g))
  replace VB := Lib.hid (VB.out.kp (Kp.of g))
  replace S := S.step _ g
  clear g
  obtain ⟨zc, hzc⟩ : ∃ z, sg b3 (val 4294967296 (zs.take 4)) = z := ⟨_, rfl⟩
  rw [hzc] at hd
  have bdc := hd.bd
  obtain ⟨pc, cc, rfl, -⟩ := id hd
  have VC := Lib.hid (show IntV _ (.agg #[.bool b3, .slice pC nC cC]) zc 4 from ⟨_, _, _, rfl, Num.row hs (Az.out.take 4) 4 (by rw [List.length_take]; omega), hzc.symm⟩)
  clear hs hd hzc
  have z3_0 := S.lt (g := w.heap.size + 1) (x := .bool b2) (y := .slice pB nB cB) (by simp)
  have z3_1 := S.lt (g := w.heap.size) (x := .bool b1) (y := .slice pA nA cA) (by simp)
  have z3_2 := S.lt (g := w.heap.size + 1 + 1 + 1) (x := .bool b4) (y := .slice p4 us.length c4) (by simp)
  have z3_3 := S.lt (g := w.heap.size + 1 + 1) (x := .bool b3) (y := .slice p3 zs.length c3) (by simp)
  obtain ⟨e0, e1, e2, e3, e4, e5, e6, e7, e8, e9, e10, e11, e12, e13, e14, e15, G⟩ := id S
  have K : Kp w3 ((w3.setCell ⟨w.heap.size + 1 + 1, 0, none⟩ (.bool b3)).setCell ⟨w.heap.size + 1 + 1, 1, none⟩ (.slice pC nC cC)) := (S.kp (g := w.heap.size + 1 + 1) (x := .bool b3) (y := .slice p3 zs.length c3) (.bool b3) (.slice pC nC cC) (by simp) (by simp) (by simp))
  have S2 : Bx w [(w.heap.size + 1 + 1, .bool b3, .slice pC nC cC), (w.heap.size + 1, .bool b2, .slice pB nB cB), (w.heap.size, .bool b1, .slice pA nA cA), (w.heap.size + 1 + 1 + 1, .bool b4, .slice p4 us.length c4)] ((w3.setCell ⟨w.heap.size + 1 + 1, 0, none⟩ (.bool b3)).setCell ⟨w.heap.size + 1 + 1, 1, none⟩ (.slice pC nC cC)) := S.put (g := w.heap.size + 1 + 1) (u := .bool b3) (v := .slice pC nC cC) (x := .bool b3) (y := .slice p3 zs.length c3) (bs' := [(w.heap.size + 1, .bool b2, .slice pB nB cB), (w.heap.size, .bool b1, .slice pA nA cA), (w.heap.size + 1 + 1 + 1, .bool b4, .slice p4 us.length c4)]) (by simp) (by simp <;> omega) (by simp <;> omega) (by omega)
  replace S : Bx w [(w.heap.size + 1 + 1, .bool b3, .slice pC nC cC), (w.heap.size + 1, .bool b2, .slice pB nB cB), (w.heap.size, .bool b1, .slice pA nA cA), (w.heap.size + 1 + 1 + 1, .bool b4, .slice p4 us.length c4)] ((w3.setCell ⟨w.heap.size + 1 + 1, 0, none⟩ (.bool b3)).setCell ⟨w.heap.size + 1 + 1, 1, none⟩ (.slice pC nC cC)) := S2
  replace VA := Lib.hid (VA.out.kp K)
  replace VB := Lib.hid (VB.out.kp K)
  replace VC := Lib.hid (VC.out.kp K)
  go_wp2_with fail
  clear K S2 e0 e1 e2 e3 e4 e5 e6 e7 e8 e9 e10 e11 e12 e13 e14 e15 G
  have sz3 : (((w3.setCell ⟨w.heap.size + 1 + 1, 0, none⟩ (.bool b3)).setCell ⟨w.heap.size + 1 + 1, 1, none⟩ (.slice pC nC cC))).heap.size = w3.heap.size := by simp
  generalize ((w3.setCell ⟨w.heap.size + 1 + 1, 0, none⟩ (.bool b3)).setCell ⟨w.heap.size + 1 + 1, 1, none⟩ (.slice pC nC cC)) = W3 at *
  refine (Of_l 3 (Hu.out.grown S.all (.inl rfl)) Au.out (by omega)).mono ?_
  rintro e w4 ⟨pM, nM, cM, um, rfl, hs, hd, g⟩
  replace hs := hs.grown g (.inl rfl)
  replace VA := Lib.hid (VA.out.kp (Kp.of g))
  replace VB := Lib.hid (VB.out.kp (Kp.of g))
  replace VC := Lib.hid (VC.out.kp (Kp.of g))
  replace S := S.step _ g
  clear g
  obtain ⟨zm, hzm⟩ : ∃ z, sg b4 (val 4294967296 (us.take 3)) = z := ⟨_, rfl⟩
  rw [hzm] at hd
  have bdm := hd.bd
  obtain ⟨pm, cm, rfl, -⟩ := id hd
  have VM := Lib.hid (show IntV _ (.agg #[.bool b4, .slice pM nM cM]) zm 3 from ⟨_, _, _, rfl, Num.row hs (Au.out.take 3) 3 (by rw [List.length_take]; omega), hzm.symm⟩)
  clear hs hd hzm
  have z4_0 := S.lt (g := w.heap.size + 1 + 1) (x := .bool b3) (y := .slice pC nC cC) (by simp)
  have z4_1 := S.lt (g := w.heap.size + 1) (x := .bool b2) (y := .slice pB nB cB) (by simp)
  have z4_2 := S.lt (g := w.heap.size) (x := .bool b1) (y := .slice pA nA cA) (by simp)
  have z4_3 := S.lt (g := w.heap.size + 1 + 1 + 1) (x := .bool b4) (y := .slice p4 us.length c4) (by simp)
  obtain ⟨e0, e1, e2, e3, e4, e5, e6, e7, e8, e9, e10, e11, e12, e13, e14, e15, G⟩ := id S
  have K : Kp w4 ((w4.setCell ⟨w.heap.size + 1 + 1 + 1, 0, none⟩ (.bool b4)).setCell ⟨w.heap.size + 1 + 1 + 1, 1, none⟩ (.slice pM nM cM)) := (S.kp (g := w.heap.size + 1 + 1 + 1) (x := .bool b4) (y := .slice p4 us.length c4) (.bool b4) (.slice pM nM cM) (by simp) (by simp) (by simp))
  have S2 : Bx w [(w.heap.size + 1 + 1 + 1, .bool b4, .slice pM nM cM), (w.heap.size + 1 + 1, .bool b3, .slice pC nC cC), (w.heap.size + 1, .bool b2, .slice pB nB cB), (w.heap.size, .bool b1, .slice pA nA cA)] ((w4.setCell ⟨w.heap.size + 1 + 1 + 1, 0, none⟩ (.bool b4)).setCell ⟨w.heap.size + 1 + 1 + 1, 1, none⟩ (.slice pM nM cM)) := S.put (g := w.heap.size + 1 + 1 + 1) (u := .bool b4) (v := .slice pM nM cM) (x := .bool b4) (y := .slice p4 us.length c4) (bs' := [(w.heap.size + 1 + 1, .bool b3, .slice pC nC cC), (w.heap.size + 1, .bool b2, .slice pB nB cB), (w.heap.size, .bool b1, .slice pA nA cA)]) (by simp) (by simp <;> omega) (by simp <;> omega) (by omega)
  replace S : Bx w [(w.heap.size + 1 + 1 + 1, .bool b4, .slice pM nM cM), (w.heap.size + 1 + 1, .bool b3, .slice pC nC cC), (w.heap.size + 1, .bool b2, .slice pB nB cB), (w.heap.size, .bool b1, .slice pA nA cA)] ((w4.setCell ⟨w.heap.size + 1 + 1 + 1, 0, none⟩ (.bool b4)).setCell ⟨w.heap.size + 1 + 1 + 1, 1, none⟩ (.slice pM nM cM)) := S2
  replace VA := Lib.hid (VA.out.kp K)
  replace VB := Lib.hid (VB.out.kp K)
  replace VC := Lib.hid (VC.out.kp K)
  replace VM := Lib.hid (VM.out.kp K)
  go_wp2_with fail
  clear K S2 e0 e1 e2 e3 e4 e5 e6 e7 e8 e9 e10 e11 e12 e13 e14 e15 G
  have sz4 : (((w4.setCell ⟨w.heap.size + 1 + 1 + 1, 0, none⟩ (.bool b4)).setCell ⟨w.heap.size + 1 + 1 + 1, 1, none⟩ (.slice pM nM cM))).heap.size = w4.heap.size := by simp
  generalize ((w4.setCell ⟨w.heap.size + 1 + 1 + 1, 0, none⟩ (.bool b4)).setCell ⟨w.heap.size + 1 + 1 + 1, 1, none⟩ (.slice pM nM cM)) = W4 at *
  have k4 : 4 ≤ 1000000 := by omega
  have k43 : 4 + 3 ≤ 1000000 := by omega
  have k7 : 7 ≤ 1000000 := by omega
  have k47 : 4 + 7 ≤ 1000000 := by omega
  have k12 : 12 ≤ 1000000 := by omega
  have k3 : 3 ≤ 1000000 := by omega
  have q4 : 4 ≤ 4 := by omega
  have q7 : 4 + 3 ≤ 7 := by omega
  have q12 : 4 + 7 + 1 ≤ 12 := by omega
  have q412 : 4 ≤ 12 := by omega
  have k473 : 4 + (4 + 3) ≤ 1000000 := by omega
  have q1273 : 4 + (4 + 3) + 1 ≤ 12 := by omega
  with_reducible refine (Gcd3_i 4 (VA.out.grown (grown_alloc _ _ _)) (VB.out.grown (grown_alloc _ _ _)) (VC.out.grown (grown_alloc _ _ _)) q4 q4 q4 k4 (by rw [← sz4]; simp [go_sem]) (by rw [← sz4]; simp [go_sem]) (by rw [← sz4]; simp [go_sem]) (by rw [← sz4]; simp [go_sem]) (by rw [← sz4]; simp [go_sem]) (by rw [← sz4]; simp [go_sem])).mono ?_
  rintro e w5 ⟨v, rfl, h, bd, g⟩
  replace g := grown_trans (grown_alloc _ _ none) g
  replace VA := Lib.hid (VA.out.kp (Kp.of g))
  replace VB := Lib.hid (VB.out.kp (Kp.of g))
  replace VC := Lib.hid (VC.out.kp (Kp.of g))
  replace VM := Lib.hid (VM.out.kp (Kp.of g))
  replace S := S.step _ g
  clear g
  obtain ⟨zg, hzg⟩ : ∃ z : Int, ((Nat.gcd (Nat.gcd za.natAbs zb.natAbs) zc.natAbs : Nat) : Int) = z := ⟨_, rfl⟩
  rw [hzg] at h bd
  obtain ⟨pG, cG, rfl, -⟩ := id h
  have VG := Lib.hid (h.intV bd)
  have NG := Lib.hid (h.nor)
  obtain ⟨tm, htm⟩ : ∃ t : Int, (zm.natAbs : Int) = t := ⟨_, rfl⟩
  have Tm := Lib.hid htm
  obtain ⟨ta, hta⟩ : ∃ t : Int, za + zb * zm = t := ⟨_, rfl⟩
  have Ta := Lib.hid hta
  have E1 := Lib.hid (show zg = ((Nat.gcd zc.natAbs ((Nat.gcd zb.natAbs za.natAbs : Nat) : Int).natAbs : Nat) : Int) by rw [← hzg, Int.natAbs_natCast]; exact congrArg _ (gcd_turn _ _ _))
  have E2 := Lib.hid (show zg = ((Nat.gcd (Nat.gcd (Nat.gcd (-za).natAbs zc.natAbs) zb.natAbs) za.natAbs : Nat) : Int) by rw [← hzg, Int.natAbs_neg]; exact congrArg _ (gcd_twice _ _ _))
  have E4 := Lib.hid (show ((Nat.gcd (Nat.gcd (za * zm).natAbs (zb * zm).natAbs) (zc * zm).natAbs : Nat) : Int) = zg * tm by rw [← hzg, ← htm]; exact gcd_all_mul _ _ _ _)
  have E5 := Lib.hid (show ((Nat.gcd ta.natAbs zb.natAbs : Nat) : Int) = ((Nat.gcd za.natAbs zb.natAbs : Nat) : Int) by rw [← hta]; exact congrArg _ (gcd_shift _ _ _))
  clear h bd hzg htm hta
  replace VA := Lib.hid (VA.out.kp (Kp.of (grown_alloc _ (.cells #[.bool (decide (zg < 0)), .slice pG (dig 4294967296 (zg).natAbs).length cG] 24) none)))
  replace VB := Lib.hid (VB.out.kp (Kp.of (grown_alloc _ (.cells #[.bool (decide (zg < 0)), .slice pG (dig 4294967296 (zg).natAbs).length cG] 24) none)))
  replace VC := Lib.hid (VC.out.kp (Kp.of (grown_alloc _ (.cells #[.bool (decide (zg < 0)), .slice pG (dig 4294967296 (zg).natAbs).length cG] 24) none)))
  replace VM := Lib.hid (VM.out.kp (Kp.of (grown_alloc _ (.cells #[.bool (decide (zg < 0)), .slice pG (dig 4294967296 (zg).natAbs).length cG] 24) none)))
  replace VG := Lib.hid (VG.out.kp (Kp.of (grown_alloc _ (.cells #[.bool (decide (zg < 0)), .slice pG (dig 4294967296 (zg).natAbs).length cG] 24) none)))
  replace NG := Lib.hid (NG.out.kp (Kp.of (grown_alloc _ (.cells #[.bool (decide (zg < 0)), .slice pG (dig 4294967296 (zg).natAbs).length cG] 24) none)))
  replace S := S.box (w5.heap.size) (.bool (decide (zg < 0))) (.slice pG (dig 4294967296 (zg).natAbs).length cG) 24 (by simp)
  obtain ⟨e0, e1, e2, e3, e4, e5, e6, e7, e8, e9, e10, e11, e12, e13, e14, e15, e16, e17, e18, e19, G⟩ := id S
  go_wp2_with fail
  clear e0 e1 e2 e3 e4 e5 e6 e7 e8 e9 e10 e11 e12 e13 e14 e15 e16 e17 e18 e19 G
  generalize (w5.alloc (.cells #[.bool (decide (zg < 0)), .slice pG (dig 4294967296 (zg).natAbs).length cG] 24)) = W6 at *
  obtain ⟨e0, e1, e2, e3, e4, e5, e6, e7, e8, e9, e10, e11, e12, e13, e14, e15, e16, e17, e18, e19, G⟩ := id S
  have S0 : Kept W6 [(w5.heap.size, 0, .bool (decide (zg < 0))), (w5.heap.size, 1, .slice pG (dig 4294967296 (zg).natAbs).length cG), (w.heap.size + 1 + 1 + 1, 0, .bool b4), (w.heap.size + 1 + 1 + 1, 1, .slice pM nM cM), (w.heap.size + 1 + 1, 0, .bool b3), (w.heap.size + 1 + 1, 1, .slice pC nC cC), (w.heap.size + 1, 0, .bool b2), (w.heap.size + 1, 1, .slice pB nB cB), (w.heap.size, 0, .bool b1), (w.heap.size, 1, .slice pA nA cA)] [] W6 := ⟨e0, e1, e4, e5, e8, e9, e12, e13, e16, e17, grown_refl _ _⟩
  clear e0 e1 e2 e3 e4 e5 e6 e7 e8 e9 e10 e11 e12 e13 e14 e15 e16 e17 e18 e19 G
  go_region_held3 (fun w' => w'.cell? ⟨w5.heap.size, 0, none⟩ = some (.bool (decide (zg < 0))) ∧ w'.cell? ⟨w5.heap.size, 1, none⟩ = some (.slice pG (dig 4294967296 (zg).natAbs).length cG) ∧ w'.cell? ⟨w.heap.size + 1 + 1 + 1, 0, none⟩ = some (.bool b4) ∧ w'.cell? ⟨w.heap.size + 1 + 1 + 1, 1, none⟩ = some (.slice pM nM cM) ∧ w'.cell? ⟨w.heap.size + 1 + 1, 0, none⟩ = some (.bool b3) ∧ w'.cell? ⟨w.heap.size + 1 + 1, 1, none⟩ = some (.slice pC nC cC) ∧ w'.cell? ⟨w.heap.size + 1, 0, none⟩ = some (.bool b2) ∧ w'.cell? ⟨w.heap.size + 1, 1, none⟩ = some (.slice pB nB cB) ∧ w'.cell? ⟨w.heap.size, 0, none⟩ = some (.bool b1) ∧ w'.cell? ⟨w.heap.size, 1, none⟩ = some (.slice pA nA cA) ∧ W6.grownBy w' none) (first | exact Kept.step (W := W6) [(w5.heap.size, 0, .bool (decide (zg < 0))), (w5.heap.size, 1, .slice pG (dig 4294967296 (zg).natAbs).length cG), (w.heap.size + 1 + 1 + 1, 0, .bool b4), (w.heap.size + 1 + 1 + 1, 1, .slice pM nM cM), (w.heap.size + 1 + 1, 0, .bool b3), (w.heap.size + 1 + 1, 1, .slice pC nC cC), (w.heap.size + 1, 0, .bool b2), (w.heap.size + 1, 1, .slice pB nB cB), (w.heap.size, 0, .bool b1), (w.heap.size, 1, .slice pA nA cA)] [] (by assumption) (by assumption) | exact Kept.step (W := W6) [(w5.heap.size, 0, .bool (decide (zg < 0))), (w5.heap.size, 1, .slice pG (dig 4294967296 (zg).natAbs).length cG), (w.heap.size + 1 + 1 + 1, 0, .bool b4), (w.heap.size + 1 + 1 + 1, 1, .slice pM nM cM), (w.heap.size + 1 + 1, 0, .bool b3), (w.heap.size + 1 + 1, 1, .slice pC nC cC), (w.heap.size + 1, 0, .bool b2), (w.heap.size + 1, 1, .slice pB nB cB), (w.heap.size, 0, .bool b1), (w.heap.size, 1, .slice pA nA cA)] [] (grown_alloc _ _ _) (by assumption) | exact Kept.step (W := W6) [(w5.heap.size, 0, .bool (decide (zg < 0))), (w5.heap.size, 1, .slice pG (dig 4294967296 (zg).natAbs).length cG), (w.heap.size + 1 + 1 + 1, 0, .bool b4), (w.heap.size + 1 + 1 + 1, 1, .slice pM nM cM), (w.heap.size + 1 + 1, 0, .bool b3), (w.heap.size + 1 + 1, 1, .slice pC nC cC), (w.heap.size + 1, 0, .bool b2), (w.heap.size + 1, 1, .slice pB nB cB), (w.heap.size, 0, .bool b1), (w.heap.size, 1, .slice pA nA cA)] [] (grown_drew _ _) S0)
    (first | (go_at_call 46; (with_reducible refine (SameInt_t n4 n5 rfl).mono ?_); rintro e w' ⟨rfl, hg⟩; clear n4 n5) | (go_at_call 22; (with_reducible refine (Abs_i (VA.out.grown (by go_split_ands; assumption)) k4).mono ?_); rintro e w' ⟨v, rfl, h, bd, hg⟩; have n5 := h.nor; clear h bd; replace n4 := n4.grown hg) | (go_at_call 40; (with_reducible refine (Gcd1_i 4 (VA.out.grown (by go_split_ands; assumption)) q4 k4 (by simp [go_sem]) (by simp [go_sem])).mono ?_); rintro e w' ⟨v, rfl, h, bd, hg⟩; have n4 := h.nor; clear h bd) | (go_at_call 46; (with_reducible refine (SameInt_t (NG.out.grown (by go_split_ands; assumption)) n3 E2.out).mono ?_); rintro e w' ⟨rfl, hg⟩; clear n3) | (go_at_call 40; (with_reducible refine (Gcd4_i 4 (n1.grown (grown_alloc _ _ _)) (VC.out.grown (by go_split_ands; assumption)) (VB.out.grown (by go_split_ands; assumption)) (VA.out.grown (by go_split_ands; assumption)) q4 q4 q4 q4 k4 (by simp [go_sem]) (by simp [go_sem]) (by simp [go_sem]) (by simp [go_sem]) (by simp [go_sem]) (by simp [go_sem]) (by simp [go_sem]) (by simp [go_sem])).mono ?_); rintro e w' ⟨v, rfl, h, bd, hg⟩; have n3 := h.nor; clear h bd; clear n1) | (go_at_call 21; (with_reducible refine (Neg_i (VA.out.grown (by go_split_ands; assumption)) k4).mono ?_); rintro e w' ⟨v, rfl, h, bd, hg⟩; obtain ⟨qn1, rn1, rfl, -⟩ := id h; have n1 := h.intV bd; clear h bd) | (go_at_call 46; (with_reducible refine (SameInt_t (NG.out.grown (by go_split_ands; assumption)) n2 E1.out).mono ?_); rintro e w' ⟨rfl, hg⟩; clear n2) | (go_at_call 40; (with_reducible refine (Gcd2_i 4 (VC.out.grown (by go_split_ands; assumption)) (m1.grown (grown_alloc _ _ _)) q4 q4 k4 (by simp [go_sem]) (by simp [go_sem]) (by simp [go_sem]) (by simp [go_sem])).mono ?_); rintro e w' ⟨v, rfl, h, bd, hg⟩; have n2 := h.nor; clear h bd; clear m1) | (go_at_call 40; (with_reducible refine (Gcd2_i 4 (VB.out.grown (by go_split_ands; assumption)) (VA.out.grown (by go_split_ands; assumption)) q4 q4 k4 (by simp [go_sem]) (by simp [go_sem]) (by simp [go_sem]) (by simp [go_sem])).mono ?_); rintro e w' ⟨v, rfl, h, bd, hg⟩; obtain ⟨qm1, rm1, rfl, -⟩ := id h; have m1 := h.intV bd; clear h bd))
  rename_i hend
  have g := hend.2.2.2.2.2.2.2.2.2.2
  replace VA := Lib.hid (VA.out.kp (Kp.of g))
  replace VB := Lib.hid (VB.out.kp (Kp.of g))
  replace VC := Lib.hid (VC.out.kp (Kp.of g))
  replace VM := Lib.hid (VM.out.kp (Kp.of g))
  replace VG := Lib.hid (VG.out.kp (Kp.of g))
  replace NG := Lib.hid (NG.out.kp (Kp.of g))
  replace S := S.step _ g
  clear g hend S0
  generalize w' = wr7 at *
  obtain ⟨e0, e1, e2, e3, e4, e5, e6, e7, e8, e9, e10, e11, e12, e13, e14, e15, e16, e17, e18, e19, G⟩ := id S
  go_wp2_with fail
  clear e0 e1 e2 e3 e4 e5 e6 e7 e8 e9 e10 e11 e12 e13 e14 e15 e16 e17 e18 e19 G
  obtain ⟨e0, e1, e2, e3, e4, e5, e6, e7, e8, e9, e10, e11, e12, e13, e14, e15, e16, e17, e18, e19, G⟩ := id S
  have S0 : Kept wr7 [(w5.heap.size, 0, .bool (decide (zg < 0))), (w5.heap.size, 1, .slice pG (dig 4294967296 (zg).natAbs).length cG), (w.heap.size + 1 + 1 + 1, 0, .bool b4), (w.heap.size + 1 + 1 + 1, 1, .slice pM nM cM), (w.heap.size + 1 + 1, 0, .bool b3), (w.heap.size + 1 + 1, 1, .slice pC nC cC), (w.heap.size + 1, 0, .bool b2), (w.heap.size + 1, 1, .slice pB nB cB), (w.heap.size, 0, .bool b1), (w.heap.size, 1, .slice pA nA cA)] [] wr7 := ⟨e0, e1, e4, e5, e8, e9, e12, e13, e16, e17, grown_refl _ _⟩
  clear e0 e1 e2 e3 e4 e5 e6 e7 e8 e9 e10 e11 e12 e13 e14 e15 e16 e17 e18 e19 G
  go_region_held3 (fun w' => w'.cell? ⟨w5.heap.size, 0, none⟩ = some (.bool (decide (zg < 0))) ∧ w'.cell? ⟨w5.heap.size, 1, none⟩ = some (.slice pG (dig 4294967296 (zg).natAbs).length cG) ∧ w'.cell? ⟨w.heap.size + 1 + 1 + 1, 0, none⟩ = some (.bool b4) ∧ w'.cell? ⟨w.heap.size + 1 + 1 + 1, 1, none⟩ = some (.slice pM nM cM) ∧ w'.cell? ⟨w.heap.size + 1 + 1, 0, none⟩ = some (.bool b3) ∧ w'.cell? ⟨w.heap.size + 1 + 1, 1, none⟩ = some (.slice pC nC cC) ∧ w'.cell? ⟨w.heap.size + 1, 0, none⟩ = some (.bool b2) ∧ w'.cell? ⟨w.heap.size + 1, 1, none⟩ = some (.slice pB nB cB) ∧ w'.cell? ⟨w.heap.size, 0, none⟩ = some (.bool b1) ∧ w'.cell? ⟨w.heap.size, 1, none⟩ = some (.slice pA nA cA) ∧ wr7.grownBy w' none) (first | exact Kept.step (W := wr7) [(w5.heap.size, 0, .bool (decide (zg < 0))), (w5.heap.size, 1, .slice pG (dig 4294967296 (zg).natAbs).length cG), (w.heap.size + 1 + 1 + 1, 0, .bool b4), (w.heap.size + 1 + 1 + 1, 1, .slice pM nM cM), (w.heap.size + 1 + 1, 0, .bool b3), (w.heap.size + 1 + 1, 1, .slice pC nC cC), (w.heap.size + 1, 0, .bool b2), (w.heap.size + 1, 1, .slice pB nB cB), (w.heap.size, 0, .bool b1), (w.heap.size, 1, .slice pA nA cA)] [] (by assumption) (by assumption) | exact Kept.step (W := wr7) [(w5.heap.size, 0, .bool (decide (zg < 0))), (w5.heap.size, 1, .slice pG (dig 4294967296 (zg).natAbs).length cG), (w.heap.size + 1 + 1 + 1, 0, .bool b4), (w.heap.size + 1 + 1 + 1, 1, .slice pM nM cM), (w.heap.size + 1 + 1, 0, .bool b3), (w.heap.size + 1 + 1, 1, .slice pC nC cC), (w.heap.size + 1, 0, .bool b2), (w.heap.size + 1, 1, .slice pB nB cB), (w.heap.size, 0, .bool b1), (w.heap.size, 1, .slice pA nA cA)] [] (grown_alloc _ _ _) (by assumption) | exact Kept.step (W := wr7) [(w5.heap.size, 0, .bool (decide (zg < 0))), (w5.heap.size, 1, .slice pG (dig 4294967296 (zg).natAbs).length cG), (w.heap.size + 1 + 1 + 1, 0, .bool b4), (w.heap.size + 1 + 1 + 1, 1, .slice pM nM cM), (w.heap.size + 1 + 1, 0, .bool b3), (w.heap.size + 1 + 1, 1, .slice pC nC cC), (w.heap.size + 1, 0, .bool b2), (w.heap.size + 1, 1, .slice pB nB cB), (w.heap.size, 0, .bool b1), (w.heap.size, 1, .slice pA nA cA)] [] (grown_drew _ _) S0)
    (first | (go_at_call 28; (with_reducible refine (wakes_true _).mono ?_); rintro e w' ⟨rfl, hg⟩) | (go_at_call 46; (with_reducible refine (SameInt_t n7 n8 E5.out).mono ?_); rintro e w' ⟨rfl, hg⟩; clear n7 n8) | (go_at_call 40; (with_reducible refine (Gcd2_i 4 (VA.out.grown (by go_split_ands; assumption)) (VB.out.grown (by go_split_ands; assumption)) q4 q4 k4 (by first | (simp [go_sem]; done) | exact cell_grown (grown_alloc _ _ none) (by simp [go_sem]; done) | exact F.a) (by first | (simp [go_sem]; done) | exact cell_grown (grown_alloc _ _ none) (by simp [go_sem]; done) | exact F.b) (by first | (simp [go_sem]; done) | exact cell_grown (grown_alloc _ _ none) (by simp [go_sem]; done) | exact F.c) (by first | (simp [go_sem]; done) | exact cell_grown (grown_alloc _ _ none) (by simp [go_sem]; done) | exact F.d)).mono ?_); rintro e w' ⟨v, rfl, h, bd, hg⟩; have n8 := h.nor; clear h bd; (first | replace n7 := n7.grown hg | replace n7 := (n7.grown (grown_alloc _ _ _)).grown hg)) | (go_at_call 40; (with_reducible refine (Gcd2_i 12 (by first | exact a6 | exact a6.grown (grown_alloc _ _ _) | exact a6.grown (grown_trans (grown_alloc _ _ _) (grown_alloc _ _ _))) (VB.out.grown (by go_split_ands; assumption)) q1273 q412 k12 (by first | (simp [go_sem]; done) | exact cell_grown (grown_alloc _ _ none) (by simp [go_sem]; done) | exact F.a) (by first | (simp [go_sem]; done) | exact cell_grown (grown_alloc _ _ none) (by simp [go_sem]; done) | exact F.b) (by first | (simp [go_sem]; done) | exact cell_grown (grown_alloc _ _ none) (by simp [go_sem]; done) | exact F.c) (by first | (simp [go_sem]; done) | exact cell_grown (grown_alloc _ _ none) (by simp [go_sem]; done) | exact F.d)).mono ?_); rintro e w' ⟨v, rfl, h, bd, hg⟩; have n7 := h.nor; clear h bd; clear a6; (first | (have F' := F.grown hg; clear F; have F := F'; clear F') | (have F' := F.grown (grown_trans (grown_alloc _ _ none) hg); clear F; have F := F'; clear F') | (have F := (show Pair _ _ b1 pA nA cA b2 pB nB cB from Pair.mk1 hg)) | (have F := (show Pair _ _ b1 pA nA cA b2 pB nB cB from Pair.mk2 hg)) | skip); (first | rw [World.size_alloc] at F | skip)) | (go_at_call 13; (with_reducible refine (Add_i (VA.out.grown (by go_split_ands; assumption)) (by first | exact m5 | exact m5.grown (grown_alloc _ _ _) | exact m5.grown (grown_trans (grown_alloc _ _ _) (grown_alloc _ _ _))) k473).mono ?_); rintro e w' ⟨v, rfl, h, bd, hg⟩; rw [Ta.out] at h bd; obtain ⟨qa6, ra6, rfl, -⟩ := id h; have a6 := h.intV bd; clear h bd; clear m5; (first | (have F' := F.grown hg; clear F; have F := F'; clear F') | (have F' := F.grown (grown_trans (grown_alloc _ _ none) hg); clear F; have F := F'; clear F') | (have F := (show Pair _ _ b1 pA nA cA b2 pB nB cB from Pair.mk1 hg)) | (have F := (show Pair _ _ b1 pA nA cA b2 pB nB cB from Pair.mk2 hg)) | skip); (first | rw [World.size_alloc] at F | skip)) | (go_at_call 19; (with_reducible refine (Mul_i (VB.out.grown (by go_split_ands; assumption)) (VM.out.grown (by go_split_ands; assumption)) k43).mono ?_); rintro e w' ⟨v, rfl, h, bd, hg⟩; clear fl; obtain ⟨qm5, rm5, rfl, -⟩ := id h; have m5 := h.intV bd; clear h bd; (first | (have F' := F.grown hg; clear F; have F := F'; clear F') | (have F' := F.grown (grown_trans (grown_alloc _ _ none) hg); clear F; have F := F'; clear F') | (have F := (show Pair _ _ b1 pA nA cA b2 pB nB cB from Pair.mk1 hg)) | (have F := (show Pair _ _ b1 pA nA cA b2 pB nB cB from Pair.mk2 hg)) | skip); (first | rw [World.size_alloc] at F | skip)) | (go_at_call 46; (with_reducible refine (SameInt_t n4 n6 E4.out).mono ?_); rintro e w' ⟨rfl, hg⟩; clear n4 n6; have fl := trivial) | (go_at_call 19; (with_reducible refine (Mul_i (VG.out.grown (by go_split_ands; assumption)) a1 k43).mono ?_); rintro e w' ⟨v, rfl, h, bd, hg⟩; have n6 := h.nor; clear h bd; replace n4 := n4.grown hg; clear a1) | (go_at_call 22; (with_reducible refine (Abs_i (VM.out.grown (by go_split_ands; assumption)) k3).mono ?_); rintro e w' ⟨v, rfl, h, bd, hg⟩; rw [Tm.out] at h bd; obtain ⟨qa1, ra1, rfl, -⟩ := id h; have a1 := h.intV bd; clear h bd; replace n4 := n4.grown hg) | (go_at_call 40; (with_reducible refine (Gcd3_i 7 (m1.grown (grown_alloc _ _ _)) (m2.grown (grown_alloc _ _ _)) (m3.grown (grown_alloc _ _ _)) q7 q7 q7 k7 (by simp [go_sem]) (by simp [go_sem]) (by simp [go_sem]) (by simp [go_sem]) (by simp [go_sem]) (by simp [go_sem])).mono ?_); rintro e w' ⟨v, rfl, h, bd, hg⟩; have n4 := h.nor; clear h bd; clear m1 m2 m3) | (go_at_call 19; (with_reducible refine (Mul_i (VC.out.grown (by go_split_ands; assumption)) (VM.out.grown (by go_split_ands; assumption)) k43).mono ?_); rintro e w' ⟨v, rfl, h, bd, hg⟩; obtain ⟨qm3, rm3, rfl, -⟩ := id h; have m3 := h.intV bd; clear h bd; replace m1 := m1.grown hg; replace m2 := m2.grown hg) | (go_at_call 19; (with_reducible refine (Mul_i (VB.out.grown (by go_split_ands; assumption)) (VM.out.grown (by go_split_ands; assumption)) k43).mono ?_); rintro e w' ⟨v, rfl, h, bd, hg⟩; obtain ⟨qm2, rm2, rfl, -⟩ := id h; have m2 := h.intV bd; clear h bd; replace m1 := m1.grown hg) | (go_at_call 19; (with_reducible refine (Mul_i (VA.out.grown (by go_split_ands; assumption)) (VM.out.grown (by go_split_ands; assumption)) k43).mono ?_); rintro e w' ⟨v, rfl, h, bd, hg⟩; obtain ⟨qm1, rm1, rfl, -⟩ := id h; have m1 := h.intV bd; clear h bd))
  all_goals (rename_i hend; have g := hend.2.2.2.2.2.2.2.2.2.2; replace S := S.step _ g; clear g hend S0; go_wp2_with fail; go_ret; exact ⟨rfl, S.all⟩)

set_option maxRecDepth 100000 in
theorem lifted (os : Os) (started : os.Started) (H : Type) (enc : TypeId × Value → H) :
    ReturnsInHanded {} Try.checked os 10 .any (Rows.wholeSharedSpec.pre6 enc Try.prog Try.f10 Rows.wholeSharedRow.domain false) (Rows.wholeSharedSpec.post enc Try.prog Try.f10 false true false false) := by
  refine returnsInHanded_of_change (C := Try.checked) Try.own started (by kernel_rfl) Try.func10
    (ChangeSpec.witness6 (enc := enc) (C := Try.checked) false ⟨#[], #[.agg #[.bool false, .slice none 0 0], .agg #[.bool false, .slice none 0 0], .agg #[.bool false, .slice none 0 0], .agg #[.bool false, .slice none 0 0]], []⟩ 8 (by kernel_rfl) (by kernel_rfl) (by kernel_rfl) (by kernel_rfl)) ?_
  intro W base args ds gs before hval0 hW _ _
  have hval : ∀ (j : Nat) t v, Try.f10.params[j]? = some t → args[j]? = some v → Value.okWide Try.prog W .any base t v := hval0
  obtain ⟨p, q, hA0, hV, rfl, _, _⟩ := id hW
  have hA : DataW.TrodAll enc Try.prog W 0 (fun _ => true) true Try.f10.params.toList args.toList ds p := hA0
  rw [Try.params10] at hA hval
  obtain ⟨v0, vs0, d0, ds0, p0, q0, hargs, rfl, rfl, h0, r0⟩ := trodAll_cons hA
  obtain ⟨v1, vs1, d1, ds1, p1, q1, rfl, rfl, rfl, h1, r1⟩ := trodAll_cons r0
  obtain ⟨v2, vs2, d2, ds2, p2, q2, rfl, rfl, rfl, h2, r2⟩ := trodAll_cons r1
  obtain ⟨v3, vs3, d3, ds3, p3, q3, rfl, rfl, rfl, h3, r3⟩ := trodAll_cons r2
  obtain ⟨rfl, rfl, rfl⟩ := trodAll_nil r3
  obtain rfl : args = #[v0, v1, v2, v3] := by cases args; simp_all
  obtain ⟨b0, w0, xs0, rfl, s0, a0⟩ := int_of_trod h0 (hval 0 24 v0 rfl rfl)
  obtain ⟨b1, w1, xs1, rfl, s1, a1⟩ := int_of_trod h1 (hval 1 24 v1 rfl rfl)
  obtain ⟨b2, w2, xs2, rfl, s2, a2⟩ := int_of_trod h2 (hval 2 24 v2 rfl rfl)
  obtain ⟨b3, w3, xs3, rfl, s3, a3⟩ := int_of_trod h3 (hval 3 24 v3 rfl rfl)
  refine (walk s0 a0 s1 a1 s2 a2 s3 a3).mono fun e W' ⟨he, hg⟩ => ?_
  subst he
  refine ⟨_, rfl, law_post Try.laidOut rfl (by kernel_rfl) Try.underlying4 ?_ ?_ hW hg⟩
  · rw [Try.params10]; decide +kernel
  · rw [Try.params10]
    intro ds h
    match ds, h with
    | [_, _, _, _], _ => rfl

theorem holds : Rows.WholeSharedSaid :=
  OpenClaim.holds_of_wide 10 Try.f10 rfl rfl rfl rfl rfl rfl rfl ⟨rfl, rfl, rfl, rfl, rfl⟩ rfl rfl rfl rfl rfl (by kernel_rfl) Try.func10 (by kernel_rfl)
    (of_decide_eq_true (by kernel_rfl)) (by unfold Func.isWrapper; first | (rw [if_pos (by decide +kernel)]; kernel_rfl) | (rw [if_neg (by decide +kernel)]; exact ⟨rfl, rfl⟩))
    (fun os started H enc _ => lifted os started H enc)

end Go.Proofs.Ytmmmpdpgkjcohaa.shared
