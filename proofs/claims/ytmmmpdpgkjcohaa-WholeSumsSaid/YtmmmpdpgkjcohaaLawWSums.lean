/- WholeSums holds: for every two whole numbers the law returns true and leaves them as they were. No condition. -/
import Derived.Test.YtmmmpdpgkjcohaaRowInt
import Derived.Test.YtmmmpdpgkjcohaaKeepB
import Derived.Deep.DeepCutAuto
namespace Go.Proofs.Ytmmmpdpgkjcohaa.sums
open Go.ChangeShapes Go.WideShapes Go.ChangeAt Go.RowKit

theorem Bx.join {W w w' : World} {bs bs' : List (Nat × Value × Value)} (h : Bx W bs w) (k : Bx w bs' w') : Bx W (bs' ++ bs) w' := by
  have h2 := Bx.step bs k.all h
  rw [Bx.iff] at h2 k ⊢
  refine ⟨fun b hb => ?_, h2.2⟩
  rcases List.mem_append.1 hb with hb | hb
  · exact k.1 b hb
  · exact h2.1 b hb
theorem Bx.swap {W w : World} {a b : Nat × Value × Value} {bs : List (Nat × Value × Value)} (h : Bx W (a :: b :: bs) w) : Bx W (b :: a :: bs) w :=
  h.sub fun x hx => by simp only [List.mem_cons] at hx ⊢; rcases hx with h | h | h <;> simp [h]
theorem Bx.start_of {w w' : World} (g : w.grownBy w' none) : Bx w [] w' := g
theorem DecI.abs {w : World} {p : Option Addr} {c : Nat} {z : Int} {b : Value} {k : Nat} (h : DecI w (.agg #[.slice p (dig 10000 z.natAbs).length c, b]) z k) : DecI w (.agg #[.slice p (dig 10000 z.natAbs).length c, .bool false]) (z.natAbs : Int) k := by
  obtain ⟨q, d, e, h⟩ := h
  simp only [Value.agg.injEq, Array.mk.injEq, List.cons.injEq, Value.slice.injEq, and_true, true_and] at e
  obtain ⟨⟨rfl, rfl⟩, -⟩ := e
  refine ⟨p, c, ?_, ?_⟩
  · rw [Int.natAbs_natCast, decide_eq_false (by omega)]
  · rw [Int.natAbs_natCast]; exact h
set_option maxHeartbeats 16000000 in
set_option maxRecDepth 100000 in
theorem walk {b1 b2 : Bool} {v1 v2 : Value} {xs ys : List Nat} {w : World} (hx : Sl w .u32 v1 xs) (ax : All 4294967296 xs) (hy : Sl w .u32 v2 ys) (ay : All 4294967296 ys) :
    Calls Try.prog 3 #[.agg #[.bool b1, v1], .agg #[.bool b2, v2]] w (Bool_ w true) := by
  obtain ⟨p1, c1, rfl, -⟩ := id hx
  obtain ⟨p2, c2, rfl, -⟩ := id hy
  have Hx := Lib.hid hx
  have Hy := Lib.hid hy
  have Ax := Lib.hid ax
  have Ay := Lib.hid ay
  have S : Bx w [(w.heap.size + 1, .bool b2, .slice p2 ys.length c2), (w.heap.size, .bool b1, .slice p1 xs.length c1)] ((w.alloc (.cells #[.bool b1, .slice p1 xs.length c1] 24)).alloc (.cells #[.bool b2, .slice p2 ys.length c2] 24)) := (((Bx.start w).box (w.heap.size) (.bool b1) (.slice p1 xs.length c1) 24 (by simp)).box (w.heap.size + 1) (.bool b2) (.slice p2 ys.length c2) 24 (by simp))
  clear hx ax hy ay
  go_enter Try.func3, Try.ntmps3
  obtain ⟨e0, e1, e2, e3, e4, e5, e6, e7, G⟩ := id S
  go_wp2_with fail
  clear e0 e1 e2 e3 e4 e5 e6 e7 G
  refine (Of_l 16 (Hx.out.grown S.all (.inl rfl)) Ax.out (by omega)).mono ?_
  rintro e w1 ⟨pA, nA, cA, ux, rfl, hs, hd, g⟩
  replace hs := hs.grown g (.inl rfl)
  replace S := S.step _ g
  clear g
  obtain ⟨zx, hzx⟩ : ∃ z, sg b1 (val 4294967296 (xs.take 16)) = z := ⟨_, rfl⟩
  rw [hzx] at hd
  have bdx := hd.bd
  obtain ⟨px, cx, rfl, -⟩ := id hd
  have VA := Lib.hid (show IntV _ (.agg #[.bool b1, .slice pA nA cA]) zx 16 from ⟨_, _, _, rfl, Num.row hs (Ax.out.take 16) 16 (by rw [List.length_take]; omega), hzx.symm⟩)
  have SA := Lib.hid (show Sl _ .u32 (.slice pA nA cA) (xs.take 16) from hs)
  have Dx := Lib.hid (hd)
  have EZX := Lib.hid hzx.symm
  clear hs hd hzx
  have z1_0 := S.lt (g := w.heap.size + 1) (x := .bool b2) (y := .slice p2 ys.length c2) (by simp)
  have z1_1 := S.lt (g := w.heap.size) (x := .bool b1) (y := .slice p1 xs.length c1) (by simp)
  obtain ⟨e0, e1, e2, e3, e4, e5, e6, e7, G⟩ := id S
  have K : Kp w1 (((w1.setCell ⟨w.heap.size, 0, none⟩ (.bool b1)).setCell ⟨w.heap.size, 1, none⟩ (.slice pA nA cA)).alloc (.cells #[.slice px (dig 10000 (zx).natAbs).length cx, .bool (decide (zx < 0))] 28)) := (S.kp (g := w.heap.size) (x := .bool b1) (y := .slice p1 xs.length c1) (.bool b1) (.slice pA nA cA) (by simp) (by simp) (by simp)).trans (Kp.of (grown_alloc _ _ _))
  have S2 : Bx w [(w.heap.size, .bool b1, .slice pA nA cA), (w.heap.size + 1, .bool b2, .slice p2 ys.length c2)] ((w1.setCell ⟨w.heap.size, 0, none⟩ (.bool b1)).setCell ⟨w.heap.size, 1, none⟩ (.slice pA nA cA)) := S.put (g := w.heap.size) (u := .bool b1) (v := .slice pA nA cA) (x := .bool b1) (y := .slice p1 xs.length c1) (bs' := [(w.heap.size + 1, .bool b2, .slice p2 ys.length c2)]) (by simp) (by simp <;> omega) (by simp <;> omega) (by omega)
  replace S : Bx w [(w1.heap.size, .slice px (dig 10000 (zx).natAbs).length cx, .bool (decide (zx < 0))), (w.heap.size, .bool b1, .slice pA nA cA), (w.heap.size + 1, .bool b2, .slice p2 ys.length c2)] (((w1.setCell ⟨w.heap.size, 0, none⟩ (.bool b1)).setCell ⟨w.heap.size, 1, none⟩ (.slice pA nA cA)).alloc (.cells #[.slice px (dig 10000 (zx).natAbs).length cx, .bool (decide (zx < 0))] 28)) := S2.box (w1.heap.size) (.slice px (dig 10000 (zx).natAbs).length cx) (.bool (decide (zx < 0))) 28 (by simp)
  replace VA := Lib.hid (VA.out.kp K)
  replace SA := Lib.hid (SA.out.kp K)
  replace Dx := Lib.hid (Dx.out.kp K)
  go_wp2_with fail
  clear K S2 e0 e1 e2 e3 e4 e5 e6 e7 G
  generalize (((w1.setCell ⟨w.heap.size, 0, none⟩ (.bool b1)).setCell ⟨w.heap.size, 1, none⟩ (.slice pA nA cA)).alloc (.cells #[.slice px (dig 10000 (zx).natAbs).length cx, .bool (decide (zx < 0))] 28)) = W1 at *
  refine (Of_l 16 (Hy.out.grown S.all (.inl rfl)) Ay.out (by omega)).mono ?_
  rintro e w2 ⟨pB, nB, cB, uy, rfl, hs, hd, g⟩
  replace hs := hs.grown g (.inl rfl)
  replace VA := Lib.hid (VA.out.kp (Kp.of g))
  replace SA := Lib.hid (SA.out.kp (Kp.of g))
  replace Dx := Lib.hid (Dx.out.kp (Kp.of g))
  replace S := S.step _ g
  clear g
  obtain ⟨zy, hzy⟩ : ∃ z, sg b2 (val 4294967296 (ys.take 16)) = z := ⟨_, rfl⟩
  rw [hzy] at hd
  have bdy := hd.bd
  obtain ⟨py, cy, rfl, -⟩ := id hd
  have VB := Lib.hid (show IntV _ (.agg #[.bool b2, .slice pB nB cB]) zy 16 from ⟨_, _, _, rfl, Num.row hs (Ay.out.take 16) 16 (by rw [List.length_take]; omega), hzy.symm⟩)
  have SB := Lib.hid (show Sl _ .u32 (.slice pB nB cB) (ys.take 16) from hs)
  have Dy := Lib.hid (hd)
  have EZY := Lib.hid hzy.symm
  clear hs hd hzy
  have z2_0 := S.lt (g := w1.heap.size) (x := .slice px (dig 10000 (zx).natAbs).length cx) (y := .bool (decide (zx < 0))) (by simp)
  have z2_1 := S.lt (g := w.heap.size) (x := .bool b1) (y := .slice pA nA cA) (by simp)
  have z2_2 := S.lt (g := w.heap.size + 1) (x := .bool b2) (y := .slice p2 ys.length c2) (by simp)
  obtain ⟨e0, e1, e2, e3, e4, e5, e6, e7, e8, e9, e10, e11, G⟩ := id S
  have K : Kp w2 (((w2.setCell ⟨w.heap.size + 1, 0, none⟩ (.bool b2)).setCell ⟨w.heap.size + 1, 1, none⟩ (.slice pB nB cB)).alloc (.cells #[.slice py (dig 10000 (zy).natAbs).length cy, .bool (decide (zy < 0))] 28)) := (S.kp (g := w.heap.size + 1) (x := .bool b2) (y := .slice p2 ys.length c2) (.bool b2) (.slice pB nB cB) (by simp) (by simp) (by simp)).trans (Kp.of (grown_alloc _ _ _))
  have S2 : Bx w [(w.heap.size + 1, .bool b2, .slice pB nB cB), (w1.heap.size, .slice px (dig 10000 (zx).natAbs).length cx, .bool (decide (zx < 0))), (w.heap.size, .bool b1, .slice pA nA cA)] ((w2.setCell ⟨w.heap.size + 1, 0, none⟩ (.bool b2)).setCell ⟨w.heap.size + 1, 1, none⟩ (.slice pB nB cB)) := S.put (g := w.heap.size + 1) (u := .bool b2) (v := .slice pB nB cB) (x := .bool b2) (y := .slice p2 ys.length c2) (bs' := [(w1.heap.size, .slice px (dig 10000 (zx).natAbs).length cx, .bool (decide (zx < 0))), (w.heap.size, .bool b1, .slice pA nA cA)]) (by simp) (by simp <;> omega) (by simp <;> omega) (by omega)
  replace S : Bx w [(w2.heap.size, .slice py (dig 10000 (zy).natAbs).length cy, .bool (decide (zy < 0))), (w.heap.size + 1, .bool b2, .slice pB nB cB), (w1.heap.size, .slice px (dig 10000 (zx).natAbs).length cx, .bool (decide (zx < 0))), (w.heap.size, .bool b1, .slice pA nA cA)] (((w2.setCell ⟨w.heap.size + 1, 0, none⟩ (.bool b2)).setCell ⟨w.heap.size + 1, 1, none⟩ (.slice pB nB cB)).alloc (.cells #[.slice py (dig 10000 (zy).natAbs).length cy, .bool (decide (zy < 0))] 28)) := S2.box (w2.heap.size) (.slice py (dig 10000 (zy).natAbs).length cy) (.bool (decide (zy < 0))) 28 (by simp)
  replace VA := Lib.hid (VA.out.kp K)
  replace SA := Lib.hid (SA.out.kp K)
  replace Dx := Lib.hid (Dx.out.kp K)
  replace VB := Lib.hid (VB.out.kp K)
  replace SB := Lib.hid (SB.out.kp K)
  replace Dy := Lib.hid (Dy.out.kp K)
  go_wp2_with fail
  clear K S2 e0 e1 e2 e3 e4 e5 e6 e7 e8 e9 e10 e11 G
  generalize (((w2.setCell ⟨w.heap.size + 1, 0, none⟩ (.bool b2)).setCell ⟨w.heap.size + 1, 1, none⟩ (.slice pB nB cB)).alloc (.cells #[.slice py (dig 10000 (zy).natAbs).length cy, .bool (decide (zy < 0))] 28)) = W2 at *
  have lx : (xs.take 16).length ≤ 16 := by rw [List.length_take]; omega
  have ly : (ys.take 16).length ≤ 16 := by rw [List.length_take]; omega
  have lx6 : (xs.take 16).length ≤ 1000000 := by omega
  have ly6 : (ys.take 16).length ≤ 1000000 := by omega
  have Zx := Lib.hid (show zx = sg b1 (val 4294967296 (xs.take 16)) from EZX.out)
  have Zy := Lib.hid (show zy = sg b2 (val 4294967296 (ys.take 16)) from EZY.out)
  have Tx := Lib.hid (Ax.out.take 16)
  have Ty := Lib.hid (Ay.out.take 16)
  clear EZX EZY
  generalize xs.take 16 = as1 at *
  generalize ys.take 16 = bs1 at *
  obtain ⟨e0, e1, e2, e3, e4, e5, e6, e7, e8, e9, e10, e11, e12, e13, e14, e15, G⟩ := id S
  have S0 : Kept W2 [(w2.heap.size, 0, .slice py (dig 10000 (zy).natAbs).length cy), (w2.heap.size, 1, .bool (decide (zy < 0))), (w.heap.size + 1, 0, .bool b2), (w.heap.size + 1, 1, .slice pB nB cB), (w1.heap.size, 0, .slice px (dig 10000 (zx).natAbs).length cx), (w1.heap.size, 1, .bool (decide (zx < 0))), (w.heap.size, 0, .bool b1), (w.heap.size, 1, .slice pA nA cA)] [] W2 := ⟨e0, e1, e4, e5, e8, e9, e12, e13, grown_refl _ _⟩
  clear e0 e1 e2 e3 e4 e5 e6 e7 e8 e9 e10 e11 e12 e13 e14 e15 G
  go_region_held3 (fun w' => w'.cell? ⟨w2.heap.size, 0, none⟩ = some (.slice py (dig 10000 (zy).natAbs).length cy) ∧ w'.cell? ⟨w2.heap.size, 1, none⟩ = some (.bool (decide (zy < 0))) ∧ w'.cell? ⟨w.heap.size + 1, 0, none⟩ = some (.bool b2) ∧ w'.cell? ⟨w.heap.size + 1, 1, none⟩ = some (.slice pB nB cB) ∧ w'.cell? ⟨w1.heap.size, 0, none⟩ = some (.slice px (dig 10000 (zx).natAbs).length cx) ∧ w'.cell? ⟨w1.heap.size, 1, none⟩ = some (.bool (decide (zx < 0))) ∧ w'.cell? ⟨w.heap.size, 0, none⟩ = some (.bool b1) ∧ w'.cell? ⟨w.heap.size, 1, none⟩ = some (.slice pA nA cA) ∧ W2.grownBy w' none) (first | exact Kept.step (W := W2) [(w2.heap.size, 0, .slice py (dig 10000 (zy).natAbs).length cy), (w2.heap.size, 1, .bool (decide (zy < 0))), (w.heap.size + 1, 0, .bool b2), (w.heap.size + 1, 1, .slice pB nB cB), (w1.heap.size, 0, .slice px (dig 10000 (zx).natAbs).length cx), (w1.heap.size, 1, .bool (decide (zx < 0))), (w.heap.size, 0, .bool b1), (w.heap.size, 1, .slice pA nA cA)] [] (by assumption) (by assumption) | exact Kept.step (W := W2) [(w2.heap.size, 0, .slice py (dig 10000 (zy).natAbs).length cy), (w2.heap.size, 1, .bool (decide (zy < 0))), (w.heap.size + 1, 0, .bool b2), (w.heap.size + 1, 1, .slice pB nB cB), (w1.heap.size, 0, .slice px (dig 10000 (zx).natAbs).length cx), (w1.heap.size, 1, .bool (decide (zx < 0))), (w.heap.size, 0, .bool b1), (w.heap.size, 1, .slice pA nA cA)] [] (grown_alloc _ _ _) (by assumption) | exact Kept.step (W := W2) [(w2.heap.size, 0, .slice py (dig 10000 (zy).natAbs).length cy), (w2.heap.size, 1, .bool (decide (zy < 0))), (w.heap.size + 1, 0, .bool b2), (w.heap.size + 1, 1, .slice pB nB cB), (w1.heap.size, 0, .slice px (dig 10000 (zx).natAbs).length cx), (w1.heap.size, 1, .bool (decide (zx < 0))), (w.heap.size, 0, .bool b1), (w.heap.size, 1, .slice pA nA cA)] [] (grown_drew _ _) S0)
    (first | (go_at_call 12; (with_reducible refine (Lend_any (SB.out.grown (by go_split_ands; assumption) (.inl rfl)) ly6).mono ?_); rintro e w' ⟨v, rfl, h, hg⟩; obtain ⟨gv, -, rfl, -⟩ := id h; have l2 := h; replace l1 := l1.grown hg (.inl rfl); clear h) | (go_at_call 12; (with_reducible refine (Lend_any (SA.out.grown (by go_split_ands; assumption) (.inl rfl)) lx6).mono ?_); rintro e w' ⟨v, rfl, h, hg⟩; obtain ⟨gu, -, rfl, -⟩ := id h; have l1 := h; clear h))
  rename_i hend
  have g := hend.2.2.2.2.2.2.2.2
  replace VA := Lib.hid (VA.out.kp (Kp.of g))
  replace SA := Lib.hid (SA.out.kp (Kp.of g))
  replace Dx := Lib.hid (Dx.out.kp (Kp.of g))
  replace VB := Lib.hid (VB.out.kp (Kp.of g))
  replace SB := Lib.hid (SB.out.kp (Kp.of g))
  replace Dy := Lib.hid (Dy.out.kp (Kp.of g))
  replace S := S.step _ g
  clear g hend S0
  generalize w' = wr3 at *
  have L1 := Lib.hid (l1)
  have L2 := Lib.hid (l2)
  clear l1 l2
  have y_0 := S.lt (g := w2.heap.size) (x := .slice py (dig 10000 (zy).natAbs).length cy) (y := .bool (decide (zy < 0))) (by simp)
  have y_1 := S.lt (g := w.heap.size + 1) (x := .bool b2) (y := .slice pB nB cB) (by simp)
  have y_2 := S.lt (g := w1.heap.size) (x := .slice px (dig 10000 (zx).natAbs).length cx) (y := .bool (decide (zx < 0))) (by simp)
  have y_3 := S.lt (g := w.heap.size) (x := .bool b1) (y := .slice pA nA cA) (by simp)
  obtain ⟨e0, e1, e2, e3, e4, e5, e6, e7, e8, e9, e10, e11, e12, e13, e14, e15, G⟩ := id S
  go_upto_region 4 with fail
  go_cut [9, 10] (fun cv dv wx => ∃ gc gd : Nat, cv = .pointer (some ⟨gc, 0, none⟩) ∧ dv = .pointer (some ⟨gd, 0, none⟩) ∧ Bx wr3 [(gc, .bool b1, .slice (some ⟨gu, 0, none⟩) as1.length (as1.length + 3)), (gd, .bool b2, .slice (some ⟨gv, 0, none⟩) bs1.length (bs1.length + 3))] wx)
  case first =>
    go_region
    all_goals (go_wp2_with fail; go_meet)
    all_goals (first | exact ⟨_, _, rfl, rfl, Bx.step _ (grown_drew _ _) (Bx.swap (((Bx.start wr3).box _ _ _ _ rfl).box _ _ _ _ (by simp)))⟩ | exact ⟨_, _, rfl, rfl, Bx.step _ (grown_drew _ _) (((Bx.start wr3).box _ _ _ _ rfl).box _ _ _ _ (by simp))⟩)
  case rest =>
    obtain ⟨gc, gd, rfl, rfl, hB⟩ := hcut
    clear e0 e1 e2 e3 e4 e5 e6 e7 e8 e9 e10 e11 e12 e13 e14 e15 G
    replace S : Bx w [(gc, .bool b1, .slice (some ⟨gu, 0, none⟩) as1.length (as1.length + 3)), (gd, .bool b2, .slice (some ⟨gv, 0, none⟩) bs1.length (bs1.length + 3)), (w2.heap.size, .slice py (dig 10000 (zy).natAbs).length cy, .bool (decide (zy < 0))), (w.heap.size + 1, .bool b2, .slice pB nB cB), (w1.heap.size, .slice px (dig 10000 (zx).natAbs).length cx, .bool (decide (zx < 0))), (w.heap.size, .bool b1, .slice pA nA cA)] wc := Bx.join S hB
    have g := hB.all
    replace VA := Lib.hid (VA.out.kp (Kp.of g))
    replace SA := Lib.hid (SA.out.kp (Kp.of g))
    replace Dx := Lib.hid (Dx.out.kp (Kp.of g))
    replace VB := Lib.hid (VB.out.kp (Kp.of g))
    replace SB := Lib.hid (SB.out.kp (Kp.of g))
    replace Dy := Lib.hid (Dy.out.kp (Kp.of g))
    replace L1 := Lib.hid (L1.out.grown g (.inl rfl))
    replace L2 := Lib.hid (L2.out.grown g (.inl rfl))
    clear g hB
    have VC := Lib.hid (show IntV _ (.agg #[.bool b1, .slice (some ⟨gu, 0, none⟩) as1.length (as1.length + 3)]) zx 16 from ⟨_, _, _, rfl, Num.row (L1.out.sl lx6) Tx.out 16 lx, Zx.out⟩)
    have VD := Lib.hid (show IntV _ (.agg #[.bool b2, .slice (some ⟨gv, 0, none⟩) bs1.length (bs1.length + 3)]) zy 16 from ⟨_, _, _, rfl, Num.row (L2.out.sl ly6) Ty.out 16 ly, Zy.out⟩)
    have VC0 := VC
    have SA0 := SA
    have SB0 := SB
    have S0w := S
    have K := Lib.hid (Bx.start wc)
    obtain ⟨e0, e1, e2, e3, e4, e5, e6, e7, e8, e9, e10, e11, e12, e13, e14, e15, e16, e17, e18, e19, e20, e21, e22, e23, G⟩ := id S
    go_wp2_with fail
    clear e0 e1 e2 e3 e4 e5 e6 e7 e8 e9 e10 e11 e12 e13 e14 e15 e16 e17 e18 e19 e20 e21 e22 e23 G
    with_reducible refine (Add_i VC.out VD.out (by omega)).mono ?_
    rintro e w4 ⟨v, rfl, h, bd, g⟩
    replace VA := Lib.hid (VA.out.kp (Kp.of g))
    replace SA := Lib.hid (SA.out.kp (Kp.of g))
    replace Dx := Lib.hid (Dx.out.kp (Kp.of g))
    replace VB := Lib.hid (VB.out.kp (Kp.of g))
    replace SB := Lib.hid (SB.out.kp (Kp.of g))
    replace Dy := Lib.hid (Dy.out.kp (Kp.of g))
    replace VC := Lib.hid (VC.out.kp (Kp.of g))
    replace VD := Lib.hid (VD.out.kp (Kp.of g))
    replace S := S.step _ g
    replace K := Lib.hid (K.out.step _ g)
    clear g
    obtain ⟨zs, hzs⟩ : ∃ t, zx + zy = t := ⟨_, rfl⟩
    rw [hzs] at h bd
    obtain ⟨ps, cs, rfl, hso⟩ := id h
    have OS := Lib.hid hso
    have NS := Lib.hid (h.nor)
    clear h bd hso
    have Es := Lib.hid hzs
    clear hzs
    replace OS := Lib.hid (OS.out.grown (grown_alloc _ (.cells #[.bool (decide (zs < 0)), .slice ps (dig 4294967296 (zs).natAbs).length cs] 24) none) (.inl rfl))
    replace K := Lib.hid (K.out.step _ (grown_alloc _ (.cells #[.bool (decide (zs < 0)), .slice ps (dig 4294967296 (zs).natAbs).length cs] 24) none))
    replace VA := Lib.hid (VA.out.kp (Kp.of (grown_alloc _ (.cells #[.bool (decide (zs < 0)), .slice ps (dig 4294967296 (zs).natAbs).length cs] 24) none)))
    replace SA := Lib.hid (SA.out.kp (Kp.of (grown_alloc _ (.cells #[.bool (decide (zs < 0)), .slice ps (dig 4294967296 (zs).natAbs).length cs] 24) none)))
    replace Dx := Lib.hid (Dx.out.kp (Kp.of (grown_alloc _ (.cells #[.bool (decide (zs < 0)), .slice ps (dig 4294967296 (zs).natAbs).length cs] 24) none)))
    replace VB := Lib.hid (VB.out.kp (Kp.of (grown_alloc _ (.cells #[.bool (decide (zs < 0)), .slice ps (dig 4294967296 (zs).natAbs).length cs] 24) none)))
    replace SB := Lib.hid (SB.out.kp (Kp.of (grown_alloc _ (.cells #[.bool (decide (zs < 0)), .slice ps (dig 4294967296 (zs).natAbs).length cs] 24) none)))
    replace Dy := Lib.hid (Dy.out.kp (Kp.of (grown_alloc _ (.cells #[.bool (decide (zs < 0)), .slice ps (dig 4294967296 (zs).natAbs).length cs] 24) none)))
    replace VC := Lib.hid (VC.out.kp (Kp.of (grown_alloc _ (.cells #[.bool (decide (zs < 0)), .slice ps (dig 4294967296 (zs).natAbs).length cs] 24) none)))
    replace VD := Lib.hid (VD.out.kp (Kp.of (grown_alloc _ (.cells #[.bool (decide (zs < 0)), .slice ps (dig 4294967296 (zs).natAbs).length cs] 24) none)))
    replace NS := Lib.hid (NS.out.kp (Kp.of (grown_alloc _ (.cells #[.bool (decide (zs < 0)), .slice ps (dig 4294967296 (zs).natAbs).length cs] 24) none)))
    replace S := S.box (w4.heap.size) (.bool (decide (zs < 0))) (.slice ps (dig 4294967296 (zs).natAbs).length cs) 24 (by simp)
    obtain ⟨e0, e1, e2, e3, e4, e5, e6, e7, e8, e9, e10, e11, e12, e13, e14, e15, e16, e17, e18, e19, e20, e21, e22, e23, e24, e25, e26, e27, G⟩ := id S
    go_upto_region 8 with fail
    clear e0 e1 e2 e3 e4 e5 e6 e7 e8 e9 e10 e11 e12 e13 e14 e15 e16 e17 e18 e19 e20 e21 e22 e23 e24 e25 e26 e27 G
    replace K := Lib.hid (K.out.step _ (grown_alloc _ (.cells #[.slice px (dig 10000 (zx).natAbs).length cx, .bool false] 28) none))
    replace OS := Lib.hid (OS.out.grown (grown_alloc _ (.cells #[.slice px (dig 10000 (zx).natAbs).length cx, .bool false] 28) none) (.inl rfl))
    replace VA := Lib.hid (VA.out.kp (Kp.of (grown_alloc _ (.cells #[.slice px (dig 10000 (zx).natAbs).length cx, .bool false] 28) none)))
    replace SA := Lib.hid (SA.out.kp (Kp.of (grown_alloc _ (.cells #[.slice px (dig 10000 (zx).natAbs).length cx, .bool false] 28) none)))
    replace Dx := Lib.hid (Dx.out.kp (Kp.of (grown_alloc _ (.cells #[.slice px (dig 10000 (zx).natAbs).length cx, .bool false] 28) none)))
    replace VB := Lib.hid (VB.out.kp (Kp.of (grown_alloc _ (.cells #[.slice px (dig 10000 (zx).natAbs).length cx, .bool false] 28) none)))
    replace SB := Lib.hid (SB.out.kp (Kp.of (grown_alloc _ (.cells #[.slice px (dig 10000 (zx).natAbs).length cx, .bool false] 28) none)))
    replace Dy := Lib.hid (Dy.out.kp (Kp.of (grown_alloc _ (.cells #[.slice px (dig 10000 (zx).natAbs).length cx, .bool false] 28) none)))
    replace VC := Lib.hid (VC.out.kp (Kp.of (grown_alloc _ (.cells #[.slice px (dig 10000 (zx).natAbs).length cx, .bool false] 28) none)))
    replace VD := Lib.hid (VD.out.kp (Kp.of (grown_alloc _ (.cells #[.slice px (dig 10000 (zx).natAbs).length cx, .bool false] 28) none)))
    replace NS := Lib.hid (NS.out.kp (Kp.of (grown_alloc _ (.cells #[.slice px (dig 10000 (zx).natAbs).length cx, .bool false] 28) none)))
    replace S := S.box (w4.heap.size + 1) (.slice px (dig 10000 (zx).natAbs).length cx) (.bool false) 28 (by simp)
    generalize (w4.alloc (.cells #[.bool (decide (zs < 0)), .slice ps (dig 4294967296 (zs).natAbs).length cs] 24)).alloc (.cells #[.slice px (dig 10000 (zx).natAbs).length cx, .bool false] 28) = W5 at *
    obtain ⟨tx, htx⟩ : ∃ t : Int, (zx.natAbs : Int) = t := ⟨_, rfl⟩
    have Etx := Lib.hid htx
    have DX := Lib.hid (show DecI _ (.agg #[.slice px (dig 10000 (zx).natAbs).length cx, .bool false]) tx 16 from htx ▸ DecI.abs Dx.out)
    clear htx
    obtain ⟨cv, hcv⟩ : ∃ t, cmpI zx zy = t := ⟨_, rfl⟩
    have Ecv := Lib.hid hcv
    clear hcv
    have cc : (cv != cv) = false := by simp
    have k32 : 16 + 16 ≤ 1000000 := by omega
    have k33 : 16 + 16 + 1 ≤ 1000000 := by omega
    have k16 : 16 ≤ 1000000 := by omega
    obtain ⟨e0, e1, e2, e3, e4, e5, e6, e7, e8, e9, e10, e11, e12, e13, e14, e15, e16, e17, e18, e19, e20, e21, e22, e23, e24, e25, e26, e27, e28, e29, e30, e31, G⟩ := id S
    have S0 : Kept W5 [(w4.heap.size + 1, 0, .slice px (dig 10000 (zx).natAbs).length cx), (w4.heap.size + 1, 1, .bool false), (w4.heap.size, 0, .bool (decide (zs < 0))), (w4.heap.size, 1, .slice ps (dig 4294967296 (zs).natAbs).length cs), (gc, 0, .bool b1), (gc, 1, .slice (some ⟨gu, 0, none⟩) as1.length (as1.length + 3)), (gd, 0, .bool b2), (gd, 1, .slice (some ⟨gv, 0, none⟩) bs1.length (bs1.length + 3)), (w2.heap.size, 0, .slice py (dig 10000 (zy).natAbs).length cy), (w2.heap.size, 1, .bool (decide (zy < 0))), (w.heap.size + 1, 0, .bool b2), (w.heap.size + 1, 1, .slice pB nB cB), (w1.heap.size, 0, .slice px (dig 10000 (zx).natAbs).length cx), (w1.heap.size, 1, .bool (decide (zx < 0))), (w.heap.size, 0, .bool b1), (w.heap.size, 1, .slice pA nA cA)] [] W5 := ⟨e0, e1, e4, e5, e8, e9, e12, e13, e16, e17, e20, e21, e24, e25, e28, e29, grown_refl _ _⟩
    clear e0 e1 e2 e3 e4 e5 e6 e7 e8 e9 e10 e11 e12 e13 e14 e15 e16 e17 e18 e19 e20 e21 e22 e23 e24 e25 e26 e27 e28 e29 e30 e31 G
    go_region_held3 (fun w' => w'.cell? ⟨w4.heap.size + 1, 0, none⟩ = some (.slice px (dig 10000 (zx).natAbs).length cx) ∧ w'.cell? ⟨w4.heap.size + 1, 1, none⟩ = some (.bool false) ∧ w'.cell? ⟨w4.heap.size, 0, none⟩ = some (.bool (decide (zs < 0))) ∧ w'.cell? ⟨w4.heap.size, 1, none⟩ = some (.slice ps (dig 4294967296 (zs).natAbs).length cs) ∧ w'.cell? ⟨gc, 0, none⟩ = some (.bool b1) ∧ w'.cell? ⟨gc, 1, none⟩ = some (.slice (some ⟨gu, 0, none⟩) as1.length (as1.length + 3)) ∧ w'.cell? ⟨gd, 0, none⟩ = some (.bool b2) ∧ w'.cell? ⟨gd, 1, none⟩ = some (.slice (some ⟨gv, 0, none⟩) bs1.length (bs1.length + 3)) ∧ w'.cell? ⟨w2.heap.size, 0, none⟩ = some (.slice py (dig 10000 (zy).natAbs).length cy) ∧ w'.cell? ⟨w2.heap.size, 1, none⟩ = some (.bool (decide (zy < 0))) ∧ w'.cell? ⟨w.heap.size + 1, 0, none⟩ = some (.bool b2) ∧ w'.cell? ⟨w.heap.size + 1, 1, none⟩ = some (.slice pB nB cB) ∧ w'.cell? ⟨w1.heap.size, 0, none⟩ = some (.slice px (dig 10000 (zx).natAbs).length cx) ∧ w'.cell? ⟨w1.heap.size, 1, none⟩ = some (.bool (decide (zx < 0))) ∧ w'.cell? ⟨w.heap.size, 0, none⟩ = some (.bool b1) ∧ w'.cell? ⟨w.heap.size, 1, none⟩ = some (.slice pA nA cA) ∧ W5.grownBy w' none) (first | exact Kept.step (W := W5) [(w4.heap.size + 1, 0, .slice px (dig 10000 (zx).natAbs).length cx), (w4.heap.size + 1, 1, .bool false), (w4.heap.size, 0, .bool (decide (zs < 0))), (w4.heap.size, 1, .slice ps (dig 4294967296 (zs).natAbs).length cs), (gc, 0, .bool b1), (gc, 1, .slice (some ⟨gu, 0, none⟩) as1.length (as1.length + 3)), (gd, 0, .bool b2), (gd, 1, .slice (some ⟨gv, 0, none⟩) bs1.length (bs1.length + 3)), (w2.heap.size, 0, .slice py (dig 10000 (zy).natAbs).length cy), (w2.heap.size, 1, .bool (decide (zy < 0))), (w.heap.size + 1, 0, .bool b2), (w.heap.size + 1, 1, .slice pB nB cB), (w1.heap.size, 0, .slice px (dig 10000 (zx).natAbs).length cx), (w1.heap.size, 1, .bool (decide (zx < 0))), (w.heap.size, 0, .bool b1), (w.heap.size, 1, .slice pA nA cA)] [] (by assumption) (by assumption) | exact Kept.step (W := W5) [(w4.heap.size + 1, 0, .slice px (dig 10000 (zx).natAbs).length cx), (w4.heap.size + 1, 1, .bool false), (w4.heap.size, 0, .bool (decide (zs < 0))), (w4.heap.size, 1, .slice ps (dig 4294967296 (zs).natAbs).length cs), (gc, 0, .bool b1), (gc, 1, .slice (some ⟨gu, 0, none⟩) as1.length (as1.length + 3)), (gd, 0, .bool b2), (gd, 1, .slice (some ⟨gv, 0, none⟩) bs1.length (bs1.length + 3)), (w2.heap.size, 0, .slice py (dig 10000 (zy).natAbs).length cy), (w2.heap.size, 1, .bool (decide (zy < 0))), (w.heap.size + 1, 0, .bool b2), (w.heap.size + 1, 1, .slice pB nB cB), (w1.heap.size, 0, .slice px (dig 10000 (zx).natAbs).length cx), (w1.heap.size, 1, .bool (decide (zx < 0))), (w.heap.size, 0, .bool b1), (w.heap.size, 1, .slice pA nA cA)] [] (grown_alloc _ _ _) (by assumption) | exact Kept.step (W := W5) [(w4.heap.size + 1, 0, .slice px (dig 10000 (zx).natAbs).length cx), (w4.heap.size + 1, 1, .bool false), (w4.heap.size, 0, .bool (decide (zs < 0))), (w4.heap.size, 1, .slice ps (dig 4294967296 (zs).natAbs).length cs), (gc, 0, .bool b1), (gc, 1, .slice (some ⟨gu, 0, none⟩) as1.length (as1.length + 3)), (gd, 0, .bool b2), (gd, 1, .slice (some ⟨gv, 0, none⟩) bs1.length (bs1.length + 3)), (w2.heap.size, 0, .slice py (dig 10000 (zy).natAbs).length cy), (w2.heap.size, 1, .bool (decide (zy < 0))), (w.heap.size + 1, 0, .bool b2), (w.heap.size + 1, 1, .slice pB nB cB), (w1.heap.size, 0, .slice px (dig 10000 (zx).natAbs).length cx), (w1.heap.size, 1, .bool (decide (zx < 0))), (w.heap.size, 0, .bool b1), (w.heap.size, 1, .slice pA nA cA)] [] (grown_drew _ _) S0)
      (first | (go_at_call 25; (with_reducible refine (Cmp_r cv (Dx.out.grown (by go_split_ands; assumption)) (Dy.out.grown (by go_split_ands; assumption)) k32 Ecv.out).mono ?_); rintro e w' ⟨rfl, hg⟩) | (go_at_call 24; (with_reducible refine (Cmp_i cv (VC.out.grown (by go_split_ands; assumption)) (VD.out.grown (by go_split_ands; assumption)) k32 Ecv.out).mono ?_); rintro e w' ⟨rfl, hg⟩) | (go_at_call 14; (with_reducible refine (Is_l (Dx.out.grown (by go_split_ands; assumption)) k16 n6).mono ?_); rintro e w' ⟨rfl, hg⟩; clear n6) | (go_at_call 23; (with_reducible refine (Norm_i (VC.out.grown (by go_split_ands; assumption)) k16).mono ?_); rintro e w' ⟨v, rfl, h, bd, hg⟩; have n6 := h.nor; clear h bd) | (go_at_call 14; (with_reducible refine (Is_l (DX.out.grown (by go_split_ands; assumption)) k16 n5).mono ?_); rintro e w' ⟨rfl, hg⟩; clear n5) | (go_at_call 22; (with_reducible refine (Abs_i (VC.out.grown (by go_split_ands; assumption)) k16).mono ?_); rintro e w' ⟨v, rfl, h, bd, hg⟩; rw [Etx.out] at h bd; have n5 := h.nor; clear h bd) | (go_at_call 14; (with_reducible refine (Is_l d4 k16 n4).mono ?_); rintro e w' ⟨rfl, hg⟩; clear d4 n4) | (go_at_call 21; (with_reducible refine (Neg_i (VC.out.grown (by go_split_ands; assumption)) k16).mono ?_); rintro e w' ⟨v, rfl, h, bd, hg⟩; have n4 := h.nor; clear h bd; replace d4 := d4.grown hg) | (go_at_call 20; (with_reducible refine (Neg_r (Dx.out.grown (by go_split_ands; assumption))).mono ?_); rintro e w' ⟨v, rfl, d4, hg⟩) | (go_at_call 14; (with_reducible refine (Is_l d3 k32 n3).mono ?_); rintro e w' ⟨rfl, hg⟩; clear d3 n3) | (go_at_call 19; (with_reducible refine (Mul_i (VC.out.grown (by go_split_ands; assumption)) (VD.out.grown (by go_split_ands; assumption)) k32).mono ?_); rintro e w' ⟨v, rfl, h, bd, hg⟩; have n3 := h.nor; clear h bd; replace d3 := d3.grown hg) | (go_at_call 18; (with_reducible refine (Mul_r (Dx.out.grown (by go_split_ands; assumption)) (Dy.out.grown (by go_split_ands; assumption)) k32).mono ?_); rintro e w' ⟨v, rfl, h, bd, hg⟩; have d3 := h.decI bd; clear h bd) | (go_at_call 14; (with_reducible refine (Is_l d2 k33 n2).mono ?_); rintro e w' ⟨rfl, hg⟩; clear d2 n2) | (go_at_call 17; (with_reducible refine (Sub_i (VC.out.grown (by go_split_ands; assumption)) (VD.out.grown (by go_split_ands; assumption)) k32).mono ?_); rintro e w' ⟨v, rfl, h, bd, hg⟩; have n2 := h.nor; clear h bd; replace d2 := d2.grown hg) | (go_at_call 16; (with_reducible refine (Sub_r (Dx.out.grown (by go_split_ands; assumption)) (Dy.out.grown (by go_split_ands; assumption)) k32).mono ?_); rintro e w' ⟨v, rfl, h, bd, hg⟩; have d2 := h.decI bd; clear h bd) | (go_at_call 14; (with_reducible refine (Is_l d1 k33 (NS.out.grown (by go_split_ands; assumption))).mono ?_); rintro e w' ⟨rfl, hg⟩; clear d1) | (go_at_call 15; (with_reducible refine (Add_r (Dx.out.grown (by go_split_ands; assumption)) (Dy.out.grown (by go_split_ands; assumption)) k32).mono ?_); rintro e w' ⟨v, rfl, h, bd, hg⟩; rw [Es.out] at h bd; have d1 := h.decI bd; clear h bd))
    rename_i hend
    have g := hend.2.2.2.2.2.2.2.2.2.2.2.2.2.2.2.2
    have HG := Lib.hid g
    replace VA := Lib.hid (VA.out.kp (Kp.of g))
    replace SA := Lib.hid (SA.out.kp (Kp.of g))
    replace Dx := Lib.hid (Dx.out.kp (Kp.of g))
    replace VB := Lib.hid (VB.out.kp (Kp.of g))
    replace SB := Lib.hid (SB.out.kp (Kp.of g))
    replace Dy := Lib.hid (Dy.out.kp (Kp.of g))
    replace VC := Lib.hid (VC.out.kp (Kp.of g))
    replace VD := Lib.hid (VD.out.kp (Kp.of g))
    replace NS := Lib.hid (NS.out.kp (Kp.of g))
    replace DX := Lib.hid (DX.out.kp (Kp.of g))
    replace S := S.step _ g
    clear g hend S0
    generalize w' = wr6 at *
    have g : W5.grownBy wr6 none := HG.out
    replace OS := Lib.hid (OS.out.grown g (.inl rfl))
    replace K := Lib.hid (K.out.step _ g)
    clear g
    obtain ⟨e0, e1, e2, e3, e4, e5, e6, e7, e8, e9, e10, e11, e12, e13, e14, e15, e16, e17, e18, e19, e20, e21, e22, e23, e24, e25, e26, e27, e28, e29, e30, e31, G⟩ := id S
    go_wp2_with fail
    clear e0 e1 e2 e3 e4 e5 e6 e7 e8 e9 e10 e11 e12 e13 e14 e15 e16 e17 e18 e19 e20 e21 e22 e23 e24 e25 e26 e27 e28 e29 e30 e31 G
    have OSn := OS.out
    clear DX NS VC VD Dx Dy VA VB SA SB
    refine (Spoil_any OSn).mono ?_
    rintro e w7 ⟨rfl, g⟩
    replace K := Lib.hid (Bx.start_of (grown_own g OSn K.out.all))
    clear g OSn OS S
    have S := Bx.step _ K.out.all S0w
    have szZ0 : wc.heap.size ≤ w7.heap.size := K.out.all.size
    obtain ⟨e0, e1, e2, e3, e4, e5, e6, e7, e8, e9, e10, e11, e12, e13, e14, e15, e16, e17, e18, e19, e20, e21, e22, e23, G⟩ := id S
    go_wp2_with fail
    clear e0 e1 e2 e3 e4 e5 e6 e7 e8 e9 e10 e11 e12 e13 e14 e15 e16 e17 e18 e19 e20 e21 e22 e23 G
    with_reducible refine (Norm_i (VC0.out.kp (Kp.of K.out.all)) (by omega)).mono ?_
    rintro e w8 ⟨v, rfl, h, bd, g⟩
    replace S := S.step _ g
    replace K := Lib.hid (K.out.step _ g)
    clear g
    obtain ⟨pz, cz, rfl, hzo⟩ := id h
    have OZ := Lib.hid hzo
    clear h bd hzo
    replace OZ := Lib.hid (OZ.out.grown (grown_alloc _ (.cells #[.bool (decide (zx < 0)), .slice pz (dig 4294967296 (zx).natAbs).length cz] 24) none) (.inl rfl))
    replace K := Lib.hid (K.out.step _ (grown_alloc _ (.cells #[.bool (decide (zx < 0)), .slice pz (dig 4294967296 (zx).natAbs).length cz] 24) none))
    replace S := S.box (w8.heap.size) (.bool (decide (zx < 0))) (.slice pz (dig 4294967296 (zx).natAbs).length cz) 24 (by simp)
    obtain ⟨e0, e1, e2, e3, e4, e5, e6, e7, e8, e9, e10, e11, e12, e13, e14, e15, e16, e17, e18, e19, e20, e21, e22, e23, e24, e25, e26, e27, G⟩ := id S
    go_wp2_with fail
    clear e0 e1 e2 e3 e4 e5 e6 e7 e8 e9 e10 e11 e12 e13 e14 e15 e16 e17 e18 e19 e20 e21 e22 e23 e24 e25 e26 e27 G
    have OZn := OZ.out
    refine (Spoil_any OZn).mono ?_
    rintro e w9 ⟨rfl, g⟩
    replace K := Lib.hid (Bx.start_of (grown_own g (OZn.mono szZ0) K.out.all))
    clear g OZn OZ S
    have S := Bx.step _ K.out.all S0w
    have LU := Lib.hid (L1.out.grown K.out.all (.inl rfl))
    have LV := Lib.hid (L2.out.grown K.out.all (.inl rfl))
    have SA := Lib.hid (SA0.out.grown K.out.all (.inl rfl))
    have SB := Lib.hid (SB0.out.grown K.out.all (.inl rfl))
    clear L1 L2 SA0 SB0 VC0
    obtain ⟨e0, e1, e2, e3, e4, e5, e6, e7, e8, e9, e10, e11, e12, e13, e14, e15, e16, e17, e18, e19, e20, e21, e22, e23, G⟩ := id S
    go_wp2_with fail
    clear e0 e1 e2 e3 e4 e5 e6 e7 e8 e9 e10 e11 e12 e13 e14 e15 e16 e17 e18 e19 e20 e21 e22 e23 G
    with_reducible refine (Intact_any LU.out SA.out lx6).mono ?_
    rintro e w10 ⟨rfl, g⟩
    have LV := Lib.hid (LV.out.grown g (.inl rfl))
    have SB := Lib.hid (SB.out.grown g (.inl rfl))
    replace S := S.step _ g
    clear g LU SA
    obtain ⟨e0, e1, e2, e3, e4, e5, e6, e7, e8, e9, e10, e11, e12, e13, e14, e15, e16, e17, e18, e19, e20, e21, e22, e23, G⟩ := id S
    go_wp2_with fail
    clear e0 e1 e2 e3 e4 e5 e6 e7 e8 e9 e10 e11 e12 e13 e14 e15 e16 e17 e18 e19 e20 e21 e22 e23 G
    with_reducible refine (Intact_any LV.out SB.out ly6).mono ?_
    rintro e w11 ⟨rfl, g⟩
    replace S := S.step _ g
    clear g LV SB
    obtain ⟨e0, e1, e2, e3, e4, e5, e6, e7, e8, e9, e10, e11, e12, e13, e14, e15, e16, e17, e18, e19, e20, e21, e22, e23, G⟩ := id S
    go_wp2_with fail
    clear e0 e1 e2 e3 e4 e5 e6 e7 e8 e9 e10 e11 e12 e13 e14 e15 e16 e17 e18 e19 e20 e21 e22 e23 G
    with_reducible refine (wakes_true _).mono ?_
    rintro e w12 ⟨rfl, g⟩
    replace S := S.step _ g
    clear g
    go_wp2_with fail
    go_ret
    exact ⟨rfl, S.all⟩

set_option maxRecDepth 100000 in
theorem lifted (os : Os) (started : os.Started) (H : Type) (enc : TypeId × Value → H) :
    ReturnsInHanded {} Try.checked os 3 .any (Rows.wholeSumsSpec.pre6 enc Try.prog Try.f3 Rows.wholeSumsRow.domain false) (Rows.wholeSumsSpec.post enc Try.prog Try.f3 false true false false) := by
  refine returnsInHanded_of_change (C := Try.checked) Try.own started (by kernel_rfl) Try.func3
    (ChangeSpec.witness6 (enc := enc) (C := Try.checked) false ⟨#[], #[.agg #[.bool false, .slice none 0 0], .agg #[.bool false, .slice none 0 0]], []⟩ 8 (by kernel_rfl) (by kernel_rfl) (by kernel_rfl) (by kernel_rfl)) ?_
  intro W base args ds gs before hval0 hW _ _
  have hval : ∀ (j : Nat) t v, Try.f3.params[j]? = some t → args[j]? = some v → Value.okWide Try.prog W .any base t v := hval0
  obtain ⟨p, q, hA0, hV, rfl, _, _⟩ := id hW
  have hA : DataW.TrodAll enc Try.prog W 0 (fun _ => true) true Try.f3.params.toList args.toList ds p := hA0
  rw [Try.params3] at hA hval
  obtain ⟨v0, vs0, d0, ds0, p0, q0, hargs, rfl, rfl, h0, r0⟩ := trodAll_cons hA
  obtain ⟨v1, vs1, d1, ds1, p1, q1, rfl, rfl, rfl, h1, r1⟩ := trodAll_cons r0
  obtain ⟨rfl, rfl, rfl⟩ := trodAll_nil r1
  obtain rfl : args = #[v0, v1] := by cases args; simp_all
  obtain ⟨b0, w0, xs0, rfl, s0, a0⟩ := int_of_trod h0 (hval 0 24 v0 rfl rfl)
  obtain ⟨b1, w1, xs1, rfl, s1, a1⟩ := int_of_trod h1 (hval 1 24 v1 rfl rfl)
  refine (walk s0 a0 s1 a1).mono fun e W' ⟨he, hg⟩ => ?_
  subst he
  refine ⟨_, rfl, law_post Try.laidOut rfl (by kernel_rfl) Try.underlying4 ?_ ?_ hW hg⟩
  · rw [Try.params3]; decide +kernel
  · rw [Try.params3]
    intro ds h
    match ds, h with
    | [_, _], _ => rfl

theorem holds : Rows.WholeSumsSaid :=
  OpenClaim.holds_of_wide 3 Try.f3 rfl rfl rfl rfl rfl rfl rfl ⟨rfl, rfl, rfl, rfl, rfl⟩ rfl rfl rfl rfl rfl (by kernel_rfl) Try.func3 (by kernel_rfl)
    (of_decide_eq_true (by kernel_rfl)) (by unfold Func.isWrapper; first | (rw [if_pos (by decide +kernel)]; kernel_rfl) | (rw [if_neg (by decide +kernel)]; exact ⟨rfl, rfl⟩))
    (fun os started H enc _ => lifted os started H enc)

end Go.Proofs.Ytmmmpdpgkjcohaa.sums
