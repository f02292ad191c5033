/- WholeSmalls holds: for every whole number the law returns true and leaves it as it was. No condition. -/
import Derived.Test.YtmmmpdpgkjcohaaRowInt
namespace Go.Proofs.Ytmmmpdpgkjcohaa.smalls
open Go.ChangeShapes Go.WideShapes Go.ChangeAt Go.RowKit

theorem Dec.kp {w w' : World} {v : Value} {X k : Nat} (h : Dec w v X k) (g : Kp w w') : Dec w' v X k := ⟨h.1.kp g, h.2⟩
theorem pow62 (w : World) : Calls Try.prog 35 #[.int .i64 62] w (MadeD w (2 ^ 62) 2) := PowD_n 62 2 (by omega) (by omega)
set_option maxHeartbeats 4000000 in
set_option maxRecDepth 100000 in
theorem walk {b1 : Bool} {v1 : Value} {xs : List Nat} {w : World} (hx : Sl w .u32 v1 xs) (ax : All 4294967296 xs) :
    Calls Try.prog 5 #[.agg #[.bool b1, v1]] w (Bool_ w true) := by
  obtain ⟨p1, c1, rfl, -⟩ := id hx
  have Hx := Lib.hid hx
  have Ax := Lib.hid ax
  have S : Bx w [(w.heap.size, .bool b1, .slice p1 xs.length c1)] (w.alloc (.cells #[.bool b1, .slice p1 xs.length c1] 24)) := ((Bx.start w).box (w.heap.size) (.bool b1) (.slice p1 xs.length c1) 24 (by simp))
  clear hx ax
  go_enter Try.func5, Try.ntmps5
  obtain ⟨e0, e1, e2, e3, G⟩ := id S
  go_wp2_with fail
  clear e0 e1 e2 e3 G
  refine (Of_l 4 (Hx.out.grown S.all (.inl rfl)) Ax.out (by omega)).mono ?_
  rintro e w1 ⟨pA, nA, cA, ux, rfl, hs, hd, g⟩
  replace hs := hs.grown g (.inl rfl)
  replace S := S.step _ g
  clear g
  obtain ⟨zx, hzx⟩ : ∃ z, sg b1 (val 4294967296 (xs.take 4)) = z := ⟨_, rfl⟩
  rw [hzx] at hd
  have bdx := hd.bd
  obtain ⟨px, cx, rfl, -⟩ := id hd
  have VA := Lib.hid (show IntV _ (.agg #[.bool b1, .slice pA nA cA]) zx 4 from ⟨_, _, _, rfl, Num.row hs (Ax.out.take 4) 4 (by rw [List.length_take]; omega), hzx.symm⟩)
  have Dx := Lib.hid (hd)
  clear hs hd hzx
  have z1_0 := S.lt (g := w.heap.size) (x := .bool b1) (y := .slice p1 xs.length c1) (by simp)
  obtain ⟨e0, e1, e2, e3, G⟩ := id S
  have K : Kp w1 (((w1.setCell ⟨w.heap.size, 0, none⟩ (.bool b1)).setCell ⟨w.heap.size, 1, none⟩ (.slice pA nA cA)).alloc (.cells #[.slice px (dig 10000 (zx).natAbs).length cx, .bool (decide (zx < 0))] 28)) := (S.kp (g := w.heap.size) (x := .bool b1) (y := .slice p1 xs.length c1) (.bool b1) (.slice pA nA cA) (by simp) (by simp) (by simp)).trans (Kp.of (grown_alloc _ _ _))
  have S2 : Bx w [(w.heap.size, .bool b1, .slice pA nA cA)] ((w1.setCell ⟨w.heap.size, 0, none⟩ (.bool b1)).setCell ⟨w.heap.size, 1, none⟩ (.slice pA nA cA)) := S.put (g := w.heap.size) (u := .bool b1) (v := .slice pA nA cA) (x := .bool b1) (y := .slice p1 xs.length c1) (bs' := []) (by simp) (by simp <;> omega) (by simp <;> omega) (by omega)
  replace S : Bx w [(w1.heap.size, .slice px (dig 10000 (zx).natAbs).length cx, .bool (decide (zx < 0))), (w.heap.size, .bool b1, .slice pA nA cA)] (((w1.setCell ⟨w.heap.size, 0, none⟩ (.bool b1)).setCell ⟨w.heap.size, 1, none⟩ (.slice pA nA cA)).alloc (.cells #[.slice px (dig 10000 (zx).natAbs).length cx, .bool (decide (zx < 0))] 28)) := S2.box (w1.heap.size) (.slice px (dig 10000 (zx).natAbs).length cx) (.bool (decide (zx < 0))) 28 (by simp)
  replace VA := Lib.hid (VA.out.kp K)
  replace Dx := Lib.hid (Dx.out.kp K)
  go_wp2_with fail
  clear K S2 e0 e1 e2 e3 G
  generalize (((w1.setCell ⟨w.heap.size, 0, none⟩ (.bool b1)).setCell ⟨w.heap.size, 1, none⟩ (.slice pA nA cA)).alloc (.cells #[.slice px (dig 10000 (zx).natAbs).length cx, .bool (decide (zx < 0))] 28)) = W1 at *
  obtain ⟨px', cx', ex, hx2⟩ := id Dx.out
  simp only [Value.agg.injEq, Value.slice.injEq, Array.mk.injEq, List.cons.injEq, true_and, and_true] at ex
  obtain ⟨rfl, rfl⟩ := ex
  have Ex := Lib.hid (hx2)
  clear hx2
  have p62 : (2 : Nat) ^ 62 = 4611686018427387904 := by rfl
  have k5 : 2 + 4 ≤ 1000000 := by omega
  rcases Nat.lt_or_ge zx.natAbs 4611686018427387904 with hz | hz
  · have Hz := Lib.hid hz
    clear hz
    have Hc := Lib.hid (show cmpN zx.natAbs (2 ^ 62) = -1 from cmpN_lt (by rw [p62]; exact Hz.out))
    with_reducible refine (Small_yes VA.out (by omega) Hz.out).mono ?_
    rintro e w2 ⟨rfl, g⟩
    replace VA := Lib.hid (VA.out.kp (Kp.of g))
    replace Dx := Lib.hid (Dx.out.kp (Kp.of g))
    replace Ex := Lib.hid (Dec.kp Ex.out (Kp.of g))
    replace S := S.step _ g
    clear g
    obtain ⟨e0, e1, e2, e3, e4, e5, e6, e7, G⟩ := id S
    go_wp2_with fail
    clear e0 e1 e2 e3 e4 e5 e6 e7 G
    obtain ⟨e0, e1, e2, e3, e4, e5, e6, e7, G⟩ := id S
    have S0 : Kept w2 [(w1.heap.size, 0, .slice px (dig 10000 (zx).natAbs).length cx), (w1.heap.size, 1, .bool (decide (zx < 0))), (w.heap.size, 0, .bool b1), (w.heap.size, 1, .slice pA nA cA)] [] w2 := ⟨e0, e1, e4, e5, grown_refl _ _⟩
    clear e0 e1 e2 e3 e4 e5 e6 e7 G
    go_region_held3 (fun w' => w'.cell? ⟨w1.heap.size, 0, none⟩ = some (.slice px (dig 10000 (zx).natAbs).length cx) ∧ w'.cell? ⟨w1.heap.size, 1, none⟩ = some (.bool (decide (zx < 0))) ∧ w'.cell? ⟨w.heap.size, 0, none⟩ = some (.bool b1) ∧ w'.cell? ⟨w.heap.size, 1, none⟩ = some (.slice pA nA cA) ∧ w2.grownBy w' none) (first | exact Kept.step (W := w2) [(w1.heap.size, 0, .slice px (dig 10000 (zx).natAbs).length cx), (w1.heap.size, 1, .bool (decide (zx < 0))), (w.heap.size, 0, .bool b1), (w.heap.size, 1, .slice pA nA cA)] [] (by assumption) (by assumption) | exact Kept.step (W := w2) [(w1.heap.size, 0, .slice px (dig 10000 (zx).natAbs).length cx), (w1.heap.size, 1, .bool (decide (zx < 0))), (w.heap.size, 0, .bool b1), (w.heap.size, 1, .slice pA nA cA)] [] (grown_alloc _ _ _) (by assumption) | exact Kept.step (W := w2) [(w1.heap.size, 0, .slice px (dig 10000 (zx).natAbs).length cx), (w1.heap.size, 1, .bool (decide (zx < 0))), (w.heap.size, 0, .bool b1), (w.heap.size, 1, .slice pA nA cA)] [] (grown_drew _ _) S0)
      (first | (go_at_call 34; (with_reducible refine (CmpD_n (Ex.out.grown (by go_split_ands; assumption)) d1).mono ?_); rintro e w' ⟨rfl, hg⟩; rw [Hc.out]; clear d1) | (go_at_call 35; (with_reducible refine (pow62 _).mono ?_); rintro e w' ⟨v, rfl, h, bd, hg⟩; have d1 := (show Dec w' v _ _ from ⟨h.sl, bd⟩); clear h bd))
    rename_i hend
    have g := hend.2.2.2.2
    replace VA := Lib.hid (VA.out.kp (Kp.of g))
    replace Dx := Lib.hid (Dx.out.kp (Kp.of g))
    replace Ex := Lib.hid (Dec.kp Ex.out (Kp.of g))
    replace S := S.step _ g
    clear g hend S0
    generalize w' = wr3 at *
    obtain ⟨e0, e1, e2, e3, e4, e5, e6, e7, G⟩ := id S
    go_wp2_with fail
    clear e0 e1 e2 e3 e4 e5 e6 e7 G
    have z1 : -9223372036854775808 ≤ zx := by have := Hz.out; omega
    have z2 : zx ≤ 9223372036854775807 := by have := Hz.out; omega
    have cs := Lib.hid (show cmpI zx zx = 0 by simp [cmpI])
    obtain ⟨e0, e1, e2, e3, e4, e5, e6, e7, G⟩ := id S
    have S0 : Kept wr3 [(w1.heap.size, 0, .slice px (dig 10000 (zx).natAbs).length cx), (w1.heap.size, 1, .bool (decide (zx < 0))), (w.heap.size, 0, .bool b1), (w.heap.size, 1, .slice pA nA cA)] [] wr3 := ⟨e0, e1, e4, e5, grown_refl _ _⟩
    clear e0 e1 e2 e3 e4 e5 e6 e7 G
    refine wp_region_noPanic ?_
    refine wp_region_held_drew (S := fun w' => w'.cell? ⟨w1.heap.size, 0, none⟩ = some (.slice px (dig 10000 (zx).natAbs).length cx) ∧ w'.cell? ⟨w1.heap.size, 1, none⟩ = some (.bool (decide (zx < 0))) ∧ w'.cell? ⟨w.heap.size, 0, none⟩ = some (.bool b1) ∧ w'.cell? ⟨w.heap.size, 1, none⟩ = some (.slice pA nA cA) ∧ wr3.grownBy w' none) (by kernel_rfl) (by exact Kept.step (W := wr3) [(w1.heap.size, 0, .slice px (dig 10000 (zx).natAbs).length cx), (w1.heap.size, 1, .bool (decide (zx < 0))), (w.heap.size, 0, .bool b1), (w.heap.size, 1, .slice pA nA cA)] [] (grown_drew _ _) S0) (fun hHeld => ?_)
    change wpAnyH _ _ _ _ _ 25 #[false, false, false, false, false, false, false, false, false, false, false, false, false, false, false, false, false, false, false, false, false, false, false, false, false] _ _
    refine wpAnyH_take (i := 0) (oi := _) (v := ?va3x0) rfl (by kernel_rfl) (by kernel_rfl) (by kernel_rfl) (fun _ _ _ h => h) (Or.inl ⟨by rfl, ?hya3x0⟩) (by assumption) ?resta3x0
    case hya3x0 => (intro w hSw; (try dsimp only at hSw); go_simp; try with_reducible rfl)
    try simp only [Act.put, List.getElem_toArray, List.getElem_cons_zero, List.setIfInBounds_toArray, List.set_cons_zero, List.set_cons_succ]
    refine wpAnyH_take (i := 1) (oi := _) (v := ?va3x1) rfl (by kernel_rfl) (by kernel_rfl) (by kernel_rfl) (fun _ _ _ h => h) (Or.inl ⟨by rfl, ?hya3x1⟩) (by assumption) ?resta3x1
    case hya3x1 => (intro w hSw; (try dsimp only at hSw); go_simp; try with_reducible rfl)
    try simp only [Act.put, List.getElem_toArray, List.getElem_cons_zero, List.getElem_cons_succ, List.setIfInBounds_toArray, List.set_cons_zero, List.set_cons_succ]
    refine wpAnyH_take (i := 2) (oi := _) (v := ?va3x2) rfl (by kernel_rfl) (by kernel_rfl) (by kernel_rfl) (fun _ _ _ h => h) (Or.inl ⟨by rfl, ?hya3x2⟩) (by assumption) ?resta3x2
    case hya3x2 => (intro w hSw; (try dsimp only at hSw); go_simp; try with_reducible rfl)
    try simp only [Act.put, List.getElem_toArray, List.getElem_cons_zero, List.getElem_cons_succ, List.setIfInBounds_toArray, List.set_cons_zero, List.set_cons_succ]
    refine wpAnyH_take (i := 3) (oi := _) (v := ?va3x3) rfl (by kernel_rfl) (by kernel_rfl) (by kernel_rfl) (fun _ _ _ h => h) (Or.inl ⟨by rfl, ?hya3x3⟩) (by assumption) ?resta3x3
    case hya3x3 => (intro w hSw; (try dsimp only at hSw); go_simp; try with_reducible rfl)
    try simp only [Act.put, List.getElem_toArray, List.getElem_cons_zero, List.getElem_cons_succ, List.setIfInBounds_toArray, List.set_cons_zero, List.set_cons_succ]
    refine wpAnyH_take (i := 4) (oi := _) (v := ?va3x4) rfl (by kernel_rfl) (by kernel_rfl) (by kernel_rfl) (fun _ _ _ h => h) (Or.inl ⟨by rfl, ?hya3x4⟩) (by assumption) ?resta3x4
    case hya3x4 => (intro w hSw; (try dsimp only at hSw); go_simp; try with_reducible rfl)
    try simp only [Act.put, List.getElem_toArray, List.getElem_cons_zero, List.getElem_cons_succ, List.setIfInBounds_toArray, List.set_cons_zero, List.set_cons_succ]
    refine wpAnyH_take (i := 5) (oi := _) (v := ?va3x5) rfl (by kernel_rfl) (by kernel_rfl) (by kernel_rfl) (fun _ _ _ h => h) (Or.inl ⟨by rfl, ?hya3x5⟩) (by assumption) ?resta3x5
    case hya3x5 => (intro w hSw; (try dsimp only at hSw); go_simp; try with_reducible rfl)
    try simp only [Act.put, List.getElem_toArray, List.getElem_cons_zero, List.getElem_cons_succ, List.setIfInBounds_toArray, List.set_cons_zero, List.set_cons_succ]
    refine wpAnyH_take (i := 6) (oi := _) (v := ?va3x6) rfl (by kernel_rfl) (by kernel_rfl) (by kernel_rfl) (fun _ _ _ h => h) (Or.inl ⟨by rfl, ?hya3x6⟩) (by assumption) ?resta3x6
    case hya3x6 => (intro w hSw; (try dsimp only at hSw); go_simp; try with_reducible rfl)
    try simp only [Act.put, List.getElem_toArray, List.getElem_cons_zero, List.getElem_cons_succ, List.setIfInBounds_toArray, List.set_cons_zero, List.set_cons_succ]
    refine wpAnyH_take (i := 7) (oi := _) (v := undef) rfl (by kernel_rfl) (by kernel_rfl) (by kernel_rfl) (fun _ _ _ h => h) (Or.inr ⟨by rfl, rfl⟩) (by assumption) ?_
    try simp only [Act.put, List.getElem_toArray, List.getElem_cons_zero, List.getElem_cons_succ, List.setIfInBounds_toArray, List.set_cons_zero, List.set_cons_succ]
    refine wpAnyH_take (i := 8) (oi := _) (v := undef) rfl (by kernel_rfl) (by kernel_rfl) (by kernel_rfl) (fun _ _ _ h => h) (Or.inr ⟨by rfl, rfl⟩) (by assumption) ?_
    try simp only [Act.put, List.getElem_toArray, List.getElem_cons_zero, List.getElem_cons_succ, List.setIfInBounds_toArray, List.set_cons_zero, List.set_cons_succ]
    refine wpAnyH_take (i := 9) (oi := _) (v := ?va3x9) rfl (by kernel_rfl) (by kernel_rfl) (by kernel_rfl) (fun _ _ _ h => h) (Or.inl ⟨by rfl, ?hya3x9⟩) (by assumption) ?resta3x9
    case hya3x9 => (intro w hSw; (try dsimp only at hSw); go_simp; try with_reducible rfl)
    try simp only [Act.put, List.getElem_toArray, List.getElem_cons_zero, List.getElem_cons_succ, List.setIfInBounds_toArray, List.set_cons_zero, List.set_cons_succ]
    refine wpAnyH_take (i := 10) (oi := _) (v := ?va3x10) rfl (by kernel_rfl) (by kernel_rfl) (by kernel_rfl) (fun _ _ _ h => h) (Or.inl ⟨by rfl, ?hya3x10⟩) (by assumption) ?resta3x10
    case hya3x10 => (intro w hSw; (try dsimp only at hSw); go_simp; try with_reducible rfl)
    try simp only [Act.put, List.getElem_toArray, List.getElem_cons_zero, List.getElem_cons_succ, List.setIfInBounds_toArray, List.set_cons_zero, List.set_cons_succ]
    refine wpAnyH_take (i := 11) (oi := _) (v := ?va3x11) rfl (by kernel_rfl) (by kernel_rfl) (by kernel_rfl) (fun _ _ _ h => h) (Or.inl ⟨by rfl, ?hya3x11⟩) (by assumption) ?resta3x11
    case hya3x11 => (intro w hSw; (try dsimp only at hSw); go_simp; try with_reducible rfl)
    try simp only [Act.put, List.getElem_toArray, List.getElem_cons_zero, List.getElem_cons_succ, List.setIfInBounds_toArray, List.set_cons_zero, List.set_cons_succ]
    refine wpAnyH_take (i := 12) (oi := _) (v := ?va3x12) rfl (by kernel_rfl) (by kernel_rfl) (by kernel_rfl) (fun _ _ _ h => h) (Or.inl ⟨by rfl, ?hya3x12⟩) (by assumption) ?resta3x12
    case hya3x12 => (intro w hSw; (try dsimp only at hSw); go_simp; try with_reducible rfl)
    try simp only [Act.put, List.getElem_toArray, List.getElem_cons_zero, List.getElem_cons_succ, List.setIfInBounds_toArray, List.set_cons_zero, List.set_cons_succ]
    refine wpAnyH_take (i := 13) (oi := _) (v := ?va3x13) rfl (by kernel_rfl) (by kernel_rfl) (by kernel_rfl) (fun _ _ _ h => h) (Or.inl ⟨by rfl, ?hya3x13⟩) (by assumption) ?resta3x13
    case hya3x13 => (intro w hSw; (try dsimp only at hSw); go_simp; try with_reducible rfl)
    try simp only [Act.put, List.getElem_toArray, List.getElem_cons_zero, List.getElem_cons_succ, List.setIfInBounds_toArray, List.set_cons_zero, List.set_cons_succ]
    refine wpAnyH_take (i := 15) (oi := _) (v := ?va3x14) rfl (by kernel_rfl) (by kernel_rfl) (by kernel_rfl) (fun _ _ _ h => h) (Or.inl ⟨by rfl, ?hya3x14⟩) (by assumption) ?resta3x14
    case hya3x14 => (intro w hSw; (try dsimp only at hSw); go_simp; try with_reducible rfl)
    try simp only [Act.put, List.getElem_toArray, List.getElem_cons_zero, List.getElem_cons_succ, List.setIfInBounds_toArray, List.set_cons_zero, List.set_cons_succ]
    refine wpAnyH_ready (rs := [14]) (by kernel_rfl) (by simp) ?_
    refine AllReadyH.cons (o := _) rfl (fun K hK => ?_) AllReadyH.nil
    go_simp
    (go_at_call 29; (with_reducible refine (Of_r zx _ z1 z2).mono ?_); rintro e w' ⟨v, rfl, h, bd, hg⟩; have d1 := h.decI bd; clear h bd)
    go_wp2_with fail
    refine hK.out _ _ ?hSa3x15 (fun hHeld => ?_)
    case hSa3x15 => exact Kept.step (W := wr3) [(w1.heap.size, 0, .slice px (dig 10000 (zx).natAbs).length cx), (w1.heap.size, 1, .bool (decide (zx < 0))), (w.heap.size, 0, .bool b1), (w.heap.size, 1, .slice pA nA cA)] [] (by assumption) (by assumption)
    clear hK K
    try simp only [List.setIfInBounds_toArray, List.set_cons_zero, List.set_cons_succ]
    refine wpAnyH_ready (rs := [16]) (by kernel_rfl) (by simp) ?_
    refine AllReadyH.cons (o := _) rfl (fun K hK => ?_) AllReadyH.nil
    go_simp
    (go_at_call 25; (with_reducible refine (Cmp_r 0 d1 (Dx.out.grown (by go_split_ands; assumption)) k5 cs.out).mono ?_); rintro e w' ⟨rfl, hg⟩; clear d1)
    go_wp2_with fail
    refine hK.out _ _ ?hSa3x16 (fun hHeld => ?_)
    case hSa3x16 => exact Kept.step (W := wr3) [(w1.heap.size, 0, .slice px (dig 10000 (zx).natAbs).length cx), (w1.heap.size, 1, .bool (decide (zx < 0))), (w.heap.size, 0, .bool b1), (w.heap.size, 1, .slice pA nA cA)] [] (by assumption) (by assumption)
    clear hK K
    try simp only [List.setIfInBounds_toArray, List.set_cons_zero, List.set_cons_succ]
    refine wpAnyH_take (i := 17) (oi := _) (v := ?va3x17) rfl (by kernel_rfl) (by kernel_rfl) (by kernel_rfl) (fun _ _ _ h => h) (Or.inl ⟨by rfl, ?hya3x17⟩) (by assumption) ?resta3x17
    case hya3x17 => (intro w hSw; (try dsimp only at hSw); go_simp; try with_reducible rfl)
    try simp only [Act.put, List.getElem_toArray, List.getElem_cons_zero, List.getElem_cons_succ, List.setIfInBounds_toArray, List.set_cons_zero, List.set_cons_succ]
    refine wpAnyH_take (i := 18) (oi := _) (v := ?va3x18) rfl (by kernel_rfl) (by kernel_rfl) (by kernel_rfl) (fun _ _ _ h => h) (Or.inl ⟨by rfl, ?hya3x18⟩) (by assumption) ?resta3x18
    case hya3x18 => (intro w hSw; (try dsimp only at hSw); go_simp; try with_reducible rfl)
    try simp only [Act.put, List.getElem_toArray, List.getElem_cons_zero, List.getElem_cons_succ, List.setIfInBounds_toArray, List.set_cons_zero, List.set_cons_succ]
    refine wpAnyH_take (i := 19) (oi := _) (v := ?va3x19) rfl (by kernel_rfl) (by kernel_rfl) (by kernel_rfl) (fun _ _ _ h => h) (Or.inl ⟨by rfl, ?hya3x19⟩) (by assumption) ?resta3x19
    case hya3x19 => (intro w hSw; (try dsimp only at hSw); go_simp; try with_reducible rfl)
    try simp only [Act.put, List.getElem_toArray, List.getElem_cons_zero, List.getElem_cons_succ, List.setIfInBounds_toArray, List.set_cons_zero, List.set_cons_succ]
    refine wpAnyH_take (i := 20) (oi := _) (v := ?va3x20) rfl (by kernel_rfl) (by kernel_rfl) (by kernel_rfl) (fun _ _ _ h => h) (Or.inl ⟨by rfl, ?hya3x20⟩) (by assumption) ?resta3x20
    case hya3x20 => (intro w hSw; (try dsimp only at hSw); go_simp; try with_reducible rfl)
    try simp only [Act.put, List.getElem_toArray, List.getElem_cons_zero, List.getElem_cons_succ, List.setIfInBounds_toArray, List.set_cons_zero, List.set_cons_succ]
    refine wpAnyH_take (i := 21) (oi := _) (v := ?va3x21) rfl (by kernel_rfl) (by kernel_rfl) (by kernel_rfl) (fun _ _ _ h => h) (Or.inl ⟨by rfl, ?hya3x21⟩) (by assumption) ?resta3x21
    case hya3x21 => (intro w hSw; (try dsimp only at hSw); go_simp; try with_reducible rfl)
    try simp only [Act.put, List.getElem_toArray, List.getElem_cons_zero, List.getElem_cons_succ, List.setIfInBounds_toArray, List.set_cons_zero, List.set_cons_succ]
    refine wpAnyH_ready (rs := [22]) (by kernel_rfl) (by simp) ?_
    refine AllReadyH.cons (o := _) rfl (fun K hK => ?_) AllReadyH.nil
    go_simp
    (go_at_call 28; (with_reducible refine (wakes_true _).mono ?_); rintro e w' ⟨rfl, hg⟩)
    go_wp2_with fail
    refine hK.out _ _ ?hSa3x22 (fun hHeld => ?_)
    case hSa3x22 => exact Kept.step (W := wr3) [(w1.heap.size, 0, .slice px (dig 10000 (zx).natAbs).length cx), (w1.heap.size, 1, .bool (decide (zx < 0))), (w.heap.size, 0, .bool b1), (w.heap.size, 1, .slice pA nA cA)] [] (by assumption) (by assumption)
    clear hK K
    try simp only [List.setIfInBounds_toArray, List.set_cons_zero, List.set_cons_succ]
    refine wpAnyH_take (i := 23) (oi := _) (v := ?va3x23) rfl (by kernel_rfl) (by kernel_rfl) (by kernel_rfl) (fun _ _ _ h => h) (Or.inl ⟨by rfl, ?hya3x23⟩) (by assumption) ?resta3x23
    case hya3x23 => (intro w hSw; (try dsimp only at hSw); go_simp; try with_reducible rfl)
    try simp only [Act.put, List.getElem_toArray, List.getElem_cons_zero, List.getElem_cons_succ, List.setIfInBounds_toArray, List.set_cons_zero, List.set_cons_succ]
    refine wpAnyH_take (i := 24) (oi := _) (v := ?va3x24) rfl (by kernel_rfl) (by kernel_rfl) (by kernel_rfl) (fun _ _ _ h => h) (Or.inl ⟨by rfl, ?hya3x24⟩) (by assumption) ?resta3x24
    case hya3x24 => (intro w hSw; (try dsimp only at hSw); go_simp; try with_reducible rfl)
    try simp only [Act.put, List.getElem_toArray, List.getElem_cons_zero, List.getElem_cons_succ, List.setIfInBounds_toArray, List.set_cons_zero, List.set_cons_succ]
    refine wpAnyH_done (by kernel_rfl) ?_ _
    refine NoPanic.normal ?_
    have g := hHeld.2.2.2.2
    replace VA := Lib.hid (VA.out.kp (Kp.of g))
    replace Dx := Lib.hid (Dx.out.kp (Kp.of g))
    replace Ex := Lib.hid (Dec.kp Ex.out (Kp.of g))
    replace S := S.step _ g
    clear g hHeld S0
    generalize w' = wr4 at *
    go_wp2_with fail
    go_ret
    exact ⟨rfl, S.all⟩
  · have Hz := Lib.hid hz
    clear hz
    obtain ⟨r, hr⟩ : ∃ r, cmpN zx.natAbs (2 ^ 62) = r := ⟨_, rfl⟩
    have r0 : 0 ≤ r := by rw [← hr]; exact cmpN_ge (by rw [p62]; exact Hz.out)
    have Hc := Lib.hid hr
    have rl : (decide (r < 0)) = false := decide_eq_false (by omega)
    clear hr
    with_reducible refine (Small_no VA.out (by omega) Hz.out).mono ?_
    rintro e w2 ⟨rfl, g⟩
    replace VA := Lib.hid (VA.out.kp (Kp.of g))
    replace Dx := Lib.hid (Dx.out.kp (Kp.of g))
    replace Ex := Lib.hid (Dec.kp Ex.out (Kp.of g))
    replace S := S.step _ g
    clear g
    obtain ⟨e0, e1, e2, e3, e4, e5, e6, e7, G⟩ := id S
    go_wp2_with fail
    clear e0 e1 e2 e3 e4 e5 e6 e7 G
    obtain ⟨e0, e1, e2, e3, e4, e5, e6, e7, G⟩ := id S
    have S0 : Kept w2 [(w1.heap.size, 0, .slice px (dig 10000 (zx).natAbs).length cx), (w1.heap.size, 1, .bool (decide (zx < 0))), (w.heap.size, 0, .bool b1), (w.heap.size, 1, .slice pA nA cA)] [] w2 := ⟨e0, e1, e4, e5, grown_refl _ _⟩
    clear e0 e1 e2 e3 e4 e5 e6 e7 G
    go_region_held3 (fun w' => w'.cell? ⟨w1.heap.size, 0, none⟩ = some (.slice px (dig 10000 (zx).natAbs).length cx) ∧ w'.cell? ⟨w1.heap.size, 1, none⟩ = some (.bool (decide (zx < 0))) ∧ w'.cell? ⟨w.heap.size, 0, none⟩ = some (.bool b1) ∧ w'.cell? ⟨w.heap.size, 1, none⟩ = some (.slice pA nA cA) ∧ w2.grownBy w' none) (first | exact Kept.step (W := w2) [(w1.heap.size, 0, .slice px (dig 10000 (zx).natAbs).length cx), (w1.heap.size, 1, .bool (decide (zx < 0))), (w.heap.size, 0, .bool b1), (w.heap.size, 1, .slice pA nA cA)] [] (by assumption) (by assumption) | exact Kept.step (W := w2) [(w1.heap.size, 0, .slice px (dig 10000 (zx).natAbs).length cx), (w1.heap.size, 1, .bool (decide (zx < 0))), (w.heap.size, 0, .bool b1), (w.heap.size, 1, .slice pA nA cA)] [] (grown_alloc _ _ _) (by assumption) | exact Kept.step (W := w2) [(w1.heap.size, 0, .slice px (dig 10000 (zx).natAbs).length cx), (w1.heap.size, 1, .bool (decide (zx < 0))), (w.heap.size, 0, .bool b1), (w.heap.size, 1, .slice pA nA cA)] [] (grown_drew _ _) S0)
      (first | (go_at_call 34; (with_reducible refine (CmpD_n (Ex.out.grown (by go_split_ands; assumption)) d1).mono ?_); rintro e w' ⟨rfl, hg⟩; rw [Hc.out]; clear d1) | (go_at_call 35; (with_reducible refine (pow62 _).mono ?_); rintro e w' ⟨v, rfl, h, bd, hg⟩; have d1 := (show Dec w' v _ _ from ⟨h.sl, bd⟩); clear h bd))
    rename_i hend
    have g := hend.2.2.2.2
    replace VA := Lib.hid (VA.out.kp (Kp.of g))
    replace Dx := Lib.hid (Dx.out.kp (Kp.of g))
    replace Ex := Lib.hid (Dec.kp Ex.out (Kp.of g))
    replace S := S.step _ g
    clear g hend S0
    generalize w' = wr3 at *
    obtain ⟨e0, e1, e2, e3, e4, e5, e6, e7, G⟩ := id S
    go_wp2_with fail
    clear e0 e1 e2 e3 e4 e5 e6 e7 G
    obtain ⟨e0, e1, e2, e3, e4, e5, e6, e7, G⟩ := id S
    have S0 : Kept wr3 [(w1.heap.size, 0, .slice px (dig 10000 (zx).natAbs).length cx), (w1.heap.size, 1, .bool (decide (zx < 0))), (w.heap.size, 0, .bool b1), (w.heap.size, 1, .slice pA nA cA)] [] wr3 := ⟨e0, e1, e4, e5, grown_refl _ _⟩
    clear e0 e1 e2 e3 e4 e5 e6 e7 G
    refine wp_region_noPanic ?_
    refine wp_region_held_drew (S := fun w' => w'.cell? ⟨w1.heap.size, 0, none⟩ = some (.slice px (dig 10000 (zx).natAbs).length cx) ∧ w'.cell? ⟨w1.heap.size, 1, none⟩ = some (.bool (decide (zx < 0))) ∧ w'.cell? ⟨w.heap.size, 0, none⟩ = some (.bool b1) ∧ w'.cell? ⟨w.heap.size, 1, none⟩ = some (.slice pA nA cA) ∧ wr3.grownBy w' none) (by kernel_rfl) (by exact Kept.step (W := wr3) [(w1.heap.size, 0, .slice px (dig 10000 (zx).natAbs).length cx), (w1.heap.size, 1, .bool (decide (zx < 0))), (w.heap.size, 0, .bool b1), (w.heap.size, 1, .slice pA nA cA)] [] (grown_drew _ _) S0) (fun hHeld => ?_)
    change wpAnyH _ _ _ _ _ 25 #[false, false, false, false, false, false, false, false, false, false, false, false, false, false, false, false, false, false, false, false, false, false, false, false, false] _ _
    refine wpAnyH_take (i := 0) (oi := _) (v := ?vb3x0) rfl (by kernel_rfl) (by kernel_rfl) (by kernel_rfl) (fun _ _ _ h => h) (Or.inl ⟨by rfl, ?hyb3x0⟩) (by assumption) ?restb3x0
    case hyb3x0 => (intro w hSw; (try dsimp only at hSw); go_simp; try with_reducible rfl)
    try simp only [Act.put, List.getElem_toArray, List.getElem_cons_zero, List.setIfInBounds_toArray, List.set_cons_zero, List.set_cons_succ]
    refine wpAnyH_take (i := 1) (oi := _) (v := ?vb3x1) rfl (by kernel_rfl) (by kernel_rfl) (by kernel_rfl) (fun _ _ _ h => h) (Or.inl ⟨by rfl, ?hyb3x1⟩) (by assumption) ?restb3x1
    case hyb3x1 => (intro w hSw; (try dsimp only at hSw); go_simp; try with_reducible rfl)
    try simp only [Act.put, List.getElem_toArray, List.getElem_cons_zero, List.getElem_cons_succ, List.setIfInBounds_toArray, List.set_cons_zero, List.set_cons_succ]
    refine wpAnyH_take (i := 2) (oi := _) (v := ?vb3x2) rfl (by kernel_rfl) (by kernel_rfl) (by kernel_rfl) (fun _ _ _ h => h) (Or.inl ⟨by rfl, ?hyb3x2⟩) (by assumption) ?restb3x2
    case hyb3x2 => (intro w hSw; (try dsimp only at hSw); go_simp; try with_reducible rfl)
    try simp only [Act.put, List.getElem_toArray, List.getElem_cons_zero, List.getElem_cons_succ, List.setIfInBounds_toArray, List.set_cons_zero, List.set_cons_succ]
    refine wpAnyH_take (i := 3) (oi := _) (v := ?vb3x3) rfl (by kernel_rfl) (by kernel_rfl) (by kernel_rfl) (fun _ _ _ h => h) (Or.inl ⟨by rfl, ?hyb3x3⟩) (by assumption) ?restb3x3
    case hyb3x3 => (intro w hSw; (try dsimp only at hSw); go_simp; try with_reducible rfl)
    try simp only [Act.put, List.getElem_toArray, List.getElem_cons_zero, List.getElem_cons_succ, List.setIfInBounds_toArray, List.set_cons_zero, List.set_cons_succ]
    refine wpAnyH_take (i := 4) (oi := _) (v := ?vb3x4) rfl (by kernel_rfl) (by kernel_rfl) (by kernel_rfl) (fun _ _ _ h => h) (Or.inl ⟨by rfl, ?hyb3x4⟩) (by assumption) ?restb3x4
    case hyb3x4 => (intro w hSw; (try dsimp only at hSw); go_simp; try with_reducible rfl)
    try simp only [Act.put, List.getElem_toArray, List.getElem_cons_zero, List.getElem_cons_succ, List.setIfInBounds_toArray, List.set_cons_zero, List.set_cons_succ]
    refine wpAnyH_take (i := 5) (oi := _) (v := ?vb3x5) rfl (by kernel_rfl) (by kernel_rfl) (by kernel_rfl) (fun _ _ _ h => h) (Or.inl ⟨by rfl, ?hyb3x5⟩) (by assumption) ?restb3x5
    case hyb3x5 => (intro w hSw; (try dsimp only at hSw); go_simp; try with_reducible rfl)
    try simp only [Act.put, List.getElem_toArray, List.getElem_cons_zero, List.getElem_cons_succ, List.setIfInBounds_toArray, List.set_cons_zero, List.set_cons_succ]
    refine wpAnyH_take (i := 6) (oi := _) (v := ?vb3x6) rfl (by kernel_rfl) (by kernel_rfl) (by kernel_rfl) (fun _ _ _ h => h) (Or.inl ⟨by rfl, ?hyb3x6⟩) (by assumption) ?restb3x6
    case hyb3x6 => (intro w hSw; (try dsimp only at hSw); go_simp; try with_reducible rfl)
    try simp only [Act.put, List.getElem_toArray, List.getElem_cons_zero, List.getElem_cons_succ, List.setIfInBounds_toArray, List.set_cons_zero, List.set_cons_succ]
    refine wpAnyH_take (i := 7) (oi := _) (v := ?vb3x7) rfl (by kernel_rfl) (by kernel_rfl) (by kernel_rfl) (fun _ _ _ h => h) (Or.inl ⟨by rfl, ?hyb3x7⟩) (by assumption) ?restb3x7
    case hyb3x7 => (intro w hSw; (try dsimp only at hSw); go_simp; try with_reducible rfl)
    try simp only [Act.put, List.getElem_toArray, List.getElem_cons_zero, List.getElem_cons_succ, List.setIfInBounds_toArray, List.set_cons_zero, List.set_cons_succ]
    refine wpAnyH_take (i := 8) (oi := _) (v := ?vb3x8) rfl (by kernel_rfl) (by kernel_rfl) (by kernel_rfl) (fun _ _ _ h => h) (Or.inl ⟨by rfl, ?hyb3x8⟩) (by assumption) ?restb3x8
    case hyb3x8 => (intro w hSw; (try dsimp only at hSw); go_simp; try with_reducible rfl)
    try simp only [Act.put, List.getElem_toArray, List.getElem_cons_zero, List.getElem_cons_succ, List.setIfInBounds_toArray, List.set_cons_zero, List.set_cons_succ]
    refine wpAnyH_take (i := 9) (oi := _) (v := ?vb3x9) rfl (by kernel_rfl) (by kernel_rfl) (by kernel_rfl) (fun _ _ _ h => h) (Or.inl ⟨by rfl, ?hyb3x9⟩) (by assumption) ?restb3x9
    case hyb3x9 => (intro w hSw; (try dsimp only at hSw); go_simp; try with_reducible rfl)
    try simp only [Act.put, List.getElem_toArray, List.getElem_cons_zero, List.getElem_cons_succ, List.setIfInBounds_toArray, List.set_cons_zero, List.set_cons_succ]
    refine wpAnyH_take (i := 10) (oi := _) (v := ?vb3x10) rfl (by kernel_rfl) (by kernel_rfl) (by kernel_rfl) (fun _ _ _ h => h) (Or.inl ⟨by rfl, ?hyb3x10⟩) (by assumption) ?restb3x10
    case hyb3x10 => (intro w hSw; (try dsimp only at hSw); go_simp; try with_reducible rfl)
    try simp only [Act.put, List.getElem_toArray, List.getElem_cons_zero, List.getElem_cons_succ, List.setIfInBounds_toArray, List.set_cons_zero, List.set_cons_succ]
    refine wpAnyH_take (i := 11) (oi := _) (v := undef) rfl (by kernel_rfl) (by kernel_rfl) (by kernel_rfl) (fun _ _ _ h => h) (Or.inr ⟨by rfl, rfl⟩) (by assumption) ?_
    try simp only [Act.put, List.getElem_toArray, List.getElem_cons_zero, List.getElem_cons_succ, List.setIfInBounds_toArray, List.set_cons_zero, List.set_cons_succ]
    refine wpAnyH_take (i := 12) (oi := _) (v := undef) rfl (by kernel_rfl) (by kernel_rfl) (by kernel_rfl) (fun _ _ _ h => h) (Or.inr ⟨by rfl, rfl⟩) (by assumption) ?_
    try simp only [Act.put, List.getElem_toArray, List.getElem_cons_zero, List.getElem_cons_succ, List.setIfInBounds_toArray, List.set_cons_zero, List.set_cons_succ]
    refine wpAnyH_take (i := 13) (oi := _) (v := undef) rfl (by kernel_rfl) (by kernel_rfl) (by kernel_rfl) (fun _ _ _ h => h) (Or.inr ⟨by rfl, rfl⟩) (by assumption) ?_
    try simp only [Act.put, List.getElem_toArray, List.getElem_cons_zero, List.getElem_cons_succ, List.setIfInBounds_toArray, List.set_cons_zero, List.set_cons_succ]
    refine wpAnyH_take (i := 14) (oi := _) (v := undef) rfl (by kernel_rfl) (by kernel_rfl) (by kernel_rfl) (fun _ _ _ h => h) (Or.inr ⟨by rfl, rfl⟩) (by assumption) ?_
    try simp only [Act.put, List.getElem_toArray, List.getElem_cons_zero, List.getElem_cons_succ, List.setIfInBounds_toArray, List.set_cons_zero, List.set_cons_succ]
    refine wpAnyH_take (i := 15) (oi := _) (v := undef) rfl (by kernel_rfl) (by kernel_rfl) (by kernel_rfl) (fun _ _ _ h => h) (Or.inr ⟨by rfl, rfl⟩) (by assumption) ?_
    try simp only [Act.put, List.getElem_toArray, List.getElem_cons_zero, List.getElem_cons_succ, List.setIfInBounds_toArray, List.set_cons_zero, List.set_cons_succ]
    refine wpAnyH_take (i := 16) (oi := _) (v := undef) rfl (by kernel_rfl) (by kernel_rfl) (by kernel_rfl) (fun _ _ _ h => h) (Or.inr ⟨by rfl, rfl⟩) (by assumption) ?_
    try simp only [Act.put, List.getElem_toArray, List.getElem_cons_zero, List.getElem_cons_succ, List.setIfInBounds_toArray, List.set_cons_zero, List.set_cons_succ]
    refine wpAnyH_take (i := 17) (oi := _) (v := undef) rfl (by kernel_rfl) (by kernel_rfl) (by kernel_rfl) (fun _ _ _ h => h) (Or.inr ⟨by rfl, rfl⟩) (by assumption) ?_
    try simp only [Act.put, List.getElem_toArray, List.getElem_cons_zero, List.getElem_cons_succ, List.setIfInBounds_toArray, List.set_cons_zero, List.set_cons_succ]
    refine wpAnyH_take (i := 18) (oi := _) (v := undef) rfl (by kernel_rfl) (by kernel_rfl) (by kernel_rfl) (fun _ _ _ h => h) (Or.inr ⟨by rfl, rfl⟩) (by assumption) ?_
    try simp only [Act.put, List.getElem_toArray, List.getElem_cons_zero, List.getElem_cons_succ, List.setIfInBounds_toArray, List.set_cons_zero, List.set_cons_succ]
    refine wpAnyH_take (i := 19) (oi := _) (v := ?vb3x19) rfl (by kernel_rfl) (by kernel_rfl) (by kernel_rfl) (fun _ _ _ h => h) (Or.inl ⟨by rfl, ?hyb3x19⟩) (by assumption) ?restb3x19
    case hyb3x19 => (intro w hSw; (try dsimp only at hSw); go_simp; try with_reducible rfl)
    try simp only [Act.put, List.getElem_toArray, List.getElem_cons_zero, List.getElem_cons_succ, List.setIfInBounds_toArray, List.set_cons_zero, List.set_cons_succ]
    refine wpAnyH_take (i := 20) (oi := _) (v := ?vb3x20) rfl (by kernel_rfl) (by kernel_rfl) (by kernel_rfl) (fun _ _ _ h => h) (Or.inl ⟨by rfl, ?hyb3x20⟩) (by assumption) ?restb3x20
    case hyb3x20 => (intro w hSw; (try dsimp only at hSw); go_simp; try with_reducible rfl)
    try simp only [Act.put, List.getElem_toArray, List.getElem_cons_zero, List.getElem_cons_succ, List.setIfInBounds_toArray, List.set_cons_zero, List.set_cons_succ]
    refine wpAnyH_take (i := 21) (oi := _) (v := ?vb3x21) rfl (by kernel_rfl) (by kernel_rfl) (by kernel_rfl) (fun _ _ _ h => h) (Or.inl ⟨by rfl, ?hyb3x21⟩) (by assumption) ?restb3x21
    case hyb3x21 => (intro w hSw; (try dsimp only at hSw); go_simp; try with_reducible rfl)
    try simp only [Act.put, List.getElem_toArray, List.getElem_cons_zero, List.getElem_cons_succ, List.setIfInBounds_toArray, List.set_cons_zero, List.set_cons_succ]
    refine wpAnyH_ready (rs := [22]) (by kernel_rfl) (by simp) ?_
    refine AllReadyH.cons (o := _) rfl (fun K hK => ?_) AllReadyH.nil
    go_simp
    (go_at_call 28; (with_reducible refine (wakes_true _).mono ?_); rintro e w' ⟨rfl, hg⟩)
    go_wp2_with fail
    refine hK.out _ _ ?hSb3x22 (fun hHeld => ?_)
    case hSb3x22 => exact Kept.step (W := wr3) [(w1.heap.size, 0, .slice px (dig 10000 (zx).natAbs).length cx), (w1.heap.size, 1, .bool (decide (zx < 0))), (w.heap.size, 0, .bool b1), (w.heap.size, 1, .slice pA nA cA)] [] (by assumption) (by assumption)
    clear hK K
    try simp only [List.setIfInBounds_toArray, List.set_cons_zero, List.set_cons_succ]
    refine wpAnyH_take (i := 23) (oi := _) (v := ?vb3x23) rfl (by kernel_rfl) (by kernel_rfl) (by kernel_rfl) (fun _ _ _ h => h) (Or.inl ⟨by rfl, ?hyb3x23⟩) (by assumption) ?restb3x23
    case hyb3x23 => (intro w hSw; (try dsimp only at hSw); go_simp; try with_reducible rfl)
    try simp only [Act.put, List.getElem_toArray, List.getElem_cons_zero, List.getElem_cons_succ, List.setIfInBounds_toArray, List.set_cons_zero, List.set_cons_succ]
    refine wpAnyH_take (i := 24) (oi := _) (v := ?vb3x24) rfl (by kernel_rfl) (by kernel_rfl) (by kernel_rfl) (fun _ _ _ h => h) (Or.inl ⟨by rfl, ?hyb3x24⟩) (by assumption) ?restb3x24
    case hyb3x24 => (intro w hSw; (try dsimp only at hSw); go_simp; try with_reducible rfl)
    try simp only [Act.put, List.getElem_toArray, List.getElem_cons_zero, List.getElem_cons_succ, List.setIfInBounds_toArray, List.set_cons_zero, List.set_cons_succ]
    refine wpAnyH_done (by kernel_rfl) ?_ _
    refine NoPanic.normal ?_
    have g := hHeld.2.2.2.2
    replace VA := Lib.hid (VA.out.kp (Kp.of g))
    replace Dx := Lib.hid (Dx.out.kp (Kp.of g))
    replace Ex := Lib.hid (Dec.kp Ex.out (Kp.of g))
    replace S := S.step _ g
    clear g hHeld S0
    generalize w' = wr4 at *
    go_wp2_with fail
    go_ret
    exact ⟨rfl, S.all⟩

set_option maxRecDepth 100000 in
theorem lifted (os : Os) (started : os.Started) (H : Type) (enc : TypeId × Value → H) :
    ReturnsInHanded {} Try.checked os 5 .any (Rows.wholeSmallsSpec.pre6 enc Try.prog Try.f5 Rows.wholeSmallsRow.domain false) (Rows.wholeSmallsSpec.post enc Try.prog Try.f5 false true false false) := by
  refine returnsInHanded_of_change (C := Try.checked) Try.own started (by kernel_rfl) Try.func5
    (ChangeSpec.witness6 (enc := enc) (C := Try.checked) false ⟨#[], #[.agg #[.bool false, .slice none 0 0]], []⟩ 8 (by kernel_rfl) (by kernel_rfl) (by kernel_rfl) (by kernel_rfl)) ?_
  intro W base args ds gs before hval0 hW _ _
  have hval : ∀ (j : Nat) t v, Try.f5.params[j]? = some t → args[j]? = some v → Value.okWide Try.prog W .any base t v := hval0
  obtain ⟨p, q, hA0, hV, rfl, _, _⟩ := id hW
  have hA : DataW.TrodAll enc Try.prog W 0 (fun _ => true) true Try.f5.params.toList args.toList ds p := hA0
  rw [Try.params5] at hA hval
  obtain ⟨v0, vs0, d0, ds0, p0, q0, hargs, rfl, rfl, h0, r0⟩ := trodAll_cons hA
  obtain ⟨rfl, rfl, rfl⟩ := trodAll_nil r0
  obtain rfl : args = #[v0] := by cases args; simp_all
  obtain ⟨b0, w0, xs0, rfl, s0, a0⟩ := int_of_trod h0 (hval 0 24 v0 rfl rfl)
  refine (walk s0 a0).mono fun e W' ⟨he, hg⟩ => ?_
  subst he
  refine ⟨_, rfl, law_post Try.laidOut rfl (by kernel_rfl) Try.underlying4 ?_ ?_ hW hg⟩
  · rw [Try.params5]; decide +kernel
  · rw [Try.params5]
    intro ds h
    match ds, h with
    | [_], _ => rfl

theorem holds : Rows.WholeSmallsSaid :=
  OpenClaim.holds_of_wide 5 Try.f5 rfl rfl rfl rfl rfl rfl rfl ⟨rfl, rfl, rfl, rfl, rfl⟩ rfl rfl rfl rfl rfl (by kernel_rfl) Try.func5 (by kernel_rfl)
    (of_decide_eq_true (by kernel_rfl)) (by unfold Func.isWrapper; first | (rw [if_pos (by decide +kernel)]; kernel_rfl) | (rw [if_neg (by decide +kernel)]; exact ⟨rfl, rfl⟩))
    (fun os started H enc _ => lifted os started H enc)

end Go.Proofs.Ytmmmpdpgkjcohaa.smalls
