/- WholeSmalls holds: for every whole number the law returns true and leaves it as it was. No condition. -/
import Derived.Test.YtenaepofjpjhhaaRowInt
namespace Go.Proofs.Ytenaepofjpjhhaa.smalls
open Go.ChangeShapes Go.WideShapes Go.ChangeAt Go.RowKit

theorem Dec.kp {w w' : World} {v : Value} {X k : Nat} (h : Dec w v X k) (g : Kp w w') : Dec w' v X k := ⟨h.1.kp g, h.2⟩
theorem pow62 (w : World) : Calls Try.prog 38 #[.int .i64 62] w (MadeD w (2 ^ 62) 2) := PowD_n 62 2 (by omega) (by omega)
set_option maxHeartbeats 4000000 in
set_option maxRecDepth 100000 in
theorem walk {b1 : Bool} {v1 : Value} {xs : List Nat} {w : World} (hx : Sl w .u32 v1 xs) (ax : All 4294967296 xs) :
    Calls Try.prog 5 #[.agg #[.bool b1, v1]] w (Bool_ w true) := by
  obtain ⟨p1, c1, rfl, -⟩ := id hx
  have Hx := Lib.hid hx
  have Ax := Lib.hid ax
  have S : Bx w [(w.heap.size, .bool b1, .slice p1 xs.length c1)] (w.alloc (.cells #[.bool b1, .slice p1 xs.length c1] 24)) := ((Bx.start w).box (w.heap.size) (.bool b1) (.slice p1 xs.length c1) 24 (by simp))
  clear hx ax
  go_enter Try.func5, Try.ntmps5
  obtain ⟨e0, e1, e2, e3, G⟩ := id S
  go_wp2_with fail
  clear e0 e1 e2 e3 G
  refine (Of_l 4 (Hx.out.grown S.all (.inl rfl)) Ax.out (by omega)).mono ?_
  rintro e w1 ⟨pA, nA, cA, ux, rfl, hs, hd, g⟩
  replace hs := hs.grown g (.inl rfl)
  replace S := S.step _ g
  clear g
  obtain ⟨zx, hzx⟩ : ∃ z, sg b1 (val 4294967296 (xs.take 4)) = z := ⟨_, rfl⟩
  rw [hzx] at hd
  have bdx := hd.bd
  obtain ⟨px, cx, rfl, -⟩ := id hd
  have VA := Lib.hid (show IntV _ (.agg #[.bool b1, .slice pA nA cA]) zx 4 from ⟨_, _, _, rfl, Num.row hs (Ax.out.take 4) 4 (by rw [List.length_take]; omega), hzx.symm⟩)
  have Dx := Lib.hid (hd)
  clear hs hd hzx
  have z1_0 := S.lt (g := w.heap.size) (x := .bool b1) (y := .slice p1 xs.length c1) (by simp)
  obtain ⟨e0, e1, e2, e3, G⟩ := id S
  have K : Kp w1 (((w1.setCell ⟨w.heap.size, 0, none⟩ (.bool b1)).setCell ⟨w.heap.size, 1, none⟩ (.slice pA nA cA)).alloc (.cells #[.slice px (dig 10000 (zx).natAbs).length cx, .bool (decide (zx < 0))] 28)) := (S.kp (g := w.heap.size) (x := .bool b1) (y := .slice p1 xs.length c1) (.bool b1) (.slice pA nA cA) (by simp) (by simp) (by simp)).trans (Kp.of (grown_alloc _ _ _))
  have S2 : Bx w [(w.heap.size, .bool b1, .slice pA nA cA)] ((w1.setCell ⟨w.heap.size, 0, none⟩ (.bool b1)).setCell ⟨w.heap.size, 1, none⟩ (.slice pA nA cA)) := S.put (g := w.heap.size) (u := .bool b1) (v := .slice pA nA cA) (x := .bool b1) (y := .slice p1 xs.length c1) (bs' := []) (by simp) (by simp <;> omega) (by simp <;> omega) (by omega)
  replace S : Bx w [(w1.heap.size, .slice px (dig 10000 (zx).natAbs).length cx, .bool (decide (zx < 0))), (w.heap.size, .bool b1, .slice pA nA cA)] (((w1.setCell ⟨w.heap.size, 0, none⟩ (.bool b1)).setCell ⟨w.heap.size, 1, none⟩ (.slice pA nA cA)).alloc (.cells #[.slice px (dig 10000 (zx).natAbs).length cx, .bool (decide (zx < 0))] 28)) := S2.box (w1.heap.size) (.slice px (dig 10000 (zx).natAbs).length cx) (.bool (decide (zx < 0))) 28 (by simp)
  replace VA := Lib.hid (VA.out.kp K)
  replace Dx := Lib.hid (Dx.out.kp K)
  go_wp2_with fail
  clear K S2 e0 e1 e2 e3 G
  generalize (((w1.setCell ⟨w.heap.size, 0, none⟩ (.bool b1)).setCell ⟨w.heap.size, 1, none⟩ (.slice pA nA cA)).alloc (.cells #[.slice px (dig 10000 (zx).natAbs).length cx, .bool (decide (zx < 0))] 28)) = W1 at *
  obtain ⟨px', cx', ex, hx2⟩ := id Dx.out
  simp only [Value.agg.injEq, Value.slice.injEq, Array.mk.injEq, List.cons.injEq, true_and, and_true] at ex
  obtain ⟨rfl, rfl⟩ := ex
  have Ex := Lib.hid (hx2)
  clear hx2
  have p62 : (2 : Nat) ^ 62 = 4611686018427387904 := by rfl
  have k5 : 2 + 4 ≤ 1000000 := by omega
  rcases Nat.lt_or_ge zx.natAbs 4611686018427387904 with hz | hz
  · have Hz := Lib.hid hz
    clear hz
    have Hc := Lib.hid (show cmpN zx.natAbs (2 ^ 62) = -1 from cmpN_lt (by rw [p62]; exact Hz.out))
    refine (Small_yes VA.out (by omega) Hz.out).mono ?_
    rintro e w2 ⟨rfl, g⟩
    replace VA := Lib.hid (VA.out.kp (Kp.of g))
    replace Dx := Lib.hid (Dx.out.kp (Kp.of g))
    replace Ex := Lib.hid (Dec.kp Ex.out (Kp.of g))
    replace S := S.step _ g
    clear g
    obtain ⟨e0, e1, e2, e3, e4, e5, e6, e7, G⟩ := id S
    go_wp2_with fail
    clear e0 e1 e2 e3 e4 e5 e6 e7 G
    obtain ⟨e0, e1, e2, e3, e4, e5, e6, e7, G⟩ := id S
    have S0 : Kept w2 [(w1.heap.size, 0, .slice px (dig 10000 (zx).natAbs).length cx), (w1.heap.size, 1, .bool (decide (zx < 0))), (w.heap.size, 0, .bool b1), (w.heap.size, 1, .slice pA nA cA)] [] w2 := ⟨e0, e1, e4, e5, grown_refl _ _⟩
    clear e0 e1 e2 e3 e4 e5 e6 e7 G
    go_region_held3 (fun w' => w'.cell? ⟨w1.heap.size, 0, none⟩ = some (.slice px (dig 10000 (zx).natAbs).length cx) ∧ w'.cell? ⟨w1.heap.size, 1, none⟩ = some (.bool (decide (zx < 0))) ∧ w'.cell? ⟨w.heap.size, 0, none⟩ = some (.bool b1) ∧ w'.cell? ⟨w.heap.size, 1, none⟩ = some (.slice pA nA cA) ∧ w2.grownBy w' none) (first | exact Kept.step (W := w2) [(w1.heap.size, 0, .slice px (dig 10000 (zx).natAbs).length cx), (w1.heap.size, 1, .bool (decide (zx < 0))), (w.heap.size, 0, .bool b1), (w.heap.size, 1, .slice pA nA cA)] [] (by assumption) (by assumption) | exact Kept.step (W := w2) [(w1.heap.size, 0, .slice px (dig 10000 (zx).natAbs).length cx), (w1.heap.size, 1, .bool (decide (zx < 0))), (w.heap.size, 0, .bool b1), (w.heap.size, 1, .slice pA nA cA)] [] (grown_drew _ _) S0)
      (first | (go_at_call 37; (with_reducible refine (CmpD_n (Ex.out.grown (by go_split_ands; assumption)) d1).mono ?_); rintro e w' ⟨rfl, hg⟩; rw [Hc.out]; clear d1) | (go_at_call 38; (with_reducible refine (pow62 _).mono ?_); rintro e w' ⟨v, rfl, h, bd, hg⟩; have d1 := (show Dec w' v _ _ from ⟨h.sl, bd⟩); clear h bd))
    rename_i hend
    have g := hend.2.2.2.2
    replace VA := Lib.hid (VA.out.kp (Kp.of g))
    replace Dx := Lib.hid (Dx.out.kp (Kp.of g))
    replace Ex := Lib.hid (Dec.kp Ex.out (Kp.of g))
    replace S := S.step _ g
    clear g hend S0
    generalize w' = wr3 at *
    obtain ⟨e0, e1, e2, e3, e4, e5, e6, e7, G⟩ := id S
    go_wp2_with fail
    clear e0 e1 e2 e3 e4 e5 e6 e7 G
    have z1 : -9223372036854775808 ≤ zx := by have := Hz.out; omega
    have z2 : zx ≤ 9223372036854775807 := by have := Hz.out; omega
    have cs := Lib.hid (show cmpI zx zx = 0 by simp [cmpI])
    have SG := Lib.hid S.all
    obtain ⟨e0, e1, e2, e3, e4, e5, e6, e7, G⟩ := id S
    clear e2 e3 e6 e7 G
    have hW := grown_refl wr3 none
    go_region_with (first | (go_at_call 31; (with_reducible refine (wakes_true _).mono ?_); rintro e w' ⟨rfl, hg⟩; replace hW : wr3.grownBy w' none := (by first | exact grown_trans hW hg | exact grown_trans hW (grown_trans (grown_drew _ none) hg)); replace e0 := cell_grown hg e0; replace e1 := cell_grown hg e1; replace e4 := cell_grown hg e4; replace e5 := cell_grown hg e5; clear hg) | (go_at_call 28; (with_reducible refine (Cmp_r 0 d1 (Dx.out.grown (by first | exact hW | exact grown_trans hW (grown_drew _ none))) k5 cs.out).mono ?_); rintro e w' ⟨rfl, hg⟩; replace hW : wr3.grownBy w' none := (by first | exact grown_trans hW hg | exact grown_trans hW (grown_trans (grown_drew _ none) hg)); replace e0 := cell_grown hg e0; replace e1 := cell_grown hg e1; replace e4 := cell_grown hg e4; replace e5 := cell_grown hg e5; clear hg; clear d1) | (go_at_call 32; (with_reducible refine (Of_r zx _ z1 z2).mono ?_); rintro e w' ⟨v, rfl, h, bd, hg⟩; replace hW : wr3.grownBy w' none := (by first | exact grown_trans hW hg | exact grown_trans hW (grown_trans (grown_drew _ none) hg)); replace e0 := cell_grown hg e0; replace e1 := cell_grown hg e1; replace e4 := cell_grown hg e4; replace e5 := cell_grown hg e5; clear hg; have d1 := h.decI bd; clear h bd))
    all_goals (go_wp2_with fail; go_ret; exact ⟨rfl, grown_trans SG.out hW⟩)
  · have Hz := Lib.hid hz
    clear hz
    obtain ⟨r, hr⟩ : ∃ r, cmpN zx.natAbs (2 ^ 62) = r := ⟨_, rfl⟩
    have r0 : 0 ≤ r := by rw [← hr]; exact cmpN_ge (by rw [p62]; exact Hz.out)
    have Hc := Lib.hid hr
    have rl : (decide (r < 0)) = false := decide_eq_false (by omega)
    clear hr
    refine (Small_no VA.out (by omega) Hz.out).mono ?_
    rintro e w2 ⟨rfl, g⟩
    replace VA := Lib.hid (VA.out.kp (Kp.of g))
    replace Dx := Lib.hid (Dx.out.kp (Kp.of g))
    replace Ex := Lib.hid (Dec.kp Ex.out (Kp.of g))
    replace S := S.step _ g
    clear g
    obtain ⟨e0, e1, e2, e3, e4, e5, e6, e7, G⟩ := id S
    go_wp2_with fail
    clear e0 e1 e2 e3 e4 e5 e6 e7 G
    obtain ⟨e0, e1, e2, e3, e4, e5, e6, e7, G⟩ := id S
    have S0 : Kept w2 [(w1.heap.size, 0, .slice px (dig 10000 (zx).natAbs).length cx), (w1.heap.size, 1, .bool (decide (zx < 0))), (w.heap.size, 0, .bool b1), (w.heap.size, 1, .slice pA nA cA)] [] w2 := ⟨e0, e1, e4, e5, grown_refl _ _⟩
    clear e0 e1 e2 e3 e4 e5 e6 e7 G
    go_region_held3 (fun w' => w'.cell? ⟨w1.heap.size, 0, none⟩ = some (.slice px (dig 10000 (zx).natAbs).length cx) ∧ w'.cell? ⟨w1.heap.size, 1, none⟩ = some (.bool (decide (zx < 0))) ∧ w'.cell? ⟨w.heap.size, 0, none⟩ = some (.bool b1) ∧ w'.cell? ⟨w.heap.size, 1, none⟩ = some (.slice pA nA cA) ∧ w2.grownBy w' none) (first | exact Kept.step (W := w2) [(w1.heap.size, 0, .slice px (dig 10000 (zx).natAbs).length cx), (w1.heap.size, 1, .bool (decide (zx < 0))), (w.heap.size, 0, .bool b1), (w.heap.size, 1, .slice pA nA cA)] [] (by assumption) (by assumption) | exact Kept.step (W := w2) [(w1.heap.size, 0, .slice px (dig 10000 (zx).natAbs).length cx), (w1.heap.size, 1, .bool (decide (zx < 0))), (w.heap.size, 0, .bool b1), (w.heap.size, 1, .slice pA nA cA)] [] (grown_drew _ _) S0)
      (first | (go_at_call 37; (with_reducible refine (CmpD_n (Ex.out.grown (by go_split_ands; assumption)) d1).mono ?_); rintro e w' ⟨rfl, hg⟩; rw [Hc.out]; clear d1) | (go_at_call 38; (with_reducible refine (pow62 _).mono ?_); rintro e w' ⟨v, rfl, h, bd, hg⟩; have d1 := (show Dec w' v _ _ from ⟨h.sl, bd⟩); clear h bd))
    rename_i hend
    have g := hend.2.2.2.2
    replace VA := Lib.hid (VA.out.kp (Kp.of g))
    replace Dx := Lib.hid (Dx.out.kp (Kp.of g))
    replace Ex := Lib.hid (Dec.kp Ex.out (Kp.of g))
    replace S := S.step _ g
    clear g hend S0
    generalize w' = wr3 at *
    obtain ⟨e0, e1, e2, e3, e4, e5, e6, e7, G⟩ := id S
    go_wp2_with fail
    clear e0 e1 e2 e3 e4 e5 e6 e7 G
    have SG := Lib.hid S.all
    obtain ⟨e0, e1, e2, e3, e4, e5, e6, e7, G⟩ := id S
    clear e2 e3 e6 e7 G
    have hW := grown_refl wr3 none
    go_region_with (first | (go_at_call 31; (with_reducible refine (wakes_true _).mono ?_); rintro e w' ⟨rfl, hg⟩; replace hW : wr3.grownBy w' none := (by first | exact grown_trans hW hg | exact grown_trans hW (grown_trans (grown_drew _ none) hg)); replace e0 := cell_grown hg e0; replace e1 := cell_grown hg e1; replace e4 := cell_grown hg e4; replace e5 := cell_grown hg e5; clear hg))
    all_goals (go_wp2_with fail; go_ret; exact ⟨rfl, grown_trans SG.out hW⟩)

set_option maxRecDepth 100000 in
theorem lifted (os : Os) (started : os.Started) (H : Type) (enc : TypeId × Value → H) :
    ReturnsInHanded {} Try.checked os 5 .any (Rows.wholeSmallsSpec.pre6 enc Try.prog Try.f5 Rows.wholeSmallsRow.domain false) (Rows.wholeSmallsSpec.post enc Try.prog Try.f5 false true false false) := by
  refine returnsInHanded_of_change (C := Try.checked) Try.own started (by kernel_rfl) Try.func5
    (ChangeSpec.witness6 (enc := enc) (C := Try.checked) false ⟨#[], #[.agg #[.bool false, .slice none 0 0]], []⟩ 8 (by kernel_rfl) (by kernel_rfl) (by kernel_rfl) (by kernel_rfl)) ?_
  intro W base args ds gs before hval0 hW _ _
  have hval : ∀ (j : Nat) t v, Try.f5.params[j]? = some t → args[j]? = some v → Value.okWide Try.prog W .any base t v := hval0
  obtain ⟨p, q, hA0, hV, rfl, _, _⟩ := id hW
  have hA : DataW.TrodAll enc Try.prog W 0 (fun _ => true) true Try.f5.params.toList args.toList ds p := hA0
  rw [Try.params5] at hA hval
  obtain ⟨v0, vs0, d0, ds0, p0, q0, hargs, rfl, rfl, h0, r0⟩ := trodAll_cons hA
  obtain ⟨rfl, rfl, rfl⟩ := trodAll_nil r0
  obtain rfl : args = #[v0] := by cases args; simp_all
  obtain ⟨b0, w0, xs0, rfl, s0, a0⟩ := int_of_trod h0 (hval 0 24 v0 rfl rfl)
  refine (walk s0 a0).mono fun e W' ⟨he, hg⟩ => ?_
  subst he
  refine ⟨_, rfl, law_post Try.laidOut rfl (by kernel_rfl) Try.underlying4 ?_ ?_ hW hg⟩
  · rw [Try.params5]; decide +kernel
  · rw [Try.params5]
    intro ds h
    match ds, h with
    | [_], _ => rfl

theorem holds : Rows.WholeSmallsSaid :=
  OpenClaim.holds_of_wide 5 Try.f5 rfl rfl rfl rfl rfl rfl rfl ⟨rfl, rfl, rfl, rfl, rfl⟩ rfl rfl rfl rfl rfl (by kernel_rfl) Try.func5 (by kernel_rfl)
    (of_decide_eq_true (by kernel_rfl)) (by unfold Func.isWrapper; first | (rw [if_pos (by decide +kernel)]; kernel_rfl) | (rw [if_neg (by decide +kernel)]; exact ⟨rfl, rfl⟩))
    (fun os started H enc _ => lifted os started H enc)

end Go.Proofs.Ytenaepofjpjhhaa.smalls
