/- Package ratio, one contract a function. -/
import Derived.Test.YtmkplojojaopmaaGreatDoorRatA
namespace Go.Proofs.YtmkplojojaopmaaGreatDoor
open Go.RowKit

set_option maxHeartbeats 4000000 in
set_option maxRecDepth 100000 in
theorem RMake_g {v u : Value} {z y : Int} {i j : Nat} {w : World} (hz : IntV w v z i) (hy : IntV w u y j) {t : Rat} (hk : i + j ≤ 200000) (h0 : y ≠ 0) (ht : Rat.divInt z y = t) :
    Calls Tryz.prog 32 #[v, u] w (GotQE w t (i + j)) := by
  subst ht
  obtain ⟨b0, p0, n0, c0, rfl, hz⟩ := hz.open
  obtain ⟨b1, p1, n1, c1, rfl, hy⟩ := hy.open
  have Hz := Lib.hid hz
  have Hy := Lib.hid hy
  clear hz hy
  have Y0 := Lib.hid (decide_eq_false h0)
  clear h0
  have S : St w [] [] w := St.start w
  go_enter Tryz.func32, Tryz.ntmps32
  have G := S
  go_wp2_with fail
  clear G
  replace S : St w [(w.heap.size, 0, .bool b0), (w.heap.size, 1, .slice p0 n0 c0)] [] (w.alloc (.cells #[.bool b0, .slice p0 n0 c0] 24)) := S.box (w.heap.size) [.bool b0, .slice p0 n0 c0] 24 (by simp)
  replace S : St w [(w.heap.size + 1, 0, .bool b1), (w.heap.size + 1, 1, .slice p1 n1 c1), (w.heap.size, 0, .bool b0), (w.heap.size, 1, .slice p0 n0 c0)] [] ((w.alloc (.cells #[.bool b0, .slice p0 n0 c0] 24)).alloc (.cells #[.bool b1, .slice p1 n1 c1] 24)) := S.box (w.heap.size + 1) [.bool b1, .slice p1 n1 c1] 24 (by simp)
  replace S : St w [(w.heap.size + 1 + 1, 0, .bool false), (w.heap.size + 1 + 1, 1, .slice none 0 0), (w.heap.size + 1 + 1, 2, .bool false), (w.heap.size + 1 + 1, 3, .slice none 0 0), (w.heap.size + 1, 0, .bool b1), (w.heap.size + 1, 1, .slice p1 n1 c1), (w.heap.size, 0, .bool b0), (w.heap.size, 1, .slice p0 n0 c0)] [(w.heap.size + 1 + 1, 0), (w.heap.size + 1 + 1, 1), (w.heap.size + 1 + 1, 2), (w.heap.size + 1 + 1, 3)] (((w.alloc (.cells #[.bool b0, .slice p0 n0 c0] 24)).alloc (.cells #[.bool b1, .slice p1 n1 c1] 24)).alloc (.cells #[.bool false, .slice none 0 0, .bool false, .slice none 0 0] 46)) := S.made (w.heap.size + 1 + 1) [.bool false, .slice none 0 0, .bool false, .slice none 0 0] 46 (by simp)
  replace Hz := Lib.hid (Hz.out.kp (((Kp.of (grown_alloc w (.cells #[.bool b0, .slice p0 n0 c0] 24) none)).trans (Kp.of (grown_alloc ((w.alloc (.cells #[.bool b0, .slice p0 n0 c0] 24))) (.cells #[.bool b1, .slice p1 n1 c1] 24) none))).trans (Kp.of (grown_alloc (((w.alloc (.cells #[.bool b0, .slice p0 n0 c0] 24)).alloc (.cells #[.bool b1, .slice p1 n1 c1] 24))) (.cells #[.bool false, .slice none 0 0, .bool false, .slice none 0 0] 46) none))))
  replace Hy := Lib.hid (Hy.out.kp (((Kp.of (grown_alloc w (.cells #[.bool b0, .slice p0 n0 c0] 24) none)).trans (Kp.of (grown_alloc ((w.alloc (.cells #[.bool b0, .slice p0 n0 c0] 24))) (.cells #[.bool b1, .slice p1 n1 c1] 24) none))).trans (Kp.of (grown_alloc (((w.alloc (.cells #[.bool b0, .slice p0 n0 c0] 24)).alloc (.cells #[.bool b1, .slice p1 n1 c1] 24))) (.cells #[.bool false, .slice none 0 0, .bool false, .slice none 0 0] 46) none))))
  have sz10 : (((w.alloc (.cells #[.bool b0, .slice p0 n0 c0] 24)).alloc (.cells #[.bool b1, .slice p1 n1 c1] 24)).alloc (.cells #[.bool false, .slice none 0 0, .bool false, .slice none 0 0] 46)).heap.size = w.heap.size + 3 := by simp
  generalize (((w.alloc (.cells #[.bool b0, .slice p0 n0 c0] 24)).alloc (.cells #[.bool b1, .slice p1 n1 c1] 24)).alloc (.cells #[.bool false, .slice none 0 0, .bool false, .slice none 0 0] 46)) = W10 at *
  go_at_call 83
  with_reducible refine (zero_g Hy.out (by omega) Y0.out).mono ?_
  rintro e w11 ⟨rfl, g⟩
  replace Hz := Lib.hid (Hz.out.kp (Kp.of g))
  replace Hy := Lib.hid (Hy.out.kp (Kp.of g))
  replace S := S.step g
  have lg11 := g.size
  clear g
  have l0 := S.ltc (g := w.heap.size) (o := 0) (x := .bool b0) (by simp)
  have l1 := S.ltc (g := w.heap.size + 1) (o := 0) (x := .bool b1) (by simp)
  have l2 := S.ltc (g := w.heap.size + 1 + 1) (o := 0) (x := .bool false) (by simp)
  have lS := S.size
  obtain ⟨e0, e1, e2, e3, e4, e5, e6, e7, h0, i0, h1, i1, h2, i2, h3, i3, G⟩ := id S
  go_wp2_with fail
  clear e0 e1 e2 e3 e4 e5 e6 e7 h0 i0 h1 i1 h2 i2 h3 i3 G
  obtain ⟨z12, ez12⟩ : ∃ t : Rat, Rat.divInt z y = t := ⟨_, rfl⟩
  have E12 := Lib.hid ez12
  clear ez12
  go_at_call 84
  with_reducible refine (Lowest_g (k := (i + j)) (Hz.out.more (by omega)) (Hy.out.more (by omega)) (by omega) (of_decide_eq_false Y0.out) E12.out).mono ?_
  rintro e w13 ⟨b12, p12, n12, c12, d12, q12, m12, f12, rfl, h, g⟩
  clear Hz Hy
  have N12 := Lib.hid (h)
  replace S := S.step g
  have lg13 := g.size
  clear g h l0 l1 l2 lS
  have l0 := S.ltc (g := w.heap.size) (o := 0) (x := .bool b0) (by simp)
  have l1 := S.ltc (g := w.heap.size + 1) (o := 0) (x := .bool b1) (by simp)
  have l2 := S.ltc (g := w.heap.size + 1 + 1) (o := 0) (x := .bool false) (by simp)
  have lS := S.size
  obtain ⟨e0, e1, e2, e3, e4, e5, e6, e7, h0, i0, h1, i1, h2, i2, h3, i3, G⟩ := id S
  go_wp2_with fail
  clear e0 e1 e2 e3 e4 e5 e6 e7 h0 i0 h1 i1 h2 i2 h3 i3 G
  have K14 : Kp w13 (w13.setCell ⟨w.heap.size + 1 + 1, 0, none⟩ (.bool b12)) := S.kp (g := w.heap.size + 1 + 1) (o := 0) (x := .bool false) (.bool b12) (by simp) (by simp)
  replace S : St w [(w.heap.size + 1 + 1, 0, .bool b12), (w.heap.size + 1 + 1, 1, .slice none 0 0), (w.heap.size + 1 + 1, 2, .bool false), (w.heap.size + 1 + 1, 3, .slice none 0 0), (w.heap.size + 1, 0, .bool b1), (w.heap.size + 1, 1, .slice p1 n1 c1), (w.heap.size, 0, .bool b0), (w.heap.size, 1, .slice p0 n0 c0)] [(w.heap.size + 1 + 1, 0), (w.heap.size + 1 + 1, 1), (w.heap.size + 1 + 1, 2), (w.heap.size + 1 + 1, 3)] (w13.setCell ⟨w.heap.size + 1 + 1, 0, none⟩ (.bool b12)) := S.set (g := w.heap.size + 1 + 1) (o := 0) (.bool b12) (by simp) (by simp <;> omega) (by omega)
  have K15 : Kp (w13.setCell ⟨w.heap.size + 1 + 1, 0, none⟩ (.bool b12)) ((w13.setCell ⟨w.heap.size + 1 + 1, 0, none⟩ (.bool b12)).setCell ⟨w.heap.size + 1 + 1, 1, none⟩ (.slice p12 n12 c12)) := S.kp (g := w.heap.size + 1 + 1) (o := 1) (x := .slice none 0 0) (.slice p12 n12 c12) (by simp) (by simp)
  replace S : St w [(w.heap.size + 1 + 1, 1, .slice p12 n12 c12), (w.heap.size + 1 + 1, 0, .bool b12), (w.heap.size + 1 + 1, 2, .bool false), (w.heap.size + 1 + 1, 3, .slice none 0 0), (w.heap.size + 1, 0, .bool b1), (w.heap.size + 1, 1, .slice p1 n1 c1), (w.heap.size, 0, .bool b0), (w.heap.size, 1, .slice p0 n0 c0)] [(w.heap.size + 1 + 1, 0), (w.heap.size + 1 + 1, 1), (w.heap.size + 1 + 1, 2), (w.heap.size + 1 + 1, 3)] ((w13.setCell ⟨w.heap.size + 1 + 1, 0, none⟩ (.bool b12)).setCell ⟨w.heap.size + 1 + 1, 1, none⟩ (.slice p12 n12 c12)) := S.set (g := w.heap.size + 1 + 1) (o := 1) (.slice p12 n12 c12) (by simp) (by simp <;> omega) (by omega)
  have K16 : Kp ((w13.setCell ⟨w.heap.size + 1 + 1, 0, none⟩ (.bool b12)).setCell ⟨w.heap.size + 1 + 1, 1, none⟩ (.slice p12 n12 c12)) (((w13.setCell ⟨w.heap.size + 1 + 1, 0, none⟩ (.bool b12)).setCell ⟨w.heap.size + 1 + 1, 1, none⟩ (.slice p12 n12 c12)).setCell ⟨w.heap.size + 1 + 1, 2, none⟩ (.bool d12)) := S.kp (g := w.heap.size + 1 + 1) (o := 2) (x := .bool false) (.bool d12) (by simp) (by simp)
  replace S : St w [(w.heap.size + 1 + 1, 2, .bool d12), (w.heap.size + 1 + 1, 0, .bool b12), (w.heap.size + 1 + 1, 1, .slice p12 n12 c12), (w.heap.size + 1 + 1, 3, .slice none 0 0), (w.heap.size + 1, 0, .bool b1), (w.heap.size + 1, 1, .slice p1 n1 c1), (w.heap.size, 0, .bool b0), (w.heap.size, 1, .slice p0 n0 c0)] [(w.heap.size + 1 + 1, 0), (w.heap.size + 1 + 1, 1), (w.heap.size + 1 + 1, 2), (w.heap.size + 1 + 1, 3)] (((w13.setCell ⟨w.heap.size + 1 + 1, 0, none⟩ (.bool b12)).setCell ⟨w.heap.size + 1 + 1, 1, none⟩ (.slice p12 n12 c12)).setCell ⟨w.heap.size + 1 + 1, 2, none⟩ (.bool d12)) := S.set (g := w.heap.size + 1 + 1) (o := 2) (.bool d12) (by simp) (by simp <;> omega) (by omega)
  have K17 : Kp (((w13.setCell ⟨w.heap.size + 1 + 1, 0, none⟩ (.bool b12)).setCell ⟨w.heap.size + 1 + 1, 1, none⟩ (.slice p12 n12 c12)).setCell ⟨w.heap.size + 1 + 1, 2, none⟩ (.bool d12)) ((((w13.setCell ⟨w.heap.size + 1 + 1, 0, none⟩ (.bool b12)).setCell ⟨w.heap.size + 1 + 1, 1, none⟩ (.slice p12 n12 c12)).setCell ⟨w.heap.size + 1 + 1, 2, none⟩ (.bool d12)).setCell ⟨w.heap.size + 1 + 1, 3, none⟩ (.slice q12 m12 f12)) := S.kp (g := w.heap.size + 1 + 1) (o := 3) (x := .slice none 0 0) (.slice q12 m12 f12) (by simp) (by simp)
  replace S : St w [(w.heap.size + 1 + 1, 3, .slice q12 m12 f12), (w.heap.size + 1 + 1, 0, .bool b12), (w.heap.size + 1 + 1, 1, .slice p12 n12 c12), (w.heap.size + 1 + 1, 2, .bool d12), (w.heap.size + 1, 0, .bool b1), (w.heap.size + 1, 1, .slice p1 n1 c1), (w.heap.size, 0, .bool b0), (w.heap.size, 1, .slice p0 n0 c0)] [(w.heap.size + 1 + 1, 0), (w.heap.size + 1 + 1, 1), (w.heap.size + 1 + 1, 2), (w.heap.size + 1 + 1, 3)] ((((w13.setCell ⟨w.heap.size + 1 + 1, 0, none⟩ (.bool b12)).setCell ⟨w.heap.size + 1 + 1, 1, none⟩ (.slice p12 n12 c12)).setCell ⟨w.heap.size + 1 + 1, 2, none⟩ (.bool d12)).setCell ⟨w.heap.size + 1 + 1, 3, none⟩ (.slice q12 m12 f12)) := S.set (g := w.heap.size + 1 + 1) (o := 3) (.slice q12 m12 f12) (by simp) (by simp <;> omega) (by omega)
  replace S : St w [(w.heap.size + 1 + 1, 0, .bool b12), (w.heap.size + 1 + 1, 1, .slice p12 n12 c12), (w.heap.size + 1 + 1, 2, .bool d12), (w.heap.size + 1 + 1, 3, .slice q12 m12 f12), (w.heap.size + 1, 0, .bool b1), (w.heap.size + 1, 1, .slice p1 n1 c1), (w.heap.size, 0, .bool b0), (w.heap.size, 1, .slice p0 n0 c0)] [(w.heap.size + 1 + 1, 0), (w.heap.size + 1 + 1, 1), (w.heap.size + 1 + 1, 2), (w.heap.size + 1 + 1, 3)] ((((w13.setCell ⟨w.heap.size + 1 + 1, 0, none⟩ (.bool b12)).setCell ⟨w.heap.size + 1 + 1, 1, none⟩ (.slice p12 n12 c12)).setCell ⟨w.heap.size + 1 + 1, 2, none⟩ (.bool d12)).setCell ⟨w.heap.size + 1 + 1, 3, none⟩ (.slice q12 m12 f12)) := S.sub (by simp) (by simp)
  replace N12 := Lib.hid (N12.out.kp (((K14.trans K15).trans K16).trans K17))
  clear K14 K15 K16 K17
  have sz18 : ((((w13.setCell ⟨w.heap.size + 1 + 1, 0, none⟩ (.bool b12)).setCell ⟨w.heap.size + 1 + 1, 1, none⟩ (.slice p12 n12 c12)).setCell ⟨w.heap.size + 1 + 1, 2, none⟩ (.bool d12)).setCell ⟨w.heap.size + 1 + 1, 3, none⟩ (.slice q12 m12 f12)).heap.size = w13.heap.size := by simp
  generalize ((((w13.setCell ⟨w.heap.size + 1 + 1, 0, none⟩ (.bool b12)).setCell ⟨w.heap.size + 1 + 1, 1, none⟩ (.slice p12 n12 c12)).setCell ⟨w.heap.size + 1 + 1, 2, none⟩ (.bool d12)).setCell ⟨w.heap.size + 1 + 1, 3, none⟩ (.slice q12 m12 f12)) = W18 at *
  refine post_QE Tryz.results32 rfl rfl rfl (S.cell (g := w.heap.size + 1 + 1) (o := 0) (x := .bool b12) (by simp)) (S.cell (g := w.heap.size + 1 + 1) (o := 1) (x := .slice p12 n12 c12) (by simp)) (S.cell (g := w.heap.size + 1 + 1) (o := 2) (x := .bool d12) (by simp)) (S.cell (g := w.heap.size + 1 + 1) (o := 3) (x := .slice q12 m12 f12) (by simp)) ⟨_, _, _, _, _, _, _, _, rfl, (N12.out : NorQ _ _ _ _).eq (by rw [← E12.out]), S.all⟩

/-- What comes with an error. -/
def ErrQ (w : World) (k : Int) (e : Ending) (w' : World) : Prop := e = .returned (.tuple #[.agg #[.bool false, .slice none 0 0, .bool false, .slice none 0 0], .int .i64 k]) ∧ w.grownBy w' none
set_option maxHeartbeats 4000000 in
set_option maxRecDepth 100000 in
theorem RMake_0 {v u : Value} {z y : Int} {i j : Nat} {w : World} (hz : IntV w v z i) (hy : IntV w u y j) (hk : i + j ≤ 200000) (h0 : y = 0) :
    Calls Tryz.prog 32 #[v, u] w (ErrQ w 2) := by
  obtain ⟨b0, p0, n0, c0, rfl, hz⟩ := hz.open
  obtain ⟨b1, p1, n1, c1, rfl, hy⟩ := hy.open
  have Hz := Lib.hid hz
  have Hy := Lib.hid hy
  clear hz hy
  have Y0 := Lib.hid (decide_eq_true h0)
  clear h0
  have S : St w [] [] w := St.start w
  go_enter Tryz.func32, Tryz.ntmps32
  have G := S
  go_wp2_with fail
  clear G
  replace S : St w [(w.heap.size, 0, .bool b0), (w.heap.size, 1, .slice p0 n0 c0)] [] (w.alloc (.cells #[.bool b0, .slice p0 n0 c0] 24)) := S.box (w.heap.size) [.bool b0, .slice p0 n0 c0] 24 (by simp)
  replace S : St w [(w.heap.size + 1, 0, .bool b1), (w.heap.size + 1, 1, .slice p1 n1 c1), (w.heap.size, 0, .bool b0), (w.heap.size, 1, .slice p0 n0 c0)] [] ((w.alloc (.cells #[.bool b0, .slice p0 n0 c0] 24)).alloc (.cells #[.bool b1, .slice p1 n1 c1] 24)) := S.box (w.heap.size + 1) [.bool b1, .slice p1 n1 c1] 24 (by simp)
  replace S : St w [(w.heap.size + 1 + 1, 0, .bool false), (w.heap.size + 1 + 1, 1, .slice none 0 0), (w.heap.size + 1 + 1, 2, .bool false), (w.heap.size + 1 + 1, 3, .slice none 0 0), (w.heap.size + 1, 0, .bool b1), (w.heap.size + 1, 1, .slice p1 n1 c1), (w.heap.size, 0, .bool b0), (w.heap.size, 1, .slice p0 n0 c0)] [(w.heap.size + 1 + 1, 0), (w.heap.size + 1 + 1, 1), (w.heap.size + 1 + 1, 2), (w.heap.size + 1 + 1, 3)] (((w.alloc (.cells #[.bool b0, .slice p0 n0 c0] 24)).alloc (.cells #[.bool b1, .slice p1 n1 c1] 24)).alloc (.cells #[.bool false, .slice none 0 0, .bool false, .slice none 0 0] 46)) := S.made (w.heap.size + 1 + 1) [.bool false, .slice none 0 0, .bool false, .slice none 0 0] 46 (by simp)
  clear Hz
  replace Hy := Lib.hid (Hy.out.kp (((Kp.of (grown_alloc w (.cells #[.bool b0, .slice p0 n0 c0] 24) none)).trans (Kp.of (grown_alloc ((w.alloc (.cells #[.bool b0, .slice p0 n0 c0] 24))) (.cells #[.bool b1, .slice p1 n1 c1] 24) none))).trans (Kp.of (grown_alloc (((w.alloc (.cells #[.bool b0, .slice p0 n0 c0] 24)).alloc (.cells #[.bool b1, .slice p1 n1 c1] 24))) (.cells #[.bool false, .slice none 0 0, .bool false, .slice none 0 0] 46) none))))
  have sz10 : (((w.alloc (.cells #[.bool b0, .slice p0 n0 c0] 24)).alloc (.cells #[.bool b1, .slice p1 n1 c1] 24)).alloc (.cells #[.bool false, .slice none 0 0, .bool false, .slice none 0 0] 46)).heap.size = w.heap.size + 3 := by simp
  generalize (((w.alloc (.cells #[.bool b0, .slice p0 n0 c0] 24)).alloc (.cells #[.bool b1, .slice p1 n1 c1] 24)).alloc (.cells #[.bool false, .slice none 0 0, .bool false, .slice none 0 0] 46)) = W10 at *
  go_at_call 83
  with_reducible refine (zero_g Hy.out (by omega) Y0.out).mono ?_
  rintro e w11 ⟨rfl, g⟩
  clear Hy
  replace S := S.step g
  have lg11 := g.size
  clear g
  have l0 := S.ltc (g := w.heap.size) (o := 0) (x := .bool b0) (by simp)
  have l1 := S.ltc (g := w.heap.size + 1) (o := 0) (x := .bool b1) (by simp)
  have l2 := S.ltc (g := w.heap.size + 1 + 1) (o := 0) (x := .bool false) (by simp)
  have lS := S.size
  obtain ⟨e0, e1, e2, e3, e4, e5, e6, e7, h0, i0, h1, i1, h2, i2, h3, i3, G⟩ := id S
  go_wp2_with fail
  clear e0 e1 e2 e3 e4 e5 e6 e7 h0 i0 h1 i1 h2 i2 h3 i3 G
  have K12 : Kp w11 (w11.setCell ⟨w.heap.size + 1 + 1, 0, none⟩ (.bool false)) := S.kp (g := w.heap.size + 1 + 1) (o := 0) (x := .bool false) (.bool false) (by simp) (by simp)
  replace S : St w [(w.heap.size + 1 + 1, 0, .bool false), (w.heap.size + 1 + 1, 1, .slice none 0 0), (w.heap.size + 1 + 1, 2, .bool false), (w.heap.size + 1 + 1, 3, .slice none 0 0), (w.heap.size + 1, 0, .bool b1), (w.heap.size + 1, 1, .slice p1 n1 c1), (w.heap.size, 0, .bool b0), (w.heap.size, 1, .slice p0 n0 c0)] [(w.heap.size + 1 + 1, 0), (w.heap.size + 1 + 1, 1), (w.heap.size + 1 + 1, 2), (w.heap.size + 1 + 1, 3)] (w11.setCell ⟨w.heap.size + 1 + 1, 0, none⟩ (.bool false)) := S.set (g := w.heap.size + 1 + 1) (o := 0) (.bool false) (by simp) (by simp <;> omega) (by omega)
  have K13 : Kp (w11.setCell ⟨w.heap.size + 1 + 1, 0, none⟩ (.bool false)) ((w11.setCell ⟨w.heap.size + 1 + 1, 0, none⟩ (.bool false)).setCell ⟨w.heap.size + 1 + 1, 1, none⟩ (.slice none 0 0)) := S.kp (g := w.heap.size + 1 + 1) (o := 1) (x := .slice none 0 0) (.slice none 0 0) (by simp) (by simp)
  replace S : St w [(w.heap.size + 1 + 1, 1, .slice none 0 0), (w.heap.size + 1 + 1, 0, .bool false), (w.heap.size + 1 + 1, 2, .bool false), (w.heap.size + 1 + 1, 3, .slice none 0 0), (w.heap.size + 1, 0, .bool b1), (w.heap.size + 1, 1, .slice p1 n1 c1), (w.heap.size, 0, .bool b0), (w.heap.size, 1, .slice p0 n0 c0)] [(w.heap.size + 1 + 1, 0), (w.heap.size + 1 + 1, 1), (w.heap.size + 1 + 1, 2), (w.heap.size + 1 + 1, 3)] ((w11.setCell ⟨w.heap.size + 1 + 1, 0, none⟩ (.bool false)).setCell ⟨w.heap.size + 1 + 1, 1, none⟩ (.slice none 0 0)) := S.set (g := w.heap.size + 1 + 1) (o := 1) (.slice none 0 0) (by simp) (by simp <;> omega) (by omega)
  have K14 : Kp ((w11.setCell ⟨w.heap.size + 1 + 1, 0, none⟩ (.bool false)).setCell ⟨w.heap.size + 1 + 1, 1, none⟩ (.slice none 0 0)) (((w11.setCell ⟨w.heap.size + 1 + 1, 0, none⟩ (.bool false)).setCell ⟨w.heap.size + 1 + 1, 1, none⟩ (.slice none 0 0)).setCell ⟨w.heap.size + 1 + 1, 2, none⟩ (.bool false)) := S.kp (g := w.heap.size + 1 + 1) (o := 2) (x := .bool false) (.bool false) (by simp) (by simp)
  replace S : St w [(w.heap.size + 1 + 1, 2, .bool false), (w.heap.size + 1 + 1, 0, .bool false), (w.heap.size + 1 + 1, 1, .slice none 0 0), (w.heap.size + 1 + 1, 3, .slice none 0 0), (w.heap.size + 1, 0, .bool b1), (w.heap.size + 1, 1, .slice p1 n1 c1), (w.heap.size, 0, .bool b0), (w.heap.size, 1, .slice p0 n0 c0)] [(w.heap.size + 1 + 1, 0), (w.heap.size + 1 + 1, 1), (w.heap.size + 1 + 1, 2), (w.heap.size + 1 + 1, 3)] (((w11.setCell ⟨w.heap.size + 1 + 1, 0, none⟩ (.bool false)).setCell ⟨w.heap.size + 1 + 1, 1, none⟩ (.slice none 0 0)).setCell ⟨w.heap.size + 1 + 1, 2, none⟩ (.bool false)) := S.set (g := w.heap.size + 1 + 1) (o := 2) (.bool false) (by simp) (by simp <;> omega) (by omega)
  have K15 : Kp (((w11.setCell ⟨w.heap.size + 1 + 1, 0, none⟩ (.bool false)).setCell ⟨w.heap.size + 1 + 1, 1, none⟩ (.slice none 0 0)).setCell ⟨w.heap.size + 1 + 1, 2, none⟩ (.bool false)) ((((w11.setCell ⟨w.heap.size + 1 + 1, 0, none⟩ (.bool false)).setCell ⟨w.heap.size + 1 + 1, 1, none⟩ (.slice none 0 0)).setCell ⟨w.heap.size + 1 + 1, 2, none⟩ (.bool false)).setCell ⟨w.heap.size + 1 + 1, 3, none⟩ (.slice none 0 0)) := S.kp (g := w.heap.size + 1 + 1) (o := 3) (x := .slice none 0 0) (.slice none 0 0) (by simp) (by simp)
  replace S : St w [(w.heap.size + 1 + 1, 3, .slice none 0 0), (w.heap.size + 1 + 1, 0, .bool false), (w.heap.size + 1 + 1, 1, .slice none 0 0), (w.heap.size + 1 + 1, 2, .bool false), (w.heap.size + 1, 0, .bool b1), (w.heap.size + 1, 1, .slice p1 n1 c1), (w.heap.size, 0, .bool b0), (w.heap.size, 1, .slice p0 n0 c0)] [(w.heap.size + 1 + 1, 0), (w.heap.size + 1 + 1, 1), (w.heap.size + 1 + 1, 2), (w.heap.size + 1 + 1, 3)] ((((w11.setCell ⟨w.heap.size + 1 + 1, 0, none⟩ (.bool false)).setCell ⟨w.heap.size + 1 + 1, 1, none⟩ (.slice none 0 0)).setCell ⟨w.heap.size + 1 + 1, 2, none⟩ (.bool false)).setCell ⟨w.heap.size + 1 + 1, 3, none⟩ (.slice none 0 0)) := S.set (g := w.heap.size + 1 + 1) (o := 3) (.slice none 0 0) (by simp) (by simp <;> omega) (by omega)
  replace S : St w [(w.heap.size + 1 + 1, 0, .bool false), (w.heap.size + 1 + 1, 1, .slice none 0 0), (w.heap.size + 1 + 1, 2, .bool false), (w.heap.size + 1 + 1, 3, .slice none 0 0), (w.heap.size + 1, 0, .bool b1), (w.heap.size + 1, 1, .slice p1 n1 c1), (w.heap.size, 0, .bool b0), (w.heap.size, 1, .slice p0 n0 c0)] [(w.heap.size + 1 + 1, 0), (w.heap.size + 1 + 1, 1), (w.heap.size + 1 + 1, 2), (w.heap.size + 1 + 1, 3)] ((((w11.setCell ⟨w.heap.size + 1 + 1, 0, none⟩ (.bool false)).setCell ⟨w.heap.size + 1 + 1, 1, none⟩ (.slice none 0 0)).setCell ⟨w.heap.size + 1 + 1, 2, none⟩ (.bool false)).setCell ⟨w.heap.size + 1 + 1, 3, none⟩ (.slice none 0 0)) := S.sub (by simp) (by simp)
  clear K12 K13 K14 K15
  have sz16 : ((((w11.setCell ⟨w.heap.size + 1 + 1, 0, none⟩ (.bool false)).setCell ⟨w.heap.size + 1 + 1, 1, none⟩ (.slice none 0 0)).setCell ⟨w.heap.size + 1 + 1, 2, none⟩ (.bool false)).setCell ⟨w.heap.size + 1 + 1, 3, none⟩ (.slice none 0 0)).heap.size = w11.heap.size := by simp
  generalize ((((w11.setCell ⟨w.heap.size + 1 + 1, 0, none⟩ (.bool false)).setCell ⟨w.heap.size + 1 + 1, 1, none⟩ (.slice none 0 0)).setCell ⟨w.heap.size + 1 + 1, 2, none⟩ (.bool false)).setCell ⟨w.heap.size + 1 + 1, 3, none⟩ (.slice none 0 0)) = W16 at *
  refine post_QE Tryz.results32 rfl rfl rfl (S.cell (g := w.heap.size + 1 + 1) (o := 0) (x := .bool false) (by simp)) (S.cell (g := w.heap.size + 1 + 1) (o := 1) (x := .slice none 0 0) (by simp)) (S.cell (g := w.heap.size + 1 + 1) (o := 2) (x := .bool false) (by simp)) (S.cell (g := w.heap.size + 1 + 1) (o := 3) (x := .slice none 0 0) (by simp)) ⟨rfl, S.all⟩

set_option maxHeartbeats 4000000 in
set_option maxRecDepth 100000 in
theorem ROf_g (x y : Int) {t : Rat} {w : World} (x1 : -9223372036854775808 ≤ x) (x2 : x ≤ 9223372036854775807) (y1 : -9223372036854775808 ≤ y) (y2 : y ≤ 9223372036854775807) (h0 : y ≠ 0) (ht : Rat.divInt x y = t) :
    Calls Tryz.prog 36 #[.int .i64 x, .int .i64 y] w (GotQE w t 4) := by
  subst ht
  have Y0 := Lib.hid h0
  clear h0
  have S : St w [] [] w := St.start w
  go_enter Tryz.func36, Tryz.ntmps36
  have G := S
  go_wp2_with fail
  clear G
  replace S : St w [(w.heap.size, 0, .bool false), (w.heap.size, 1, .slice none 0 0), (w.heap.size, 2, .bool false), (w.heap.size, 3, .slice none 0 0)] [(w.heap.size, 0), (w.heap.size, 1), (w.heap.size, 2), (w.heap.size, 3)] (w.alloc (.cells #[.bool false, .slice none 0 0, .bool false, .slice none 0 0] 46)) := S.made (w.heap.size) [.bool false, .slice none 0 0, .bool false, .slice none 0 0] 46 (by simp)
  have sz10 : (w.alloc (.cells #[.bool false, .slice none 0 0, .bool false, .slice none 0 0] 46)).heap.size = w.heap.size + 1 := by simp
  generalize (w.alloc (.cells #[.bool false, .slice none 0 0, .bool false, .slice none 0 0] 46)) = W10 at *
  obtain ⟨z11, ez11⟩ : ∃ t : Int, (x : Int) = t := ⟨_, rfl⟩
  have E11 := Lib.hid ez11
  clear ez11
  go_at_call 69
  with_reducible refine (Of_g x x1 x2 E11.out).mono ?_
  rintro e w12 ⟨b11, p11, n11, c11, rfl, h, g⟩
  have N11 := Lib.hid (h)
  replace S := S.step g
  have lg12 := g.size
  clear g h
  have l0 := S.ltc (g := w.heap.size) (o := 0) (x := .bool false) (by simp)
  have lS := S.size
  obtain ⟨e0, e1, e2, e3, h0, i0, h1, i1, h2, i2, h3, i3, G⟩ := id S
  go_wp2_with fail
  clear e0 e1 e2 e3 h0 i0 h1 i1 h2 i2 h3 i3 G
  obtain ⟨z13, ez13⟩ : ∃ t : Int, (y : Int) = t := ⟨_, rfl⟩
  have E13 := Lib.hid ez13
  clear ez13
  go_at_call 69
  with_reducible refine (Of_g y y1 y2 E13.out).mono ?_
  rintro e w14 ⟨b13, p13, n13, c13, rfl, h, g⟩
  replace N11 := Lib.hid (N11.out.kp (Kp.of g))
  have N13 := Lib.hid (h)
  replace S := S.step g
  have lg14 := g.size
  clear g h l0 lS
  have l0 := S.ltc (g := w.heap.size) (o := 0) (x := .bool false) (by simp)
  have lS := S.size
  obtain ⟨e0, e1, e2, e3, h0, i0, h1, i1, h2, i2, h3, i3, G⟩ := id S
  go_wp2_with fail
  clear e0 e1 e2 e3 h0 i0 h1 i1 h2 i2 h3 i3 G
  obtain ⟨z15, ez15⟩ : ∃ t : Rat, Rat.divInt z11 z13 = t := ⟨_, rfl⟩
  have E15 := Lib.hid ez15
  clear ez15
  go_at_call 32
  with_reducible refine (RMake_g N11.out.i N13.out.i (by omega) (by rw [← E13.out]; exact Y0.out) E15.out).mono ?_
  rintro e w16 ⟨b15, p15, n15, c15, d15, q15, m15, f15, rfl, h, g⟩
  clear N11 N13
  have N15 := Lib.hid (h)
  replace S := S.step g
  have lg16 := g.size
  clear g h l0 lS
  have l0 := S.ltc (g := w.heap.size) (o := 0) (x := .bool false) (by simp)
  have lS := S.size
  obtain ⟨e0, e1, e2, e3, h0, i0, h1, i1, h2, i2, h3, i3, G⟩ := id S
  go_wp2_with fail
  clear e0 e1 e2 e3 h0 i0 h1 i1 h2 i2 h3 i3 G
  have K17 : Kp w16 (w16.setCell ⟨w.heap.size, 0, none⟩ (.bool b15)) := S.kp (g := w.heap.size) (o := 0) (x := .bool false) (.bool b15) (by simp) (by simp)
  replace S : St w [(w.heap.size, 0, .bool b15), (w.heap.size, 1, .slice none 0 0), (w.heap.size, 2, .bool false), (w.heap.size, 3, .slice none 0 0)] [(w.heap.size, 0), (w.heap.size, 1), (w.heap.size, 2), (w.heap.size, 3)] (w16.setCell ⟨w.heap.size, 0, none⟩ (.bool b15)) := S.set (g := w.heap.size) (o := 0) (.bool b15) (by simp) (by simp <;> omega) (by omega)
  have K18 : Kp (w16.setCell ⟨w.heap.size, 0, none⟩ (.bool b15)) ((w16.setCell ⟨w.heap.size, 0, none⟩ (.bool b15)).setCell ⟨w.heap.size, 1, none⟩ (.slice p15 n15 c15)) := S.kp (g := w.heap.size) (o := 1) (x := .slice none 0 0) (.slice p15 n15 c15) (by simp) (by simp)
  replace S : St w [(w.heap.size, 1, .slice p15 n15 c15), (w.heap.size, 0, .bool b15), (w.heap.size, 2, .bool false), (w.heap.size, 3, .slice none 0 0)] [(w.heap.size, 0), (w.heap.size, 1), (w.heap.size, 2), (w.heap.size, 3)] ((w16.setCell ⟨w.heap.size, 0, none⟩ (.bool b15)).setCell ⟨w.heap.size, 1, none⟩ (.slice p15 n15 c15)) := S.set (g := w.heap.size) (o := 1) (.slice p15 n15 c15) (by simp) (by simp <;> omega) (by omega)
  have K19 : Kp ((w16.setCell ⟨w.heap.size, 0, none⟩ (.bool b15)).setCell ⟨w.heap.size, 1, none⟩ (.slice p15 n15 c15)) (((w16.setCell ⟨w.heap.size, 0, none⟩ (.bool b15)).setCell ⟨w.heap.size, 1, none⟩ (.slice p15 n15 c15)).setCell ⟨w.heap.size, 2, none⟩ (.bool d15)) := S.kp (g := w.heap.size) (o := 2) (x := .bool false) (.bool d15) (by simp) (by simp)
  replace S : St w [(w.heap.size, 2, .bool d15), (w.heap.size, 0, .bool b15), (w.heap.size, 1, .slice p15 n15 c15), (w.heap.size, 3, .slice none 0 0)] [(w.heap.size, 0), (w.heap.size, 1), (w.heap.size, 2), (w.heap.size, 3)] (((w16.setCell ⟨w.heap.size, 0, none⟩ (.bool b15)).setCell ⟨w.heap.size, 1, none⟩ (.slice p15 n15 c15)).setCell ⟨w.heap.size, 2, none⟩ (.bool d15)) := S.set (g := w.heap.size) (o := 2) (.bool d15) (by simp) (by simp <;> omega) (by omega)
  have K20 : Kp (((w16.setCell ⟨w.heap.size, 0, none⟩ (.bool b15)).setCell ⟨w.heap.size, 1, none⟩ (.slice p15 n15 c15)).setCell ⟨w.heap.size, 2, none⟩ (.bool d15)) ((((w16.setCell ⟨w.heap.size, 0, none⟩ (.bool b15)).setCell ⟨w.heap.size, 1, none⟩ (.slice p15 n15 c15)).setCell ⟨w.heap.size, 2, none⟩ (.bool d15)).setCell ⟨w.heap.size, 3, none⟩ (.slice q15 m15 f15)) := S.kp (g := w.heap.size) (o := 3) (x := .slice none 0 0) (.slice q15 m15 f15) (by simp) (by simp)
  replace S : St w [(w.heap.size, 3, .slice q15 m15 f15), (w.heap.size, 0, .bool b15), (w.heap.size, 1, .slice p15 n15 c15), (w.heap.size, 2, .bool d15)] [(w.heap.size, 0), (w.heap.size, 1), (w.heap.size, 2), (w.heap.size, 3)] ((((w16.setCell ⟨w.heap.size, 0, none⟩ (.bool b15)).setCell ⟨w.heap.size, 1, none⟩ (.slice p15 n15 c15)).setCell ⟨w.heap.size, 2, none⟩ (.bool d15)).setCell ⟨w.heap.size, 3, none⟩ (.slice q15 m15 f15)) := S.set (g := w.heap.size) (o := 3) (.slice q15 m15 f15) (by simp) (by simp <;> omega) (by omega)
  replace S : St w [(w.heap.size, 0, .bool b15), (w.heap.size, 1, .slice p15 n15 c15), (w.heap.size, 2, .bool d15), (w.heap.size, 3, .slice q15 m15 f15)] [(w.heap.size, 0), (w.heap.size, 1), (w.heap.size, 2), (w.heap.size, 3)] ((((w16.setCell ⟨w.heap.size, 0, none⟩ (.bool b15)).setCell ⟨w.heap.size, 1, none⟩ (.slice p15 n15 c15)).setCell ⟨w.heap.size, 2, none⟩ (.bool d15)).setCell ⟨w.heap.size, 3, none⟩ (.slice q15 m15 f15)) := S.sub (by simp) (by simp)
  replace N15 := Lib.hid (N15.out.kp (((K17.trans K18).trans K19).trans K20))
  clear K17 K18 K19 K20
  have sz21 : ((((w16.setCell ⟨w.heap.size, 0, none⟩ (.bool b15)).setCell ⟨w.heap.size, 1, none⟩ (.slice p15 n15 c15)).setCell ⟨w.heap.size, 2, none⟩ (.bool d15)).setCell ⟨w.heap.size, 3, none⟩ (.slice q15 m15 f15)).heap.size = w16.heap.size := by simp
  generalize ((((w16.setCell ⟨w.heap.size, 0, none⟩ (.bool b15)).setCell ⟨w.heap.size, 1, none⟩ (.slice p15 n15 c15)).setCell ⟨w.heap.size, 2, none⟩ (.bool d15)).setCell ⟨w.heap.size, 3, none⟩ (.slice q15 m15 f15)) = W21 at *
  refine post_QE Tryz.results36 rfl rfl rfl (S.cell (g := w.heap.size) (o := 0) (x := .bool b15) (by simp)) (S.cell (g := w.heap.size) (o := 1) (x := .slice p15 n15 c15) (by simp)) (S.cell (g := w.heap.size) (o := 2) (x := .bool d15) (by simp)) (S.cell (g := w.heap.size) (o := 3) (x := .slice q15 m15 f15) (by simp)) ⟨_, _, _, _, _, _, _, _, rfl, (N15.out : NorQ _ _ _ _).eq (by rw [← E15.out, ← E11.out, ← E13.out]), S.all⟩

set_option maxHeartbeats 4000000 in
set_option maxRecDepth 100000 in
theorem RInt_g {v : Value} {z : Int} {i : Nat} {w : World} (hz : IntV w v z i) (hk : i ≤ 200000) :
    Calls Tryz.prog 39 #[v] w (GotQ w (z : Rat) (i + 2)) := by
  obtain ⟨b0, p0, n0, c0, rfl, hz⟩ := hz.open
  have Hz := Lib.hid hz
  clear hz
  have S : St w [] [] w := St.start w
  go_enter Tryz.func39, Tryz.ntmps39
  have G := S
  go_wp2_with fail
  clear G
  replace S : St w [(w.heap.size, 0, .bool b0), (w.heap.size, 1, .slice p0 n0 c0)] [] (w.alloc (.cells #[.bool b0, .slice p0 n0 c0] 24)) := S.box (w.heap.size) [.bool b0, .slice p0 n0 c0] 24 (by simp)
  replace S : St w [(w.heap.size + 1, 0, .bool false), (w.heap.size + 1, 1, .slice none 0 0), (w.heap.size + 1, 2, .bool false), (w.heap.size + 1, 3, .slice none 0 0), (w.heap.size, 0, .bool b0), (w.heap.size, 1, .slice p0 n0 c0)] [(w.heap.size + 1, 0), (w.heap.size + 1, 1), (w.heap.size + 1, 2), (w.heap.size + 1, 3)] ((w.alloc (.cells #[.bool b0, .slice p0 n0 c0] 24)).alloc (.cells #[.bool false, .slice none 0 0, .bool false, .slice none 0 0] 46)) := S.made (w.heap.size + 1) [.bool false, .slice none 0 0, .bool false, .slice none 0 0] 46 (by simp)
  replace Hz := Lib.hid (Hz.out.kp ((Kp.of (grown_alloc w (.cells #[.bool b0, .slice p0 n0 c0] 24) none)).trans (Kp.of (grown_alloc ((w.alloc (.cells #[.bool b0, .slice p0 n0 c0] 24))) (.cells #[.bool false, .slice none 0 0, .bool false, .slice none 0 0] 46) none))))
  have sz10 : ((w.alloc (.cells #[.bool b0, .slice p0 n0 c0] 24)).alloc (.cells #[.bool false, .slice none 0 0, .bool false, .slice none 0 0] 46)).heap.size = w.heap.size + 2 := by simp
  generalize ((w.alloc (.cells #[.bool b0, .slice p0 n0 c0] 24)).alloc (.cells #[.bool false, .slice none 0 0, .bool false, .slice none 0 0] 46)) = W10 at *
  go_at_call 64
  with_reducible refine (Norm_g Hz.out (by omega)).mono ?_
  rintro e w12 ⟨b11, p11, n11, c11, rfl, h, g⟩
  clear Hz
  have N11 := Lib.hid (h)
  replace S := S.step g
  have lg12 := g.size
  clear g h
  have l0 := S.ltc (g := w.heap.size) (o := 0) (x := .bool b0) (by simp)
  have l1 := S.ltc (g := w.heap.size + 1) (o := 0) (x := .bool false) (by simp)
  have lS := S.size
  obtain ⟨e0, e1, e2, e3, e4, e5, h0, i0, h1, i1, h2, i2, h3, i3, G⟩ := id S
  go_wp2_with fail
  clear e0 e1 e2 e3 e4 e5 h0 i0 h1 i1 h2 i2 h3 i3 G
  obtain ⟨z13, ez13⟩ : ∃ t : Int, (1 : Int) = t := ⟨_, rfl⟩
  have E13 := Lib.hid ez13
  clear ez13
  go_at_call 69
  with_reducible refine (Of_g 1 (by decide) (by decide) E13.out).mono ?_
  rintro e w14 ⟨b13, p13, n13, c13, rfl, h, g⟩
  replace N11 := Lib.hid (N11.out.kp (Kp.of g))
  have N13 := Lib.hid (h)
  replace S := S.step g
  have lg14 := g.size
  clear g h l0 l1 lS
  have l0 := S.ltc (g := w.heap.size) (o := 0) (x := .bool b0) (by simp)
  have l1 := S.ltc (g := w.heap.size + 1) (o := 0) (x := .bool false) (by simp)
  have lS := S.size
  obtain ⟨e0, e1, e2, e3, e4, e5, h0, i0, h1, i1, h2, i2, h3, i3, G⟩ := id S
  go_wp2_with fail
  clear e0 e1 e2 e3 e4 e5 h0 i0 h1 i1 h2 i2 h3 i3 G
  have K15 : Kp w14 (w14.setCell ⟨w.heap.size + 1, 0, none⟩ (.bool b11)) := S.kp (g := w.heap.size + 1) (o := 0) (x := .bool false) (.bool b11) (by simp) (by simp)
  replace S : St w [(w.heap.size + 1, 0, .bool b11), (w.heap.size + 1, 1, .slice none 0 0), (w.heap.size + 1, 2, .bool false), (w.heap.size + 1, 3, .slice none 0 0), (w.heap.size, 0, .bool b0), (w.heap.size, 1, .slice p0 n0 c0)] [(w.heap.size + 1, 0), (w.heap.size + 1, 1), (w.heap.size + 1, 2), (w.heap.size + 1, 3)] (w14.setCell ⟨w.heap.size + 1, 0, none⟩ (.bool b11)) := S.set (g := w.heap.size + 1) (o := 0) (.bool b11) (by simp) (by simp <;> omega) (by omega)
  have K16 : Kp (w14.setCell ⟨w.heap.size + 1, 0, none⟩ (.bool b11)) ((w14.setCell ⟨w.heap.size + 1, 0, none⟩ (.bool b11)).setCell ⟨w.heap.size + 1, 1, none⟩ (.slice p11 n11 c11)) := S.kp (g := w.heap.size + 1) (o := 1) (x := .slice none 0 0) (.slice p11 n11 c11) (by simp) (by simp)
  replace S : St w [(w.heap.size + 1, 1, .slice p11 n11 c11), (w.heap.size + 1, 0, .bool b11), (w.heap.size + 1, 2, .bool false), (w.heap.size + 1, 3, .slice none 0 0), (w.heap.size, 0, .bool b0), (w.heap.size, 1, .slice p0 n0 c0)] [(w.heap.size + 1, 0), (w.heap.size + 1, 1), (w.heap.size + 1, 2), (w.heap.size + 1, 3)] ((w14.setCell ⟨w.heap.size + 1, 0, none⟩ (.bool b11)).setCell ⟨w.heap.size + 1, 1, none⟩ (.slice p11 n11 c11)) := S.set (g := w.heap.size + 1) (o := 1) (.slice p11 n11 c11) (by simp) (by simp <;> omega) (by omega)
  have K17 : Kp ((w14.setCell ⟨w.heap.size + 1, 0, none⟩ (.bool b11)).setCell ⟨w.heap.size + 1, 1, none⟩ (.slice p11 n11 c11)) (((w14.setCell ⟨w.heap.size + 1, 0, none⟩ (.bool b11)).setCell ⟨w.heap.size + 1, 1, none⟩ (.slice p11 n11 c11)).setCell ⟨w.heap.size + 1, 2, none⟩ (.bool b13)) := S.kp (g := w.heap.size + 1) (o := 2) (x := .bool false) (.bool b13) (by simp) (by simp)
  replace S : St w [(w.heap.size + 1, 2, .bool b13), (w.heap.size + 1, 0, .bool b11), (w.heap.size + 1, 1, .slice p11 n11 c11), (w.heap.size + 1, 3, .slice none 0 0), (w.heap.size, 0, .bool b0), (w.heap.size, 1, .slice p0 n0 c0)] [(w.heap.size + 1, 0), (w.heap.size + 1, 1), (w.heap.size + 1, 2), (w.heap.size + 1, 3)] (((w14.setCell ⟨w.heap.size + 1, 0, none⟩ (.bool b11)).setCell ⟨w.heap.size + 1, 1, none⟩ (.slice p11 n11 c11)).setCell ⟨w.heap.size + 1, 2, none⟩ (.bool b13)) := S.set (g := w.heap.size + 1) (o := 2) (.bool b13) (by simp) (by simp <;> omega) (by omega)
  have K18 : Kp (((w14.setCell ⟨w.heap.size + 1, 0, none⟩ (.bool b11)).setCell ⟨w.heap.size + 1, 1, none⟩ (.slice p11 n11 c11)).setCell ⟨w.heap.size + 1, 2, none⟩ (.bool b13)) ((((w14.setCell ⟨w.heap.size + 1, 0, none⟩ (.bool b11)).setCell ⟨w.heap.size + 1, 1, none⟩ (.slice p11 n11 c11)).setCell ⟨w.heap.size + 1, 2, none⟩ (.bool b13)).setCell ⟨w.heap.size + 1, 3, none⟩ (.slice p13 n13 c13)) := S.kp (g := w.heap.size + 1) (o := 3) (x := .slice none 0 0) (.slice p13 n13 c13) (by simp) (by simp)
  replace S : St w [(w.heap.size + 1, 3, .slice p13 n13 c13), (w.heap.size + 1, 0, .bool b11), (w.heap.size + 1, 1, .slice p11 n11 c11), (w.heap.size + 1, 2, .bool b13), (w.heap.size, 0, .bool b0), (w.heap.size, 1, .slice p0 n0 c0)] [(w.heap.size + 1, 0), (w.heap.size + 1, 1), (w.heap.size + 1, 2), (w.heap.size + 1, 3)] ((((w14.setCell ⟨w.heap.size + 1, 0, none⟩ (.bool b11)).setCell ⟨w.heap.size + 1, 1, none⟩ (.slice p11 n11 c11)).setCell ⟨w.heap.size + 1, 2, none⟩ (.bool b13)).setCell ⟨w.heap.size + 1, 3, none⟩ (.slice p13 n13 c13)) := S.set (g := w.heap.size + 1) (o := 3) (.slice p13 n13 c13) (by simp) (by simp <;> omega) (by omega)
  replace S : St w [(w.heap.size + 1, 0, .bool b11), (w.heap.size + 1, 1, .slice p11 n11 c11), (w.heap.size + 1, 2, .bool b13), (w.heap.size + 1, 3, .slice p13 n13 c13), (w.heap.size, 0, .bool b0), (w.heap.size, 1, .slice p0 n0 c0)] [(w.heap.size + 1, 0), (w.heap.size + 1, 1), (w.heap.size + 1, 2), (w.heap.size + 1, 3)] ((((w14.setCell ⟨w.heap.size + 1, 0, none⟩ (.bool b11)).setCell ⟨w.heap.size + 1, 1, none⟩ (.slice p11 n11 c11)).setCell ⟨w.heap.size + 1, 2, none⟩ (.bool b13)).setCell ⟨w.heap.size + 1, 3, none⟩ (.slice p13 n13 c13)) := S.sub (by simp) (by simp)
  replace N11 := Lib.hid (N11.out.kp (((K15.trans K16).trans K17).trans K18))
  replace N13 := Lib.hid (N13.out.kp (((K15.trans K16).trans K17).trans K18))
  clear K15 K16 K17 K18
  have sz19 : ((((w14.setCell ⟨w.heap.size + 1, 0, none⟩ (.bool b11)).setCell ⟨w.heap.size + 1, 1, none⟩ (.slice p11 n11 c11)).setCell ⟨w.heap.size + 1, 2, none⟩ (.bool b13)).setCell ⟨w.heap.size + 1, 3, none⟩ (.slice p13 n13 c13)).heap.size = w14.heap.size := by simp
  generalize ((((w14.setCell ⟨w.heap.size + 1, 0, none⟩ (.bool b11)).setCell ⟨w.heap.size + 1, 1, none⟩ (.slice p11 n11 c11)).setCell ⟨w.heap.size + 1, 2, none⟩ (.bool b13)).setCell ⟨w.heap.size + 1, 3, none⟩ (.slice p13 n13 c13)) = W19 at *
  refine post_Q Tryz.results39 rfl rfl (S.cell (g := w.heap.size + 1) (o := 0) (x := .bool b11) (by simp)) (S.cell (g := w.heap.size + 1) (o := 1) (x := .slice p11 n11 c11) (by simp)) (S.cell (g := w.heap.size + 1) (o := 2) (x := .bool b13) (by simp)) (S.cell (g := w.heap.size + 1) (o := 3) (x := .slice p13 n13 c13) (by simp)) ⟨_, _, _, _, _, _, _, _, rfl, ⟨_, _, _, _, _, _, _, _, rfl, N11.out.more (by omega), (N13.out.eq (show z13 = _ by rw [← E13.out]; rfl)).more (by omega)⟩, S.all⟩

theorem cmp_parts {n d m e : Int} (hd : 0 < d) (he : 0 < e) : cmpI (n * e) (m * d) = cmpQ (Rat.divInt n d) (Rat.divInt m e) := by
  unfold cmpI cmpQ
  simp only [lt_parts hd he, eq_parts hd he]
set_option maxHeartbeats 4000000 in
set_option maxRecDepth 100000 in
theorem RCmp_g {v u : Value} {q r : Rat} {i j : Nat} {w : World} (hx : RatV w v q i) (hy : RatV w u r j) (t : Int) (hk : i + j ≤ 100000) (ht : cmpQ q r = t) :
    Calls Tryz.prog 52 #[v, u] w (fun e w' => e = .returned (.int .i64 t) ∧ w.grownBy w' none) := by
  obtain ⟨b0, p0, n0, c0, b1, p1, n1, c1, zz0, yy0, rfl, hz0, hy0, hq0⟩ := hx
  have Hx := Lib.hid (show RatV w (.agg #[.bool b0, .slice p0 n0 c0, .bool b1, .slice p1 n1 c1]) q i from ⟨_, _, _, _, _, _, _, _, _, _, rfl, hz0, hy0, hq0⟩)
  clear hz0 hy0 hq0
  obtain ⟨b2, p2, n2, c2, b3, p3, n3, c3, zz1, yy1, rfl, hz1, hy1, hq1⟩ := hy
  have Hy := Lib.hid (show RatV w (.agg #[.bool b2, .slice p2 n2 c2, .bool b3, .slice p3 n3 c3]) r j from ⟨_, _, _, _, _, _, _, _, _, _, rfl, hz1, hy1, hq1⟩)
  clear hz1 hy1 hq1
  have Ht := Lib.hid ht
  clear ht
  have S : St w [] [] w := St.start w
  go_enter Tryz.func52, Tryz.ntmps52
  have G := S
  go_wp2_with fail
  clear G
  replace S : St w [(w.heap.size, 0, .bool b0), (w.heap.size, 1, .slice p0 n0 c0), (w.heap.size, 2, .bool b1), (w.heap.size, 3, .slice p1 n1 c1)] [] (w.alloc (.cells #[.bool b0, .slice p0 n0 c0, .bool b1, .slice p1 n1 c1] 46)) := S.box (w.heap.size) [.bool b0, .slice p0 n0 c0, .bool b1, .slice p1 n1 c1] 46 (by simp)
  replace S : St w [(w.heap.size + 1, 0, .bool b2), (w.heap.size + 1, 1, .slice p2 n2 c2), (w.heap.size + 1, 2, .bool b3), (w.heap.size + 1, 3, .slice p3 n3 c3), (w.heap.size, 0, .bool b0), (w.heap.size, 1, .slice p0 n0 c0), (w.heap.size, 2, .bool b1), (w.heap.size, 3, .slice p1 n1 c1)] [] ((w.alloc (.cells #[.bool b0, .slice p0 n0 c0, .bool b1, .slice p1 n1 c1] 46)).alloc (.cells #[.bool b2, .slice p2 n2 c2, .bool b3, .slice p3 n3 c3] 46)) := S.box (w.heap.size + 1) [.bool b2, .slice p2 n2 c2, .bool b3, .slice p3 n3 c3] 46 (by simp)
  replace Hx := Lib.hid (Hx.out.kp ((Kp.of (grown_alloc w (.cells #[.bool b0, .slice p0 n0 c0, .bool b1, .slice p1 n1 c1] 46) none)).trans (Kp.of (grown_alloc ((w.alloc (.cells #[.bool b0, .slice p0 n0 c0, .bool b1, .slice p1 n1 c1] 46))) (.cells #[.bool b2, .slice p2 n2 c2, .bool b3, .slice p3 n3 c3] 46) none))))
  replace Hy := Lib.hid (Hy.out.kp ((Kp.of (grown_alloc w (.cells #[.bool b0, .slice p0 n0 c0, .bool b1, .slice p1 n1 c1] 46) none)).trans (Kp.of (grown_alloc ((w.alloc (.cells #[.bool b0, .slice p0 n0 c0, .bool b1, .slice p1 n1 c1] 46))) (.cells #[.bool b2, .slice p2 n2 c2, .bool b3, .slice p3 n3 c3] 46) none))))
  have sz10 : ((w.alloc (.cells #[.bool b0, .slice p0 n0 c0, .bool b1, .slice p1 n1 c1] 46)).alloc (.cells #[.bool b2, .slice p2 n2 c2, .bool b3, .slice p3 n3 c3] 46)).heap.size = w.heap.size + 2 := by simp
  generalize ((w.alloc (.cells #[.bool b0, .slice p0 n0 c0, .bool b1, .slice p1 n1 c1] 46)).alloc (.cells #[.bool b2, .slice p2 n2 c2, .bool b3, .slice p3 n3 c3] 46)) = W10 at *
  go_at_call 95
  with_reducible refine (Parts_g Hx.out (by omega)).mono ?_
  rintro e w12 ⟨b11, p11, n11, c11, d11, q11, m11, f11, z11, y11, rfl, h, h', y0, eq, g⟩
  clear Hx
  replace Hy := Lib.hid (Hy.out.kp (Kp.of g))
  have Y11 := Lib.hid y0
  have Q11 := Lib.hid eq
  have N11 := Lib.hid (h)
  have M11 := Lib.hid (h')
  replace S := S.step g
  have lg12 := g.size
  clear g h h' y0 eq
  have l0 := S.ltc (g := w.heap.size) (o := 0) (x := .bool b0) (by simp)
  have l1 := S.ltc (g := w.heap.size + 1) (o := 0) (x := .bool b2) (by simp)
  have lS := S.size
  obtain ⟨e0, e1, e2, e3, e4, e5, e6, e7, G⟩ := id S
  go_wp2_with fail
  clear e0 e1 e2 e3 e4 e5 e6 e7 G
  replace S : St w [(w12.heap.size, 0, .bool b11), (w12.heap.size, 1, .slice p11 n11 c11), (w.heap.size + 1, 0, .bool b2), (w.heap.size + 1, 1, .slice p2 n2 c2), (w.heap.size + 1, 2, .bool b3), (w.heap.size + 1, 3, .slice p3 n3 c3), (w.heap.size, 0, .bool b0), (w.heap.size, 1, .slice p0 n0 c0), (w.heap.size, 2, .bool b1), (w.heap.size, 3, .slice p1 n1 c1)] [(w12.heap.size, 0), (w12.heap.size, 1)] (w12.alloc (.cells #[.bool b11, .slice p11 n11 c11] 24)) := S.made (w12.heap.size) [.bool b11, .slice p11 n11 c11] 24 (by simp)
  replace S : St w [(w12.heap.size + 1, 0, .bool d11), (w12.heap.size + 1, 1, .slice q11 m11 f11), (w12.heap.size, 0, .bool b11), (w12.heap.size, 1, .slice p11 n11 c11), (w.heap.size + 1, 0, .bool b2), (w.heap.size + 1, 1, .slice p2 n2 c2), (w.heap.size + 1, 2, .bool b3), (w.heap.size + 1, 3, .slice p3 n3 c3), (w.heap.size, 0, .bool b0), (w.heap.size, 1, .slice p0 n0 c0), (w.heap.size, 2, .bool b1), (w.heap.size, 3, .slice p1 n1 c1)] [(w12.heap.size + 1, 0), (w12.heap.size + 1, 1), (w12.heap.size, 0), (w12.heap.size, 1)] ((w12.alloc (.cells #[.bool b11, .slice p11 n11 c11] 24)).alloc (.cells #[.bool d11, .slice q11 m11 f11] 24)) := S.made (w12.heap.size + 1) [.bool d11, .slice q11 m11 f11] 24 (by simp)
  replace Hy := Lib.hid (Hy.out.kp ((Kp.of (grown_alloc w12 (.cells #[.bool b11, .slice p11 n11 c11] 24) none)).trans (Kp.of (grown_alloc ((w12.alloc (.cells #[.bool b11, .slice p11 n11 c11] 24))) (.cells #[.bool d11, .slice q11 m11 f11] 24) none))))
  replace N11 := Lib.hid (N11.out.kp ((Kp.of (grown_alloc w12 (.cells #[.bool b11, .slice p11 n11 c11] 24) none)).trans (Kp.of (grown_alloc ((w12.alloc (.cells #[.bool b11, .slice p11 n11 c11] 24))) (.cells #[.bool d11, .slice q11 m11 f11] 24) none))))
  replace M11 := Lib.hid (M11.out.kp ((Kp.of (grown_alloc w12 (.cells #[.bool b11, .slice p11 n11 c11] 24) none)).trans (Kp.of (grown_alloc ((w12.alloc (.cells #[.bool b11, .slice p11 n11 c11] 24))) (.cells #[.bool d11, .slice q11 m11 f11] 24) none))))
  have sz13 : ((w12.alloc (.cells #[.bool b11, .slice p11 n11 c11] 24)).alloc (.cells #[.bool d11, .slice q11 m11 f11] 24)).heap.size = w12.heap.size + 2 := by simp
  generalize ((w12.alloc (.cells #[.bool b11, .slice p11 n11 c11] 24)).alloc (.cells #[.bool d11, .slice q11 m11 f11] 24)) = W13 at *
  go_at_call 95
  with_reducible refine (Parts_g Hy.out (by omega)).mono ?_
  rintro e w15 ⟨b14, p14, n14, c14, d14, q14, m14, f14, z14, y14, rfl, h, h', y0, eq, g⟩
  clear Hy
  replace N11 := Lib.hid (N11.out.kp (Kp.of g))
  replace M11 := Lib.hid (M11.out.kp (Kp.of g))
  have Y14 := Lib.hid y0
  have Q14 := Lib.hid eq
  have N14 := Lib.hid (h)
  have M14 := Lib.hid (h')
  replace S := S.step g
  have lg15 := g.size
  clear g h h' y0 eq l0 l1 lS
  have l0 := S.ltc (g := w.heap.size) (o := 0) (x := .bool b0) (by simp)
  have l1 := S.ltc (g := w.heap.size + 1) (o := 0) (x := .bool b2) (by simp)
  have l2 := S.ltc (g := w12.heap.size) (o := 0) (x := .bool b11) (by simp)
  have l3 := S.ltc (g := w12.heap.size + 1) (o := 0) (x := .bool d11) (by simp)
  have lS := S.size
  obtain ⟨e0, e1, e2, e3, e4, e5, e6, e7, e8, e9, e10, e11, h0, i0, h1, i1, h2, i2, h3, i3, G⟩ := id S
  go_wp2_with fail
  clear e0 e1 e2 e3 e4 e5 e6 e7 e8 e9 e10 e11 h0 i0 h1 i1 h2 i2 h3 i3 G
  replace S : St w [(w15.heap.size, 0, .bool b14), (w15.heap.size, 1, .slice p14 n14 c14), (w12.heap.size + 1, 0, .bool d11), (w12.heap.size + 1, 1, .slice q11 m11 f11), (w12.heap.size, 0, .bool b11), (w12.heap.size, 1, .slice p11 n11 c11), (w.heap.size + 1, 0, .bool b2), (w.heap.size + 1, 1, .slice p2 n2 c2), (w.heap.size + 1, 2, .bool b3), (w.heap.size + 1, 3, .slice p3 n3 c3), (w.heap.size, 0, .bool b0), (w.heap.size, 1, .slice p0 n0 c0), (w.heap.size, 2, .bool b1), (w.heap.size, 3, .slice p1 n1 c1)] [(w15.heap.size, 0), (w15.heap.size, 1), (w12.heap.size + 1, 0), (w12.heap.size + 1, 1), (w12.heap.size, 0), (w12.heap.size, 1)] (w15.alloc (.cells #[.bool b14, .slice p14 n14 c14] 24)) := S.made (w15.heap.size) [.bool b14, .slice p14 n14 c14] 24 (by simp)
  replace S : St w [(w15.heap.size + 1, 0, .bool d14), (w15.heap.size + 1, 1, .slice q14 m14 f14), (w15.heap.size, 0, .bool b14), (w15.heap.size, 1, .slice p14 n14 c14), (w12.heap.size + 1, 0, .bool d11), (w12.heap.size + 1, 1, .slice q11 m11 f11), (w12.heap.size, 0, .bool b11), (w12.heap.size, 1, .slice p11 n11 c11), (w.heap.size + 1, 0, .bool b2), (w.heap.size + 1, 1, .slice p2 n2 c2), (w.heap.size + 1, 2, .bool b3), (w.heap.size + 1, 3, .slice p3 n3 c3), (w.heap.size, 0, .bool b0), (w.heap.size, 1, .slice p0 n0 c0), (w.heap.size, 2, .bool b1), (w.heap.size, 3, .slice p1 n1 c1)] [(w15.heap.size + 1, 0), (w15.heap.size + 1, 1), (w15.heap.size, 0), (w15.heap.size, 1), (w12.heap.size + 1, 0), (w12.heap.size + 1, 1), (w12.heap.size, 0), (w12.heap.size, 1)] ((w15.alloc (.cells #[.bool b14, .slice p14 n14 c14] 24)).alloc (.cells #[.bool d14, .slice q14 m14 f14] 24)) := S.made (w15.heap.size + 1) [.bool d14, .slice q14 m14 f14] 24 (by simp)
  replace N11 := Lib.hid (N11.out.kp ((Kp.of (grown_alloc w15 (.cells #[.bool b14, .slice p14 n14 c14] 24) none)).trans (Kp.of (grown_alloc ((w15.alloc (.cells #[.bool b14, .slice p14 n14 c14] 24))) (.cells #[.bool d14, .slice q14 m14 f14] 24) none))))
  replace M11 := Lib.hid (M11.out.kp ((Kp.of (grown_alloc w15 (.cells #[.bool b14, .slice p14 n14 c14] 24) none)).trans (Kp.of (grown_alloc ((w15.alloc (.cells #[.bool b14, .slice p14 n14 c14] 24))) (.cells #[.bool d14, .slice q14 m14 f14] 24) none))))
  replace N14 := Lib.hid (N14.out.kp ((Kp.of (grown_alloc w15 (.cells #[.bool b14, .slice p14 n14 c14] 24) none)).trans (Kp.of (grown_alloc ((w15.alloc (.cells #[.bool b14, .slice p14 n14 c14] 24))) (.cells #[.bool d14, .slice q14 m14 f14] 24) none))))
  replace M14 := Lib.hid (M14.out.kp ((Kp.of (grown_alloc w15 (.cells #[.bool b14, .slice p14 n14 c14] 24) none)).trans (Kp.of (grown_alloc ((w15.alloc (.cells #[.bool b14, .slice p14 n14 c14] 24))) (.cells #[.bool d14, .slice q14 m14 f14] 24) none))))
  have sz16 : ((w15.alloc (.cells #[.bool b14, .slice p14 n14 c14] 24)).alloc (.cells #[.bool d14, .slice q14 m14 f14] 24)).heap.size = w15.heap.size + 2 := by simp
  generalize ((w15.alloc (.cells #[.bool b14, .slice p14 n14 c14] 24)).alloc (.cells #[.bool d14, .slice q14 m14 f14] 24)) = W16 at *
  have T0 : Cl [(w12.heap.size, 0, .bool b11), (w12.heap.size, 1, .slice p11 n11 c11), (w15.heap.size + 1, 0, .bool d14), (w15.heap.size + 1, 1, .slice q14 m14 f14), (w15.heap.size, 0, .bool b14), (w15.heap.size, 1, .slice p14 n14 c14), (w12.heap.size + 1, 0, .bool d11), (w12.heap.size + 1, 1, .slice q11 m11 f11)] W16 := S.cl (by simp)
  refine wp_region_noPanic ?_
  refine wp_region_held_drew (S := fun w' => w'.cell? ⟨w12.heap.size, 0, none⟩ = some (.bool b11) ∧ w'.cell? ⟨w12.heap.size, 1, none⟩ = some (.slice p11 n11 c11) ∧ w'.cell? ⟨w15.heap.size + 1, 0, none⟩ = some (.bool d14) ∧ w'.cell? ⟨w15.heap.size + 1, 1, none⟩ = some (.slice q14 m14 f14) ∧ w'.cell? ⟨w15.heap.size, 0, none⟩ = some (.bool b14) ∧ w'.cell? ⟨w15.heap.size, 1, none⟩ = some (.slice p14 n14 c14) ∧ w'.cell? ⟨w12.heap.size + 1, 0, none⟩ = some (.bool d11) ∧ w'.cell? ⟨w12.heap.size + 1, 1, none⟩ = some (.slice q11 m11 f11) ∧ True) (by kernel_rfl) (by exact Cl.step (cs := [(w12.heap.size, 0, .bool b11), (w12.heap.size, 1, .slice p11 n11 c11), (w15.heap.size + 1, 0, .bool d14), (w15.heap.size + 1, 1, .slice q14 m14 f14), (w15.heap.size, 0, .bool b14), (w15.heap.size, 1, .slice p14 n14 c14), (w12.heap.size + 1, 0, .bool d11), (w12.heap.size + 1, 1, .slice q11 m11 f11)]) (grown_drew _ _) T0) (fun hHeld => ?_)
  change wpAnyH _ _ _ _ _ 8 #[false, false, false, false, false, false, false, false] _ _
  replace S := S.step (grown_drew W16 none)
  replace N11 := Lib.hid (N11.out.kp (Kp.of (grown_drew W16 none)))
  replace M11 := Lib.hid (M11.out.kp (Kp.of (grown_drew W16 none)))
  replace N14 := Lib.hid (N14.out.kp (Kp.of (grown_drew W16 none)))
  replace M14 := Lib.hid (M14.out.kp (Kp.of (grown_drew W16 none)))
  have lg17 := (grown_drew W16 none).size
  clear T0
  generalize W16.drew = wr17 at *
  clear l0 l1 l2 l3 lS
  have l0 := S.ltc (g := w.heap.size) (o := 0) (x := .bool b0) (by simp)
  have l1 := S.ltc (g := w.heap.size + 1) (o := 0) (x := .bool b2) (by simp)
  have l2 := S.ltc (g := w12.heap.size) (o := 0) (x := .bool b11) (by simp)
  have l3 := S.ltc (g := w12.heap.size + 1) (o := 0) (x := .bool d11) (by simp)
  have l4 := S.ltc (g := w15.heap.size) (o := 0) (x := .bool b14) (by simp)
  have l5 := S.ltc (g := w15.heap.size + 1) (o := 0) (x := .bool d14) (by simp)
  have lS := S.size
  refine wpAnyH_take (i := 0) (oi := _) (v := ?vq18) rfl (by kernel_rfl) (by kernel_rfl) (by kernel_rfl) (fun _ _ _ h => h) (Or.inl ⟨by rfl, ?hyq18⟩) (by assumption) ?restq18
  case hyq18 => (intro w hSw; (try dsimp only at hSw); go_simp; try with_reducible rfl)
  try simp only [Act.put, List.getElem_toArray, List.getElem_cons_zero, List.setIfInBounds_toArray, List.set_cons_zero, List.set_cons_succ]
  refine wpAnyH_take (i := 1) (oi := _) (v := ?vq19) rfl (by kernel_rfl) (by kernel_rfl) (by kernel_rfl) (fun _ _ _ h => h) (Or.inl ⟨by rfl, ?hyq19⟩) (by assumption) ?restq19
  case hyq19 => (intro w hSw; (try dsimp only at hSw); go_simp; try with_reducible rfl)
  try simp only [Act.put, List.getElem_toArray, List.getElem_cons_zero, List.getElem_cons_succ, List.setIfInBounds_toArray, List.set_cons_zero, List.set_cons_succ]
  refine wpAnyH_take (i := 3) (oi := _) (v := ?vq20) rfl (by kernel_rfl) (by kernel_rfl) (by kernel_rfl) (fun _ _ _ h => h) (Or.inl ⟨by rfl, ?hyq20⟩) (by assumption) ?restq20
  case hyq20 => (intro w hSw; (try dsimp only at hSw); go_simp; try with_reducible rfl)
  try simp only [Act.put, List.getElem_toArray, List.getElem_cons_zero, List.getElem_cons_succ, List.setIfInBounds_toArray, List.set_cons_zero, List.set_cons_succ]
  refine wpAnyH_take (i := 4) (oi := _) (v := ?vq21) rfl (by kernel_rfl) (by kernel_rfl) (by kernel_rfl) (fun _ _ _ h => h) (Or.inl ⟨by rfl, ?hyq21⟩) (by assumption) ?restq21
  case hyq21 => (intro w hSw; (try dsimp only at hSw); go_simp; try with_reducible rfl)
  try simp only [Act.put, List.getElem_toArray, List.getElem_cons_zero, List.getElem_cons_succ, List.setIfInBounds_toArray, List.set_cons_zero, List.set_cons_succ]
  obtain ⟨z23, ez23⟩ : ∃ t : Int, z11 * y14 = t := ⟨_, rfl⟩
  have E23 := Lib.hid ez23
  clear ez23
  refine wpAnyH_ready (rs := [2]) (by kernel_rfl) (by simp) ?_
  refine AllReadyH.cons (o := _) rfl (fun K hK => ?_) AllReadyH.nil
  go_simp
  go_at_call 65
  with_reducible refine (Mul_g N11.out M14.out (by omega) E23.out).mono ?_
  rintro e w24 ⟨b23, p23, n23, c23, rfl, h, g⟩
  clear N11
  replace M11 := Lib.hid (M11.out.kp (Kp.of g))
  replace N14 := Lib.hid (N14.out.kp (Kp.of g))
  clear M14
  have N23 := Lib.hid (h)
  replace S := S.step g
  have lg24 := g.size
  clear l0 l1 l2 l3 l4 l5 lS
  have l0 := S.ltc (g := w.heap.size) (o := 0) (x := .bool b0) (by simp)
  have l1 := S.ltc (g := w.heap.size + 1) (o := 0) (x := .bool b2) (by simp)
  have l2 := S.ltc (g := w12.heap.size) (o := 0) (x := .bool b11) (by simp)
  have l3 := S.ltc (g := w12.heap.size + 1) (o := 0) (x := .bool d11) (by simp)
  have l4 := S.ltc (g := w15.heap.size) (o := 0) (x := .bool b14) (by simp)
  have l5 := S.ltc (g := w15.heap.size + 1) (o := 0) (x := .bool d14) (by simp)
  have lS := S.size
  go_wp2_with fail
  refine hK.out _ _ ?hSq22 (fun hHeld => ?_)
  case hSq22 => exact Cl.step (cs := [(w12.heap.size, 0, .bool b11), (w12.heap.size, 1, .slice p11 n11 c11), (w15.heap.size + 1, 0, .bool d14), (w15.heap.size + 1, 1, .slice q14 m14 f14), (w15.heap.size, 0, .bool b14), (w15.heap.size, 1, .slice p14 n14 c14), (w12.heap.size + 1, 0, .bool d11), (w12.heap.size + 1, 1, .slice q11 m11 f11)]) g (by assumption)
  clear hK K g h
  try simp only [List.setIfInBounds_toArray, List.set_cons_zero, List.set_cons_succ]
  obtain ⟨z26, ez26⟩ : ∃ t : Int, z14 * y11 = t := ⟨_, rfl⟩
  have E26 := Lib.hid ez26
  clear ez26
  refine wpAnyH_ready (rs := [5]) (by kernel_rfl) (by simp) ?_
  refine AllReadyH.cons (o := _) rfl (fun K hK => ?_) AllReadyH.nil
  go_simp
  go_at_call 65
  with_reducible refine (Mul_g N14.out M11.out (by omega) E26.out).mono ?_
  rintro e w27 ⟨b26, p26, n26, c26, rfl, h, g⟩
  clear M11 N14
  replace N23 := Lib.hid (N23.out.kp (Kp.of g))
  have N26 := Lib.hid (h)
  replace S := S.step g
  have lg27 := g.size
  clear l0 l1 l2 l3 l4 l5 lS
  have l0 := S.ltc (g := w.heap.size) (o := 0) (x := .bool b0) (by simp)
  have l1 := S.ltc (g := w.heap.size + 1) (o := 0) (x := .bool b2) (by simp)
  have l2 := S.ltc (g := w12.heap.size) (o := 0) (x := .bool b11) (by simp)
  have l3 := S.ltc (g := w12.heap.size + 1) (o := 0) (x := .bool d11) (by simp)
  have l4 := S.ltc (g := w15.heap.size) (o := 0) (x := .bool b14) (by simp)
  have l5 := S.ltc (g := w15.heap.size + 1) (o := 0) (x := .bool d14) (by simp)
  have lS := S.size
  go_wp2_with fail
  refine hK.out _ _ ?hSq25 (fun hHeld => ?_)
  case hSq25 => exact Cl.step (cs := [(w12.heap.size, 0, .bool b11), (w12.heap.size, 1, .slice p11 n11 c11), (w15.heap.size + 1, 0, .bool d14), (w15.heap.size + 1, 1, .slice q14 m14 f14), (w15.heap.size, 0, .bool b14), (w15.heap.size, 1, .slice p14 n14 c14), (w12.heap.size + 1, 0, .bool d11), (w12.heap.size + 1, 1, .slice q11 m11 f11)]) g (by assumption)
  clear hK K g h
  try simp only [List.setIfInBounds_toArray, List.set_cons_zero, List.set_cons_succ]
  refine wpAnyH_ready (rs := [6]) (by kernel_rfl) (by simp) ?_
  refine AllReadyH.cons (o := _) rfl (fun K hK => ?_) AllReadyH.nil
  go_simp
  go_at_call 67
  with_reducible refine (Cmp_i t N23.out.i N26.out.i (by omega) (by rw [← E23.out, ← E26.out, cmp_parts Y11.out Y14.out, Q11.out, Q14.out]; exact Ht.out)).mono ?_
  rintro e w29 ⟨rfl, g⟩
  clear N23 N26
  replace S := S.step g
  have lg29 := g.size
  clear l0 l1 l2 l3 l4 l5 lS
  have l0 := S.ltc (g := w.heap.size) (o := 0) (x := .bool b0) (by simp)
  have l1 := S.ltc (g := w.heap.size + 1) (o := 0) (x := .bool b2) (by simp)
  have l2 := S.ltc (g := w12.heap.size) (o := 0) (x := .bool b11) (by simp)
  have l3 := S.ltc (g := w12.heap.size + 1) (o := 0) (x := .bool d11) (by simp)
  have l4 := S.ltc (g := w15.heap.size) (o := 0) (x := .bool b14) (by simp)
  have l5 := S.ltc (g := w15.heap.size + 1) (o := 0) (x := .bool d14) (by simp)
  have lS := S.size
  go_wp2_with fail
  refine hK.out _ _ ?hSq28 (fun hHeld => ?_)
  case hSq28 => exact Cl.step (cs := [(w12.heap.size, 0, .bool b11), (w12.heap.size, 1, .slice p11 n11 c11), (w15.heap.size + 1, 0, .bool d14), (w15.heap.size + 1, 1, .slice q14 m14 f14), (w15.heap.size, 0, .bool b14), (w15.heap.size, 1, .slice p14 n14 c14), (w12.heap.size + 1, 0, .bool d11), (w12.heap.size + 1, 1, .slice q11 m11 f11)]) g (by assumption)
  clear hK K g
  try simp only [List.setIfInBounds_toArray, List.set_cons_zero, List.set_cons_succ]
  refine wpAnyH_take (i := 7) (oi := _) (v := ?vq30) rfl (by kernel_rfl) (by kernel_rfl) (by kernel_rfl) (fun _ _ _ h => h) (Or.inl ⟨by rfl, ?hyq30⟩) (by assumption) ?restq30
  case hyq30 => (intro w hSw; (try dsimp only at hSw); go_simp; try with_reducible rfl)
  try simp only [Act.put, List.getElem_toArray, List.getElem_cons_zero, List.getElem_cons_succ, List.setIfInBounds_toArray, List.set_cons_zero, List.set_cons_succ]
  refine wpAnyH_done (by kernel_rfl) ?_ _
  refine NoPanic.normal ?_
  obtain ⟨e0, e1, e2, e3, e4, e5, e6, e7, e8, e9, e10, e11, e12, e13, e14, e15, h0, i0, h1, i1, h2, i2, h3, i3, h4, i4, h5, i5, h6, i6, h7, i7, G⟩ := id S
  go_wp2_with fail
  clear e0 e1 e2 e3 e4 e5 e6 e7 e8 e9 e10 e11 e12 e13 e14 e15 h0 i0 h1 i1 h2 i2 h3 i3 h4 i4 h5 i5 h6 i6 h7 i7 G
  go_ret
  exact ⟨rfl, S.all⟩

set_option maxHeartbeats 4000000 in
set_option maxRecDepth 100000 in
theorem RAdd_g {v u : Value} {q r : Rat} {i j : Nat} {w : World} (hx : RatV w v q i) (hy : RatV w u r j) {t : Rat} (hk : i + j ≤ 100000) (ht : q + r = t) :
    Calls Tryz.prog 43 #[v, u] w (GotQ w t (2 * (i + j) + 9)) := by
  subst ht
  obtain ⟨b0, p0, n0, c0, b1, p1, n1, c1, zz0, yy0, rfl, hz0, hy0, hq0⟩ := hx
  have Hx := Lib.hid (show RatV w (.agg #[.bool b0, .slice p0 n0 c0, .bool b1, .slice p1 n1 c1]) q i from ⟨_, _, _, _, _, _, _, _, _, _, rfl, hz0, hy0, hq0⟩)
  clear hz0 hy0 hq0
  obtain ⟨b2, p2, n2, c2, b3, p3, n3, c3, zz1, yy1, rfl, hz1, hy1, hq1⟩ := hy
  have Hy := Lib.hid (show RatV w (.agg #[.bool b2, .slice p2 n2 c2, .bool b3, .slice p3 n3 c3]) r j from ⟨_, _, _, _, _, _, _, _, _, _, rfl, hz1, hy1, hq1⟩)
  clear hz1 hy1 hq1
  have S : St w [] [] w := St.start w
  go_enter Tryz.func43, Tryz.ntmps43
  have G := S
  go_wp2_with fail
  clear G
  replace S : St w [(w.heap.size, 0, .bool b0), (w.heap.size, 1, .slice p0 n0 c0), (w.heap.size, 2, .bool b1), (w.heap.size, 3, .slice p1 n1 c1)] [] (w.alloc (.cells #[.bool b0, .slice p0 n0 c0, .bool b1, .slice p1 n1 c1] 46)) := S.box (w.heap.size) [.bool b0, .slice p0 n0 c0, .bool b1, .slice p1 n1 c1] 46 (by simp)
  replace S : St w [(w.heap.size + 1, 0, .bool b2), (w.heap.size + 1, 1, .slice p2 n2 c2), (w.heap.size + 1, 2, .bool b3), (w.heap.size + 1, 3, .slice p3 n3 c3), (w.heap.size, 0, .bool b0), (w.heap.size, 1, .slice p0 n0 c0), (w.heap.size, 2, .bool b1), (w.heap.size, 3, .slice p1 n1 c1)] [] ((w.alloc (.cells #[.bool b0, .slice p0 n0 c0, .bool b1, .slice p1 n1 c1] 46)).alloc (.cells #[.bool b2, .slice p2 n2 c2, .bool b3, .slice p3 n3 c3] 46)) := S.box (w.heap.size + 1) [.bool b2, .slice p2 n2 c2, .bool b3, .slice p3 n3 c3] 46 (by simp)
  replace S : St w [(w.heap.size + 1 + 1, 0, .bool false), (w.heap.size + 1 + 1, 1, .slice none 0 0), (w.heap.size + 1 + 1, 2, .bool false), (w.heap.size + 1 + 1, 3, .slice none 0 0), (w.heap.size + 1, 0, .bool b2), (w.heap.size + 1, 1, .slice p2 n2 c2), (w.heap.size + 1, 2, .bool b3), (w.heap.size + 1, 3, .slice p3 n3 c3), (w.heap.size, 0, .bool b0), (w.heap.size, 1, .slice p0 n0 c0), (w.heap.size, 2, .bool b1), (w.heap.size, 3, .slice p1 n1 c1)] [(w.heap.size + 1 + 1, 0), (w.heap.size + 1 + 1, 1), (w.heap.size + 1 + 1, 2), (w.heap.size + 1 + 1, 3)] (((w.alloc (.cells #[.bool b0, .slice p0 n0 c0, .bool b1, .slice p1 n1 c1] 46)).alloc (.cells #[.bool b2, .slice p2 n2 c2, .bool b3, .slice p3 n3 c3] 46)).alloc (.cells #[.bool false, .slice none 0 0, .bool false, .slice none 0 0] 46)) := S.made (w.heap.size + 1 + 1) [.bool false, .slice none 0 0, .bool false, .slice none 0 0] 46 (by simp)
  replace Hx := Lib.hid (Hx.out.kp (((Kp.of (grown_alloc w (.cells #[.bool b0, .slice p0 n0 c0, .bool b1, .slice p1 n1 c1] 46) none)).trans (Kp.of (grown_alloc ((w.alloc (.cells #[.bool b0, .slice p0 n0 c0, .bool b1, .slice p1 n1 c1] 46))) (.cells #[.bool b2, .slice p2 n2 c2, .bool b3, .slice p3 n3 c3] 46) none))).trans (Kp.of (grown_alloc (((w.alloc (.cells #[.bool b0, .slice p0 n0 c0, .bool b1, .slice p1 n1 c1] 46)).alloc (.cells #[.bool b2, .slice p2 n2 c2, .bool b3, .slice p3 n3 c3] 46))) (.cells #[.bool false, .slice none 0 0, .bool false, .slice none 0 0] 46) none))))
  replace Hy := Lib.hid (Hy.out.kp (((Kp.of (grown_alloc w (.cells #[.bool b0, .slice p0 n0 c0, .bool b1, .slice p1 n1 c1] 46) none)).trans (Kp.of (grown_alloc ((w.alloc (.cells #[.bool b0, .slice p0 n0 c0, .bool b1, .slice p1 n1 c1] 46))) (.cells #[.bool b2, .slice p2 n2 c2, .bool b3, .slice p3 n3 c3] 46) none))).trans (Kp.of (grown_alloc (((w.alloc (.cells #[.bool b0, .slice p0 n0 c0, .bool b1, .slice p1 n1 c1] 46)).alloc (.cells #[.bool b2, .slice p2 n2 c2, .bool b3, .slice p3 n3 c3] 46))) (.cells #[.bool false, .slice none 0 0, .bool false, .slice none 0 0] 46) none))))
  have sz10 : (((w.alloc (.cells #[.bool b0, .slice p0 n0 c0, .bool b1, .slice p1 n1 c1] 46)).alloc (.cells #[.bool b2, .slice p2 n2 c2, .bool b3, .slice p3 n3 c3] 46)).alloc (.cells #[.bool false, .slice none 0 0, .bool false, .slice none 0 0] 46)).heap.size = w.heap.size + 3 := by simp
  generalize (((w.alloc (.cells #[.bool b0, .slice p0 n0 c0, .bool b1, .slice p1 n1 c1] 46)).alloc (.cells #[.bool b2, .slice p2 n2 c2, .bool b3, .slice p3 n3 c3] 46)).alloc (.cells #[.bool false, .slice none 0 0, .bool false, .slice none 0 0] 46)) = W10 at *
  obtain ⟨z11, ez11⟩ : ∃ t : Rat, q + r = t := ⟨_, rfl⟩
  have E11 := Lib.hid ez11
  clear ez11
  go_at_call 93
  with_reducible refine (Added_g Hx.out Hy.out (by omega) E11.out).mono ?_
  rintro e w12 ⟨b11, p11, n11, c11, d11, q11, m11, f11, x11, y11, rfl, h, h', y0, eq, g⟩
  clear Hx Hy
  have Y11 := Lib.hid y0
  have Q11 := Lib.hid eq
  have N11 := Lib.hid (h)
  have M11 := Lib.hid (h')
  replace S := S.step g
  have lg12 := g.size
  clear g h h' y0 eq
  have l0 := S.ltc (g := w.heap.size) (o := 0) (x := .bool b0) (by simp)
  have l1 := S.ltc (g := w.heap.size + 1) (o := 0) (x := .bool b2) (by simp)
  have l2 := S.ltc (g := w.heap.size + 1 + 1) (o := 0) (x := .bool false) (by simp)
  have lS := S.size
  obtain ⟨e0, e1, e2, e3, e4, e5, e6, e7, e8, e9, e10, e11, h0, i0, h1, i1, h2, i2, h3, i3, G⟩ := id S
  go_wp2_with fail
  clear e0 e1 e2 e3 e4 e5 e6 e7 e8 e9 e10 e11 h0 i0 h1 i1 h2 i2 h3 i3 G
  obtain ⟨z13, ez13⟩ : ∃ t : Rat, Rat.divInt x11 y11 = t := ⟨_, rfl⟩
  have E13 := Lib.hid ez13
  clear ez13
  go_at_call 84
  with_reducible refine (Lowest_g (k := (2 * (i + j) + 9)) N11.out M11.out (by omega) (by have := Y11.out; omega) E13.out).mono ?_
  rintro e w14 ⟨b13, p13, n13, c13, d13, q13, m13, f13, rfl, h, g⟩
  clear N11 M11
  have N13 := Lib.hid (h)
  replace S := S.step g
  have lg14 := g.size
  clear g h l0 l1 l2 lS
  have l0 := S.ltc (g := w.heap.size) (o := 0) (x := .bool b0) (by simp)
  have l1 := S.ltc (g := w.heap.size + 1) (o := 0) (x := .bool b2) (by simp)
  have l2 := S.ltc (g := w.heap.size + 1 + 1) (o := 0) (x := .bool false) (by simp)
  have lS := S.size
  obtain ⟨e0, e1, e2, e3, e4, e5, e6, e7, e8, e9, e10, e11, h0, i0, h1, i1, h2, i2, h3, i3, G⟩ := id S
  go_wp2_with fail
  clear e0 e1 e2 e3 e4 e5 e6 e7 e8 e9 e10 e11 h0 i0 h1 i1 h2 i2 h3 i3 G
  have K15 : Kp w14 (w14.setCell ⟨w.heap.size + 1 + 1, 0, none⟩ (.bool b13)) := S.kp (g := w.heap.size + 1 + 1) (o := 0) (x := .bool false) (.bool b13) (by simp) (by simp)
  replace S : St w [(w.heap.size + 1 + 1, 0, .bool b13), (w.heap.size + 1 + 1, 1, .slice none 0 0), (w.heap.size + 1 + 1, 2, .bool false), (w.heap.size + 1 + 1, 3, .slice none 0 0), (w.heap.size + 1, 0, .bool b2), (w.heap.size + 1, 1, .slice p2 n2 c2), (w.heap.size + 1, 2, .bool b3), (w.heap.size + 1, 3, .slice p3 n3 c3), (w.heap.size, 0, .bool b0), (w.heap.size, 1, .slice p0 n0 c0), (w.heap.size, 2, .bool b1), (w.heap.size, 3, .slice p1 n1 c1)] [(w.heap.size + 1 + 1, 0), (w.heap.size + 1 + 1, 1), (w.heap.size + 1 + 1, 2), (w.heap.size + 1 + 1, 3)] (w14.setCell ⟨w.heap.size + 1 + 1, 0, none⟩ (.bool b13)) := S.set (g := w.heap.size + 1 + 1) (o := 0) (.bool b13) (by simp) (by simp <;> omega) (by omega)
  have K16 : Kp (w14.setCell ⟨w.heap.size + 1 + 1, 0, none⟩ (.bool b13)) ((w14.setCell ⟨w.heap.size + 1 + 1, 0, none⟩ (.bool b13)).setCell ⟨w.heap.size + 1 + 1, 1, none⟩ (.slice p13 n13 c13)) := S.kp (g := w.heap.size + 1 + 1) (o := 1) (x := .slice none 0 0) (.slice p13 n13 c13) (by simp) (by simp)
  replace S : St w [(w.heap.size + 1 + 1, 1, .slice p13 n13 c13), (w.heap.size + 1 + 1, 0, .bool b13), (w.heap.size + 1 + 1, 2, .bool false), (w.heap.size + 1 + 1, 3, .slice none 0 0), (w.heap.size + 1, 0, .bool b2), (w.heap.size + 1, 1, .slice p2 n2 c2), (w.heap.size + 1, 2, .bool b3), (w.heap.size + 1, 3, .slice p3 n3 c3), (w.heap.size, 0, .bool b0), (w.heap.size, 1, .slice p0 n0 c0), (w.heap.size, 2, .bool b1), (w.heap.size, 3, .slice p1 n1 c1)] [(w.heap.size + 1 + 1, 0), (w.heap.size + 1 + 1, 1), (w.heap.size + 1 + 1, 2), (w.heap.size + 1 + 1, 3)] ((w14.setCell ⟨w.heap.size + 1 + 1, 0, none⟩ (.bool b13)).setCell ⟨w.heap.size + 1 + 1, 1, none⟩ (.slice p13 n13 c13)) := S.set (g := w.heap.size + 1 + 1) (o := 1) (.slice p13 n13 c13) (by simp) (by simp <;> omega) (by omega)
  have K17 : Kp ((w14.setCell ⟨w.heap.size + 1 + 1, 0, none⟩ (.bool b13)).setCell ⟨w.heap.size + 1 + 1, 1, none⟩ (.slice p13 n13 c13)) (((w14.setCell ⟨w.heap.size + 1 + 1, 0, none⟩ (.bool b13)).setCell ⟨w.heap.size + 1 + 1, 1, none⟩ (.slice p13 n13 c13)).setCell ⟨w.heap.size + 1 + 1, 2, none⟩ (.bool d13)) := S.kp (g := w.heap.size + 1 + 1) (o := 2) (x := .bool false) (.bool d13) (by simp) (by simp)
  replace S : St w [(w.heap.size + 1 + 1, 2, .bool d13), (w.heap.size + 1 + 1, 0, .bool b13), (w.heap.size + 1 + 1, 1, .slice p13 n13 c13), (w.heap.size + 1 + 1, 3, .slice none 0 0), (w.heap.size + 1, 0, .bool b2), (w.heap.size + 1, 1, .slice p2 n2 c2), (w.heap.size + 1, 2, .bool b3), (w.heap.size + 1, 3, .slice p3 n3 c3), (w.heap.size, 0, .bool b0), (w.heap.size, 1, .slice p0 n0 c0), (w.heap.size, 2, .bool b1), (w.heap.size, 3, .slice p1 n1 c1)] [(w.heap.size + 1 + 1, 0), (w.heap.size + 1 + 1, 1), (w.heap.size + 1 + 1, 2), (w.heap.size + 1 + 1, 3)] (((w14.setCell ⟨w.heap.size + 1 + 1, 0, none⟩ (.bool b13)).setCell ⟨w.heap.size + 1 + 1, 1, none⟩ (.slice p13 n13 c13)).setCell ⟨w.heap.size + 1 + 1, 2, none⟩ (.bool d13)) := S.set (g := w.heap.size + 1 + 1) (o := 2) (.bool d13) (by simp) (by simp <;> omega) (by omega)
  have K18 : Kp (((w14.setCell ⟨w.heap.size + 1 + 1, 0, none⟩ (.bool b13)).setCell ⟨w.heap.size + 1 + 1, 1, none⟩ (.slice p13 n13 c13)).setCell ⟨w.heap.size + 1 + 1, 2, none⟩ (.bool d13)) ((((w14.setCell ⟨w.heap.size + 1 + 1, 0, none⟩ (.bool b13)).setCell ⟨w.heap.size + 1 + 1, 1, none⟩ (.slice p13 n13 c13)).setCell ⟨w.heap.size + 1 + 1, 2, none⟩ (.bool d13)).setCell ⟨w.heap.size + 1 + 1, 3, none⟩ (.slice q13 m13 f13)) := S.kp (g := w.heap.size + 1 + 1) (o := 3) (x := .slice none 0 0) (.slice q13 m13 f13) (by simp) (by simp)
  replace S : St w [(w.heap.size + 1 + 1, 3, .slice q13 m13 f13), (w.heap.size + 1 + 1, 0, .bool b13), (w.heap.size + 1 + 1, 1, .slice p13 n13 c13), (w.heap.size + 1 + 1, 2, .bool d13), (w.heap.size + 1, 0, .bool b2), (w.heap.size + 1, 1, .slice p2 n2 c2), (w.heap.size + 1, 2, .bool b3), (w.heap.size + 1, 3, .slice p3 n3 c3), (w.heap.size, 0, .bool b0), (w.heap.size, 1, .slice p0 n0 c0), (w.heap.size, 2, .bool b1), (w.heap.size, 3, .slice p1 n1 c1)] [(w.heap.size + 1 + 1, 0), (w.heap.size + 1 + 1, 1), (w.heap.size + 1 + 1, 2), (w.heap.size + 1 + 1, 3)] ((((w14.setCell ⟨w.heap.size + 1 + 1, 0, none⟩ (.bool b13)).setCell ⟨w.heap.size + 1 + 1, 1, none⟩ (.slice p13 n13 c13)).setCell ⟨w.heap.size + 1 + 1, 2, none⟩ (.bool d13)).setCell ⟨w.heap.size + 1 + 1, 3, none⟩ (.slice q13 m13 f13)) := S.set (g := w.heap.size + 1 + 1) (o := 3) (.slice q13 m13 f13) (by simp) (by simp <;> omega) (by omega)
  replace S : St w [(w.heap.size + 1 + 1, 0, .bool b13), (w.heap.size + 1 + 1, 1, .slice p13 n13 c13), (w.heap.size + 1 + 1, 2, .bool d13), (w.heap.size + 1 + 1, 3, .slice q13 m13 f13), (w.heap.size + 1, 0, .bool b2), (w.heap.size + 1, 1, .slice p2 n2 c2), (w.heap.size + 1, 2, .bool b3), (w.heap.size + 1, 3, .slice p3 n3 c3), (w.heap.size, 0, .bool b0), (w.heap.size, 1, .slice p0 n0 c0), (w.heap.size, 2, .bool b1), (w.heap.size, 3, .slice p1 n1 c1)] [(w.heap.size + 1 + 1, 0), (w.heap.size + 1 + 1, 1), (w.heap.size + 1 + 1, 2), (w.heap.size + 1 + 1, 3)] ((((w14.setCell ⟨w.heap.size + 1 + 1, 0, none⟩ (.bool b13)).setCell ⟨w.heap.size + 1 + 1, 1, none⟩ (.slice p13 n13 c13)).setCell ⟨w.heap.size + 1 + 1, 2, none⟩ (.bool d13)).setCell ⟨w.heap.size + 1 + 1, 3, none⟩ (.slice q13 m13 f13)) := S.sub (by simp) (by simp)
  replace N13 := Lib.hid (N13.out.kp (((K15.trans K16).trans K17).trans K18))
  clear K15 K16 K17 K18
  have sz19 : ((((w14.setCell ⟨w.heap.size + 1 + 1, 0, none⟩ (.bool b13)).setCell ⟨w.heap.size + 1 + 1, 1, none⟩ (.slice p13 n13 c13)).setCell ⟨w.heap.size + 1 + 1, 2, none⟩ (.bool d13)).setCell ⟨w.heap.size + 1 + 1, 3, none⟩ (.slice q13 m13 f13)).heap.size = w14.heap.size := by simp
  generalize ((((w14.setCell ⟨w.heap.size + 1 + 1, 0, none⟩ (.bool b13)).setCell ⟨w.heap.size + 1 + 1, 1, none⟩ (.slice p13 n13 c13)).setCell ⟨w.heap.size + 1 + 1, 2, none⟩ (.bool d13)).setCell ⟨w.heap.size + 1 + 1, 3, none⟩ (.slice q13 m13 f13)) = W19 at *
  refine post_Q Tryz.results43 rfl rfl (S.cell (g := w.heap.size + 1 + 1) (o := 0) (x := .bool b13) (by simp)) (S.cell (g := w.heap.size + 1 + 1) (o := 1) (x := .slice p13 n13 c13) (by simp)) (S.cell (g := w.heap.size + 1 + 1) (o := 2) (x := .bool d13) (by simp)) (S.cell (g := w.heap.size + 1 + 1) (o := 3) (x := .slice q13 m13 f13) (by simp)) ⟨_, _, _, _, _, _, _, _, rfl, (N13.out.more (by omega) : NorQ _ _ _ _).eq (by rw [← E13.out, Q11.out, E11.out]), S.all⟩

set_option maxHeartbeats 4000000 in
set_option maxRecDepth 100000 in
theorem RSub_g {v u : Value} {q r : Rat} {i j : Nat} {w : World} (hx : RatV w v q i) (hy : RatV w u r j) {t : Rat} (hk : i + j ≤ 100000) (ht : q - r = t) :
    Calls Tryz.prog 45 #[v, u] w (GotQ w t (2 * (i + j) + 9)) := by
  subst ht
  obtain ⟨b0, p0, n0, c0, b1, p1, n1, c1, zz0, yy0, rfl, hz0, hy0, hq0⟩ := hx
  have Hx := Lib.hid (show RatV w (.agg #[.bool b0, .slice p0 n0 c0, .bool b1, .slice p1 n1 c1]) q i from ⟨_, _, _, _, _, _, _, _, _, _, rfl, hz0, hy0, hq0⟩)
  clear hz0 hy0 hq0
  obtain ⟨b2, p2, n2, c2, b3, p3, n3, c3, zz1, yy1, rfl, hz1, hy1, hq1⟩ := hy
  have Hy := Lib.hid (show RatV w (.agg #[.bool b2, .slice p2 n2 c2, .bool b3, .slice p3 n3 c3]) r j from ⟨_, _, _, _, _, _, _, _, _, _, rfl, hz1, hy1, hq1⟩)
  clear hz1 hy1 hq1
  have S : St w [] [] w := St.start w
  go_enter Tryz.func45, Tryz.ntmps45
  have G := S
  go_wp2_with fail
  clear G
  replace S : St w [(w.heap.size, 0, .bool b0), (w.heap.size, 1, .slice p0 n0 c0), (w.heap.size, 2, .bool b1), (w.heap.size, 3, .slice p1 n1 c1)] [] (w.alloc (.cells #[.bool b0, .slice p0 n0 c0, .bool b1, .slice p1 n1 c1] 46)) := S.box (w.heap.size) [.bool b0, .slice p0 n0 c0, .bool b1, .slice p1 n1 c1] 46 (by simp)
  replace S : St w [(w.heap.size + 1, 0, .bool b2), (w.heap.size + 1, 1, .slice p2 n2 c2), (w.heap.size + 1, 2, .bool b3), (w.heap.size + 1, 3, .slice p3 n3 c3), (w.heap.size, 0, .bool b0), (w.heap.size, 1, .slice p0 n0 c0), (w.heap.size, 2, .bool b1), (w.heap.size, 3, .slice p1 n1 c1)] [] ((w.alloc (.cells #[.bool b0, .slice p0 n0 c0, .bool b1, .slice p1 n1 c1] 46)).alloc (.cells #[.bool b2, .slice p2 n2 c2, .bool b3, .slice p3 n3 c3] 46)) := S.box (w.heap.size + 1) [.bool b2, .slice p2 n2 c2, .bool b3, .slice p3 n3 c3] 46 (by simp)
  replace S : St w [(w.heap.size + 1 + 1, 0, .bool false), (w.heap.size + 1 + 1, 1, .slice none 0 0), (w.heap.size + 1 + 1, 2, .bool false), (w.heap.size + 1 + 1, 3, .slice none 0 0), (w.heap.size + 1, 0, .bool b2), (w.heap.size + 1, 1, .slice p2 n2 c2), (w.heap.size + 1, 2, .bool b3), (w.heap.size + 1, 3, .slice p3 n3 c3), (w.heap.size, 0, .bool b0), (w.heap.size, 1, .slice p0 n0 c0), (w.heap.size, 2, .bool b1), (w.heap.size, 3, .slice p1 n1 c1)] [(w.heap.size + 1 + 1, 0), (w.heap.size + 1 + 1, 1), (w.heap.size + 1 + 1, 2), (w.heap.size + 1 + 1, 3)] (((w.alloc (.cells #[.bool b0, .slice p0 n0 c0, .bool b1, .slice p1 n1 c1] 46)).alloc (.cells #[.bool b2, .slice p2 n2 c2, .bool b3, .slice p3 n3 c3] 46)).alloc (.cells #[.bool false, .slice none 0 0, .bool false, .slice none 0 0] 46)) := S.made (w.heap.size + 1 + 1) [.bool false, .slice none 0 0, .bool false, .slice none 0 0] 46 (by simp)
  replace Hx := Lib.hid (Hx.out.kp (((Kp.of (grown_alloc w (.cells #[.bool b0, .slice p0 n0 c0, .bool b1, .slice p1 n1 c1] 46) none)).trans (Kp.of (grown_alloc ((w.alloc (.cells #[.bool b0, .slice p0 n0 c0, .bool b1, .slice p1 n1 c1] 46))) (.cells #[.bool b2, .slice p2 n2 c2, .bool b3, .slice p3 n3 c3] 46) none))).trans (Kp.of (grown_alloc (((w.alloc (.cells #[.bool b0, .slice p0 n0 c0, .bool b1, .slice p1 n1 c1] 46)).alloc (.cells #[.bool b2, .slice p2 n2 c2, .bool b3, .slice p3 n3 c3] 46))) (.cells #[.bool false, .slice none 0 0, .bool false, .slice none 0 0] 46) none))))
  replace Hy := Lib.hid (Hy.out.kp (((Kp.of (grown_alloc w (.cells #[.bool b0, .slice p0 n0 c0, .bool b1, .slice p1 n1 c1] 46) none)).trans (Kp.of (grown_alloc ((w.alloc (.cells #[.bool b0, .slice p0 n0 c0, .bool b1, .slice p1 n1 c1] 46))) (.cells #[.bool b2, .slice p2 n2 c2, .bool b3, .slice p3 n3 c3] 46) none))).trans (Kp.of (grown_alloc (((w.alloc (.cells #[.bool b0, .slice p0 n0 c0, .bool b1, .slice p1 n1 c1] 46)).alloc (.cells #[.bool b2, .slice p2 n2 c2, .bool b3, .slice p3 n3 c3] 46))) (.cells #[.bool false, .slice none 0 0, .bool false, .slice none 0 0] 46) none))))
  have sz10 : (((w.alloc (.cells #[.bool b0, .slice p0 n0 c0, .bool b1, .slice p1 n1 c1] 46)).alloc (.cells #[.bool b2, .slice p2 n2 c2, .bool b3, .slice p3 n3 c3] 46)).alloc (.cells #[.bool false, .slice none 0 0, .bool false, .slice none 0 0] 46)).heap.size = w.heap.size + 3 := by simp
  generalize (((w.alloc (.cells #[.bool b0, .slice p0 n0 c0, .bool b1, .slice p1 n1 c1] 46)).alloc (.cells #[.bool b2, .slice p2 n2 c2, .bool b3, .slice p3 n3 c3] 46)).alloc (.cells #[.bool false, .slice none 0 0, .bool false, .slice none 0 0] 46)) = W10 at *
  have T0 : Cl [(w.heap.size, 0, .bool b0), (w.heap.size, 1, .slice p0 n0 c0), (w.heap.size, 2, .bool b1), (w.heap.size, 3, .slice p1 n1 c1), (w.heap.size + 1, 0, .bool b2), (w.heap.size + 1, 1, .slice p2 n2 c2), (w.heap.size + 1, 2, .bool b3), (w.heap.size + 1, 3, .slice p3 n3 c3)] W10 := S.cl (by simp)
  refine wp_region_noPanic ?_
  refine wp_region_held_drew (S := fun w' => w'.cell? ⟨w.heap.size, 0, none⟩ = some (.bool b0) ∧ w'.cell? ⟨w.heap.size, 1, none⟩ = some (.slice p0 n0 c0) ∧ w'.cell? ⟨w.heap.size, 2, none⟩ = some (.bool b1) ∧ w'.cell? ⟨w.heap.size, 3, none⟩ = some (.slice p1 n1 c1) ∧ w'.cell? ⟨w.heap.size + 1, 0, none⟩ = some (.bool b2) ∧ w'.cell? ⟨w.heap.size + 1, 1, none⟩ = some (.slice p2 n2 c2) ∧ w'.cell? ⟨w.heap.size + 1, 2, none⟩ = some (.bool b3) ∧ w'.cell? ⟨w.heap.size + 1, 3, none⟩ = some (.slice p3 n3 c3) ∧ True) (by kernel_rfl) (by exact Cl.step (cs := [(w.heap.size, 0, .bool b0), (w.heap.size, 1, .slice p0 n0 c0), (w.heap.size, 2, .bool b1), (w.heap.size, 3, .slice p1 n1 c1), (w.heap.size + 1, 0, .bool b2), (w.heap.size + 1, 1, .slice p2 n2 c2), (w.heap.size + 1, 2, .bool b3), (w.heap.size + 1, 3, .slice p3 n3 c3)]) (grown_drew _ _) T0) (fun hHeld => ?_)
  change wpAnyH _ _ _ _ _ 5 #[false, false, false, false, false] _ _
  replace S := S.step (grown_drew W10 none)
  replace Hx := Lib.hid (Hx.out.kp (Kp.of (grown_drew W10 none)))
  replace Hy := Lib.hid (Hy.out.kp (Kp.of (grown_drew W10 none)))
  have lg11 := (grown_drew W10 none).size
  clear T0
  generalize W10.drew = wr11 at *
  have l0 := S.ltc (g := w.heap.size) (o := 0) (x := .bool b0) (by simp)
  have l1 := S.ltc (g := w.heap.size + 1) (o := 0) (x := .bool b2) (by simp)
  have l2 := S.ltc (g := w.heap.size + 1 + 1) (o := 0) (x := .bool false) (by simp)
  have lS := S.size
  refine wpAnyH_take (i := 0) (oi := _) (v := ?vq12) rfl (by kernel_rfl) (by kernel_rfl) (by kernel_rfl) (fun _ _ _ h => h) (Or.inl ⟨by rfl, ?hyq12⟩) (by assumption) ?restq12
  case hyq12 => (intro w hSw; (try dsimp only at hSw); go_simp; try with_reducible rfl)
  try simp only [Act.put, List.getElem_toArray, List.getElem_cons_zero, List.setIfInBounds_toArray, List.set_cons_zero, List.set_cons_succ]
  refine wpAnyH_take (i := 1) (oi := _) (v := ?vq13) rfl (by kernel_rfl) (by kernel_rfl) (by kernel_rfl) (fun _ _ _ h => h) (Or.inl ⟨by rfl, ?hyq13⟩) (by assumption) ?restq13
  case hyq13 => (intro w hSw; (try dsimp only at hSw); go_simp; try with_reducible rfl)
  try simp only [Act.put, List.getElem_toArray, List.getElem_cons_zero, List.getElem_cons_succ, List.setIfInBounds_toArray, List.set_cons_zero, List.set_cons_succ]
  obtain ⟨z15, ez15⟩ : ∃ t : Rat, -r = t := ⟨_, rfl⟩
  have E15 := Lib.hid ez15
  clear ez15
  refine wpAnyH_ready (rs := [2]) (by kernel_rfl) (by simp) ?_
  refine AllReadyH.cons (o := _) rfl (fun K hK => ?_) AllReadyH.nil
  go_simp
  go_at_call 94
  with_reducible refine (Minus_g Hy.out E15.out).mono ?_
  rintro e w16 ⟨b15, p15, n15, c15, d15, q15, m15, f15, rfl, h, g⟩
  replace Hx := Lib.hid (Hx.out.kp (Kp.of g))
  clear Hy
  have N15 := Lib.hid (h)
  replace S := S.step g
  have lg16 := g.size
  clear l0 l1 l2 lS
  have l0 := S.ltc (g := w.heap.size) (o := 0) (x := .bool b0) (by simp)
  have l1 := S.ltc (g := w.heap.size + 1) (o := 0) (x := .bool b2) (by simp)
  have l2 := S.ltc (g := w.heap.size + 1 + 1) (o := 0) (x := .bool false) (by simp)
  have lS := S.size
  go_wp2_with fail
  refine hK.out _ _ ?hSq14 (fun hHeld => ?_)
  case hSq14 => exact Cl.step (cs := [(w.heap.size, 0, .bool b0), (w.heap.size, 1, .slice p0 n0 c0), (w.heap.size, 2, .bool b1), (w.heap.size, 3, .slice p1 n1 c1), (w.heap.size + 1, 0, .bool b2), (w.heap.size + 1, 1, .slice p2 n2 c2), (w.heap.size + 1, 2, .bool b3), (w.heap.size + 1, 3, .slice p3 n3 c3)]) g (by assumption)
  clear hK K g h
  try simp only [List.setIfInBounds_toArray, List.set_cons_zero, List.set_cons_succ]
  obtain ⟨z18, ez18⟩ : ∃ t : Rat, q + z15 = t := ⟨_, rfl⟩
  have E18 := Lib.hid ez18
  clear ez18
  refine wpAnyH_ready (rs := [3]) (by kernel_rfl) (by simp) ?_
  refine AllReadyH.cons (o := _) rfl (fun K hK => ?_) AllReadyH.nil
  go_simp
  go_at_call 43
  with_reducible refine (RAdd_g Hx.out N15.out (by omega) E18.out).mono ?_
  rintro e w19 ⟨b18, p18, n18, c18, d18, q18, m18, f18, rfl, h, g⟩
  clear Hx N15
  have N18 := Lib.hid (h)
  replace S := S.step g
  have lg19 := g.size
  clear l0 l1 l2 lS
  have l0 := S.ltc (g := w.heap.size) (o := 0) (x := .bool b0) (by simp)
  have l1 := S.ltc (g := w.heap.size + 1) (o := 0) (x := .bool b2) (by simp)
  have l2 := S.ltc (g := w.heap.size + 1 + 1) (o := 0) (x := .bool false) (by simp)
  have lS := S.size
  go_wp2_with fail
  refine hK.out _ _ ?hSq17 (fun hHeld => ?_)
  case hSq17 => exact Cl.step (cs := [(w.heap.size, 0, .bool b0), (w.heap.size, 1, .slice p0 n0 c0), (w.heap.size, 2, .bool b1), (w.heap.size, 3, .slice p1 n1 c1), (w.heap.size + 1, 0, .bool b2), (w.heap.size + 1, 1, .slice p2 n2 c2), (w.heap.size + 1, 2, .bool b3), (w.heap.size + 1, 3, .slice p3 n3 c3)]) g (by assumption)
  clear hK K g h
  try simp only [List.setIfInBounds_toArray, List.set_cons_zero, List.set_cons_succ]
  obtain ⟨e0, e1, e2, e3, e4, e5, e6, e7, e8, e9, e10, e11, h0, i0, h1, i1, h2, i2, h3, i3, G⟩ := id S
  refine wpAnyH_ready (rs := [4]) (by kernel_rfl) (by simp) ?_
  refine AllReadyH.cons (o := _) rfl (fun K hK => ?_) AllReadyH.nil
  go_simp
  refine hK.out _ _ ?hSq20 (fun hHeld => ?_)
  case hSq20 => exact (Cl.set (cs := [(w.heap.size, 0, .bool b0), (w.heap.size, 1, .slice p0 n0 c0), (w.heap.size, 2, .bool b1), (w.heap.size, 3, .slice p1 n1 c1), (w.heap.size + 1, 0, .bool b2), (w.heap.size + 1, 1, .slice p2 n2 c2), (w.heap.size + 1, 2, .bool b3), (w.heap.size + 1, 3, .slice p3 n3 c3)]) (g := w.heap.size + 1 + 1) (o := 3) (u := .slice q18 m18 f18) (Cl.set (cs := [(w.heap.size, 0, .bool b0), (w.heap.size, 1, .slice p0 n0 c0), (w.heap.size, 2, .bool b1), (w.heap.size, 3, .slice p1 n1 c1), (w.heap.size + 1, 0, .bool b2), (w.heap.size + 1, 1, .slice p2 n2 c2), (w.heap.size + 1, 2, .bool b3), (w.heap.size + 1, 3, .slice p3 n3 c3)]) (g := w.heap.size + 1 + 1) (o := 2) (u := .bool d18) (Cl.set (cs := [(w.heap.size, 0, .bool b0), (w.heap.size, 1, .slice p0 n0 c0), (w.heap.size, 2, .bool b1), (w.heap.size, 3, .slice p1 n1 c1), (w.heap.size + 1, 0, .bool b2), (w.heap.size + 1, 1, .slice p2 n2 c2), (w.heap.size + 1, 2, .bool b3), (w.heap.size + 1, 3, .slice p3 n3 c3)]) (g := w.heap.size + 1 + 1) (o := 1) (u := .slice p18 n18 c18) (Cl.set (cs := [(w.heap.size, 0, .bool b0), (w.heap.size, 1, .slice p0 n0 c0), (w.heap.size, 2, .bool b1), (w.heap.size, 3, .slice p1 n1 c1), (w.heap.size + 1, 0, .bool b2), (w.heap.size + 1, 1, .slice p2 n2 c2), (w.heap.size + 1, 2, .bool b3), (w.heap.size + 1, 3, .slice p3 n3 c3)]) (g := w.heap.size + 1 + 1) (o := 0) (u := .bool b18) (by assumption) (by simp <;> omega)) (by simp <;> omega)) (by simp <;> omega)) (by simp <;> omega))
  clear hK K
  try simp only [List.setIfInBounds_toArray, List.set_cons_zero, List.set_cons_succ]
  clear e0 e1 e2 e3 e4 e5 e6 e7 e8 e9 e10 e11 h0 i0 h1 i1 h2 i2 h3 i3 G
  have K21 : Kp w19 (w19.setCell ⟨w.heap.size + 1 + 1, 0, none⟩ (.bool b18)) := S.kp (g := w.heap.size + 1 + 1) (o := 0) (x := .bool false) (.bool b18) (by simp) (by simp)
  replace S : St w [(w.heap.size + 1 + 1, 0, .bool b18), (w.heap.size + 1 + 1, 1, .slice none 0 0), (w.heap.size + 1 + 1, 2, .bool false), (w.heap.size + 1 + 1, 3, .slice none 0 0), (w.heap.size + 1, 0, .bool b2), (w.heap.size + 1, 1, .slice p2 n2 c2), (w.heap.size + 1, 2, .bool b3), (w.heap.size + 1, 3, .slice p3 n3 c3), (w.heap.size, 0, .bool b0), (w.heap.size, 1, .slice p0 n0 c0), (w.heap.size, 2, .bool b1), (w.heap.size, 3, .slice p1 n1 c1)] [(w.heap.size + 1 + 1, 0), (w.heap.size + 1 + 1, 1), (w.heap.size + 1 + 1, 2), (w.heap.size + 1 + 1, 3)] (w19.setCell ⟨w.heap.size + 1 + 1, 0, none⟩ (.bool b18)) := S.set (g := w.heap.size + 1 + 1) (o := 0) (.bool b18) (by simp) (by simp <;> omega) (by omega)
  have K22 : Kp (w19.setCell ⟨w.heap.size + 1 + 1, 0, none⟩ (.bool b18)) ((w19.setCell ⟨w.heap.size + 1 + 1, 0, none⟩ (.bool b18)).setCell ⟨w.heap.size + 1 + 1, 1, none⟩ (.slice p18 n18 c18)) := S.kp (g := w.heap.size + 1 + 1) (o := 1) (x := .slice none 0 0) (.slice p18 n18 c18) (by simp) (by simp)
  replace S : St w [(w.heap.size + 1 + 1, 1, .slice p18 n18 c18), (w.heap.size + 1 + 1, 0, .bool b18), (w.heap.size + 1 + 1, 2, .bool false), (w.heap.size + 1 + 1, 3, .slice none 0 0), (w.heap.size + 1, 0, .bool b2), (w.heap.size + 1, 1, .slice p2 n2 c2), (w.heap.size + 1, 2, .bool b3), (w.heap.size + 1, 3, .slice p3 n3 c3), (w.heap.size, 0, .bool b0), (w.heap.size, 1, .slice p0 n0 c0), (w.heap.size, 2, .bool b1), (w.heap.size, 3, .slice p1 n1 c1)] [(w.heap.size + 1 + 1, 0), (w.heap.size + 1 + 1, 1), (w.heap.size + 1 + 1, 2), (w.heap.size + 1 + 1, 3)] ((w19.setCell ⟨w.heap.size + 1 + 1, 0, none⟩ (.bool b18)).setCell ⟨w.heap.size + 1 + 1, 1, none⟩ (.slice p18 n18 c18)) := S.set (g := w.heap.size + 1 + 1) (o := 1) (.slice p18 n18 c18) (by simp) (by simp <;> omega) (by omega)
  have K23 : Kp ((w19.setCell ⟨w.heap.size + 1 + 1, 0, none⟩ (.bool b18)).setCell ⟨w.heap.size + 1 + 1, 1, none⟩ (.slice p18 n18 c18)) (((w19.setCell ⟨w.heap.size + 1 + 1, 0, none⟩ (.bool b18)).setCell ⟨w.heap.size + 1 + 1, 1, none⟩ (.slice p18 n18 c18)).setCell ⟨w.heap.size + 1 + 1, 2, none⟩ (.bool d18)) := S.kp (g := w.heap.size + 1 + 1) (o := 2) (x := .bool false) (.bool d18) (by simp) (by simp)
  replace S : St w [(w.heap.size + 1 + 1, 2, .bool d18), (w.heap.size + 1 + 1, 0, .bool b18), (w.heap.size + 1 + 1, 1, .slice p18 n18 c18), (w.heap.size + 1 + 1, 3, .slice none 0 0), (w.heap.size + 1, 0, .bool b2), (w.heap.size + 1, 1, .slice p2 n2 c2), (w.heap.size + 1, 2, .bool b3), (w.heap.size + 1, 3, .slice p3 n3 c3), (w.heap.size, 0, .bool b0), (w.heap.size, 1, .slice p0 n0 c0), (w.heap.size, 2, .bool b1), (w.heap.size, 3, .slice p1 n1 c1)] [(w.heap.size + 1 + 1, 0), (w.heap.size + 1 + 1, 1), (w.heap.size + 1 + 1, 2), (w.heap.size + 1 + 1, 3)] (((w19.setCell ⟨w.heap.size + 1 + 1, 0, none⟩ (.bool b18)).setCell ⟨w.heap.size + 1 + 1, 1, none⟩ (.slice p18 n18 c18)).setCell ⟨w.heap.size + 1 + 1, 2, none⟩ (.bool d18)) := S.set (g := w.heap.size + 1 + 1) (o := 2) (.bool d18) (by simp) (by simp <;> omega) (by omega)
  have K24 : Kp (((w19.setCell ⟨w.heap.size + 1 + 1, 0, none⟩ (.bool b18)).setCell ⟨w.heap.size + 1 + 1, 1, none⟩ (.slice p18 n18 c18)).setCell ⟨w.heap.size + 1 + 1, 2, none⟩ (.bool d18)) ((((w19.setCell ⟨w.heap.size + 1 + 1, 0, none⟩ (.bool b18)).setCell ⟨w.heap.size + 1 + 1, 1, none⟩ (.slice p18 n18 c18)).setCell ⟨w.heap.size + 1 + 1, 2, none⟩ (.bool d18)).setCell ⟨w.heap.size + 1 + 1, 3, none⟩ (.slice q18 m18 f18)) := S.kp (g := w.heap.size + 1 + 1) (o := 3) (x := .slice none 0 0) (.slice q18 m18 f18) (by simp) (by simp)
  replace S : St w [(w.heap.size + 1 + 1, 3, .slice q18 m18 f18), (w.heap.size + 1 + 1, 0, .bool b18), (w.heap.size + 1 + 1, 1, .slice p18 n18 c18), (w.heap.size + 1 + 1, 2, .bool d18), (w.heap.size + 1, 0, .bool b2), (w.heap.size + 1, 1, .slice p2 n2 c2), (w.heap.size + 1, 2, .bool b3), (w.heap.size + 1, 3, .slice p3 n3 c3), (w.heap.size, 0, .bool b0), (w.heap.size, 1, .slice p0 n0 c0), (w.heap.size, 2, .bool b1), (w.heap.size, 3, .slice p1 n1 c1)] [(w.heap.size + 1 + 1, 0), (w.heap.size + 1 + 1, 1), (w.heap.size + 1 + 1, 2), (w.heap.size + 1 + 1, 3)] ((((w19.setCell ⟨w.heap.size + 1 + 1, 0, none⟩ (.bool b18)).setCell ⟨w.heap.size + 1 + 1, 1, none⟩ (.slice p18 n18 c18)).setCell ⟨w.heap.size + 1 + 1, 2, none⟩ (.bool d18)).setCell ⟨w.heap.size + 1 + 1, 3, none⟩ (.slice q18 m18 f18)) := S.set (g := w.heap.size + 1 + 1) (o := 3) (.slice q18 m18 f18) (by simp) (by simp <;> omega) (by omega)
  replace S : St w [(w.heap.size + 1 + 1, 0, .bool b18), (w.heap.size + 1 + 1, 1, .slice p18 n18 c18), (w.heap.size + 1 + 1, 2, .bool d18), (w.heap.size + 1 + 1, 3, .slice q18 m18 f18), (w.heap.size + 1, 0, .bool b2), (w.heap.size + 1, 1, .slice p2 n2 c2), (w.heap.size + 1, 2, .bool b3), (w.heap.size + 1, 3, .slice p3 n3 c3), (w.heap.size, 0, .bool b0), (w.heap.size, 1, .slice p0 n0 c0), (w.heap.size, 2, .bool b1), (w.heap.size, 3, .slice p1 n1 c1)] [(w.heap.size + 1 + 1, 0), (w.heap.size + 1 + 1, 1), (w.heap.size + 1 + 1, 2), (w.heap.size + 1 + 1, 3)] ((((w19.setCell ⟨w.heap.size + 1 + 1, 0, none⟩ (.bool b18)).setCell ⟨w.heap.size + 1 + 1, 1, none⟩ (.slice p18 n18 c18)).setCell ⟨w.heap.size + 1 + 1, 2, none⟩ (.bool d18)).setCell ⟨w.heap.size + 1 + 1, 3, none⟩ (.slice q18 m18 f18)) := S.sub (by simp) (by simp)
  replace N18 := Lib.hid (N18.out.kp (((K21.trans K22).trans K23).trans K24))
  clear K21 K22 K23 K24
  have sz25 : ((((w19.setCell ⟨w.heap.size + 1 + 1, 0, none⟩ (.bool b18)).setCell ⟨w.heap.size + 1 + 1, 1, none⟩ (.slice p18 n18 c18)).setCell ⟨w.heap.size + 1 + 1, 2, none⟩ (.bool d18)).setCell ⟨w.heap.size + 1 + 1, 3, none⟩ (.slice q18 m18 f18)).heap.size = w19.heap.size := by simp
  generalize ((((w19.setCell ⟨w.heap.size + 1 + 1, 0, none⟩ (.bool b18)).setCell ⟨w.heap.size + 1 + 1, 1, none⟩ (.slice p18 n18 c18)).setCell ⟨w.heap.size + 1 + 1, 2, none⟩ (.bool d18)).setCell ⟨w.heap.size + 1 + 1, 3, none⟩ (.slice q18 m18 f18)) = W25 at *
  clear l0 l1 l2 lS
  have l0 := S.ltc (g := w.heap.size) (o := 0) (x := .bool b0) (by simp)
  have l1 := S.ltc (g := w.heap.size + 1) (o := 0) (x := .bool b2) (by simp)
  have l2 := S.ltc (g := w.heap.size + 1 + 1) (o := 0) (x := .bool b18) (by simp)
  have lS := S.size
  refine wpAnyH_done (by kernel_rfl) ?_ _
  refine NoPanic.normal ?_
  obtain ⟨e0, e1, e2, e3, e4, e5, e6, e7, e8, e9, e10, e11, h0, i0, h1, i1, h2, i2, h3, i3, G⟩ := id S
  go_wp2_with fail
  clear e0 e1 e2 e3 e4 e5 e6 e7 e8 e9 e10 e11 h0 i0 h1 i1 h2 i2 h3 i3 G
  refine post_Q Tryz.results45 rfl rfl (S.cell (g := w.heap.size + 1 + 1) (o := 0) (x := .bool b18) (by simp)) (S.cell (g := w.heap.size + 1 + 1) (o := 1) (x := .slice p18 n18 c18) (by simp)) (S.cell (g := w.heap.size + 1 + 1) (o := 2) (x := .bool d18) (by simp)) (S.cell (g := w.heap.size + 1 + 1) (o := 3) (x := .slice q18 m18 f18) (by simp)) ⟨_, _, _, _, _, _, _, _, rfl, (N18.out.more (by omega) : NorQ _ _ _ _).eq (by rw [← E18.out, ← E15.out, Rat.sub_eq_add_neg]), S.all⟩

set_option maxHeartbeats 4000000 in
set_option maxRecDepth 100000 in
theorem RMul_g {v u : Value} {q r : Rat} {i j : Nat} {w : World} (hx : RatV w v q i) (hy : RatV w u r j) {t : Rat} (hk : i + j ≤ 100000) (ht : q * r = t) :
    Calls Tryz.prog 47 #[v, u] w (GotQ w t (i + j + 4)) := by
  subst ht
  obtain ⟨b0, p0, n0, c0, b1, p1, n1, c1, zz0, yy0, rfl, hz0, hy0, hq0⟩ := hx
  have Hx := Lib.hid (show RatV w (.agg #[.bool b0, .slice p0 n0 c0, .bool b1, .slice p1 n1 c1]) q i from ⟨_, _, _, _, _, _, _, _, _, _, rfl, hz0, hy0, hq0⟩)
  clear hz0 hy0 hq0
  obtain ⟨b2, p2, n2, c2, b3, p3, n3, c3, zz1, yy1, rfl, hz1, hy1, hq1⟩ := hy
  have Hy := Lib.hid (show RatV w (.agg #[.bool b2, .slice p2 n2 c2, .bool b3, .slice p3 n3 c3]) r j from ⟨_, _, _, _, _, _, _, _, _, _, rfl, hz1, hy1, hq1⟩)
  clear hz1 hy1 hq1
  have S : St w [] [] w := St.start w
  go_enter Tryz.func47, Tryz.ntmps47
  have G := S
  go_wp2_with fail
  clear G
  replace S : St w [(w.heap.size, 0, .bool b0), (w.heap.size, 1, .slice p0 n0 c0), (w.heap.size, 2, .bool b1), (w.heap.size, 3, .slice p1 n1 c1)] [] (w.alloc (.cells #[.bool b0, .slice p0 n0 c0, .bool b1, .slice p1 n1 c1] 46)) := S.box (w.heap.size) [.bool b0, .slice p0 n0 c0, .bool b1, .slice p1 n1 c1] 46 (by simp)
  replace S : St w [(w.heap.size + 1, 0, .bool b2), (w.heap.size + 1, 1, .slice p2 n2 c2), (w.heap.size + 1, 2, .bool b3), (w.heap.size + 1, 3, .slice p3 n3 c3), (w.heap.size, 0, .bool b0), (w.heap.size, 1, .slice p0 n0 c0), (w.heap.size, 2, .bool b1), (w.heap.size, 3, .slice p1 n1 c1)] [] ((w.alloc (.cells #[.bool b0, .slice p0 n0 c0, .bool b1, .slice p1 n1 c1] 46)).alloc (.cells #[.bool b2, .slice p2 n2 c2, .bool b3, .slice p3 n3 c3] 46)) := S.box (w.heap.size + 1) [.bool b2, .slice p2 n2 c2, .bool b3, .slice p3 n3 c3] 46 (by simp)
  replace S : St w [(w.heap.size + 1 + 1, 0, .bool false), (w.heap.size + 1 + 1, 1, .slice none 0 0), (w.heap.size + 1 + 1, 2, .bool false), (w.heap.size + 1 + 1, 3, .slice none 0 0), (w.heap.size + 1, 0, .bool b2), (w.heap.size + 1, 1, .slice p2 n2 c2), (w.heap.size + 1, 2, .bool b3), (w.heap.size + 1, 3, .slice p3 n3 c3), (w.heap.size, 0, .bool b0), (w.heap.size, 1, .slice p0 n0 c0), (w.heap.size, 2, .bool b1), (w.heap.size, 3, .slice p1 n1 c1)] [(w.heap.size + 1 + 1, 0), (w.heap.size + 1 + 1, 1), (w.heap.size + 1 + 1, 2), (w.heap.size + 1 + 1, 3)] (((w.alloc (.cells #[.bool b0, .slice p0 n0 c0, .bool b1, .slice p1 n1 c1] 46)).alloc (.cells #[.bool b2, .slice p2 n2 c2, .bool b3, .slice p3 n3 c3] 46)).alloc (.cells #[.bool false, .slice none 0 0, .bool false, .slice none 0 0] 46)) := S.made (w.heap.size + 1 + 1) [.bool false, .slice none 0 0, .bool false, .slice none 0 0] 46 (by simp)
  replace Hx := Lib.hid (Hx.out.kp (((Kp.of (grown_alloc w (.cells #[.bool b0, .slice p0 n0 c0, .bool b1, .slice p1 n1 c1] 46) none)).trans (Kp.of (grown_alloc ((w.alloc (.cells #[.bool b0, .slice p0 n0 c0, .bool b1, .slice p1 n1 c1] 46))) (.cells #[.bool b2, .slice p2 n2 c2, .bool b3, .slice p3 n3 c3] 46) none))).trans (Kp.of (grown_alloc (((w.alloc (.cells #[.bool b0, .slice p0 n0 c0, .bool b1, .slice p1 n1 c1] 46)).alloc (.cells #[.bool b2, .slice p2 n2 c2, .bool b3, .slice p3 n3 c3] 46))) (.cells #[.bool false, .slice none 0 0, .bool false, .slice none 0 0] 46) none))))
  replace Hy := Lib.hid (Hy.out.kp (((Kp.of (grown_alloc w (.cells #[.bool b0, .slice p0 n0 c0, .bool b1, .slice p1 n1 c1] 46) none)).trans (Kp.of (grown_alloc ((w.alloc (.cells #[.bool b0, .slice p0 n0 c0, .bool b1, .slice p1 n1 c1] 46))) (.cells #[.bool b2, .slice p2 n2 c2, .bool b3, .slice p3 n3 c3] 46) none))).trans (Kp.of (grown_alloc (((w.alloc (.cells #[.bool b0, .slice p0 n0 c0, .bool b1, .slice p1 n1 c1] 46)).alloc (.cells #[.bool b2, .slice p2 n2 c2, .bool b3, .slice p3 n3 c3] 46))) (.cells #[.bool false, .slice none 0 0, .bool false, .slice none 0 0] 46) none))))
  have sz10 : (((w.alloc (.cells #[.bool b0, .slice p0 n0 c0, .bool b1, .slice p1 n1 c1] 46)).alloc (.cells #[.bool b2, .slice p2 n2 c2, .bool b3, .slice p3 n3 c3] 46)).alloc (.cells #[.bool false, .slice none 0 0, .bool false, .slice none 0 0] 46)).heap.size = w.heap.size + 3 := by simp
  generalize (((w.alloc (.cells #[.bool b0, .slice p0 n0 c0, .bool b1, .slice p1 n1 c1] 46)).alloc (.cells #[.bool b2, .slice p2 n2 c2, .bool b3, .slice p3 n3 c3] 46)).alloc (.cells #[.bool false, .slice none 0 0, .bool false, .slice none 0 0] 46)) = W10 at *
  go_at_call 95
  with_reducible refine (Parts_g Hx.out (by omega)).mono ?_
  rintro e w12 ⟨b11, p11, n11, c11, d11, q11, m11, f11, z11, y11, rfl, h, h', y0, eq, g⟩
  clear Hx
  replace Hy := Lib.hid (Hy.out.kp (Kp.of g))
  have Y11 := Lib.hid y0
  have Q11 := Lib.hid eq
  have N11 := Lib.hid (h)
  have M11 := Lib.hid (h')
  replace S := S.step g
  have lg12 := g.size
  clear g h h' y0 eq
  have l0 := S.ltc (g := w.heap.size) (o := 0) (x := .bool b0) (by simp)
  have l1 := S.ltc (g := w.heap.size + 1) (o := 0) (x := .bool b2) (by simp)
  have l2 := S.ltc (g := w.heap.size + 1 + 1) (o := 0) (x := .bool false) (by simp)
  have lS := S.size
  obtain ⟨e0, e1, e2, e3, e4, e5, e6, e7, e8, e9, e10, e11, h0, i0, h1, i1, h2, i2, h3, i3, G⟩ := id S
  go_wp2_with fail
  clear e0 e1 e2 e3 e4 e5 e6 e7 e8 e9 e10 e11 h0 i0 h1 i1 h2 i2 h3 i3 G
  replace S : St w [(w12.heap.size, 0, .bool b11), (w12.heap.size, 1, .slice p11 n11 c11), (w.heap.size + 1 + 1, 0, .bool false), (w.heap.size + 1 + 1, 1, .slice none 0 0), (w.heap.size + 1 + 1, 2, .bool false), (w.heap.size + 1 + 1, 3, .slice none 0 0), (w.heap.size + 1, 0, .bool b2), (w.heap.size + 1, 1, .slice p2 n2 c2), (w.heap.size + 1, 2, .bool b3), (w.heap.size + 1, 3, .slice p3 n3 c3), (w.heap.size, 0, .bool b0), (w.heap.size, 1, .slice p0 n0 c0), (w.heap.size, 2, .bool b1), (w.heap.size, 3, .slice p1 n1 c1)] [(w12.heap.size, 0), (w12.heap.size, 1), (w.heap.size + 1 + 1, 0), (w.heap.size + 1 + 1, 1), (w.heap.size + 1 + 1, 2), (w.heap.size + 1 + 1, 3)] (w12.alloc (.cells #[.bool b11, .slice p11 n11 c11] 24)) := S.made (w12.heap.size) [.bool b11, .slice p11 n11 c11] 24 (by simp)
  replace S : St w [(w12.heap.size + 1, 0, .bool d11), (w12.heap.size + 1, 1, .slice q11 m11 f11), (w12.heap.size, 0, .bool b11), (w12.heap.size, 1, .slice p11 n11 c11), (w.heap.size + 1 + 1, 0, .bool false), (w.heap.size + 1 + 1, 1, .slice none 0 0), (w.heap.size + 1 + 1, 2, .bool false), (w.heap.size + 1 + 1, 3, .slice none 0 0), (w.heap.size + 1, 0, .bool b2), (w.heap.size + 1, 1, .slice p2 n2 c2), (w.heap.size + 1, 2, .bool b3), (w.heap.size + 1, 3, .slice p3 n3 c3), (w.heap.size, 0, .bool b0), (w.heap.size, 1, .slice p0 n0 c0), (w.heap.size, 2, .bool b1), (w.heap.size, 3, .slice p1 n1 c1)] [(w12.heap.size + 1, 0), (w12.heap.size + 1, 1), (w12.heap.size, 0), (w12.heap.size, 1), (w.heap.size + 1 + 1, 0), (w.heap.size + 1 + 1, 1), (w.heap.size + 1 + 1, 2), (w.heap.size + 1 + 1, 3)] ((w12.alloc (.cells #[.bool b11, .slice p11 n11 c11] 24)).alloc (.cells #[.bool d11, .slice q11 m11 f11] 24)) := S.made (w12.heap.size + 1) [.bool d11, .slice q11 m11 f11] 24 (by simp)
  replace Hy := Lib.hid (Hy.out.kp ((Kp.of (grown_alloc w12 (.cells #[.bool b11, .slice p11 n11 c11] 24) none)).trans (Kp.of (grown_alloc ((w12.alloc (.cells #[.bool b11, .slice p11 n11 c11] 24))) (.cells #[.bool d11, .slice q11 m11 f11] 24) none))))
  replace N11 := Lib.hid (N11.out.kp ((Kp.of (grown_alloc w12 (.cells #[.bool b11, .slice p11 n11 c11] 24) none)).trans (Kp.of (grown_alloc ((w12.alloc (.cells #[.bool b11, .slice p11 n11 c11] 24))) (.cells #[.bool d11, .slice q11 m11 f11] 24) none))))
  replace M11 := Lib.hid (M11.out.kp ((Kp.of (grown_alloc w12 (.cells #[.bool b11, .slice p11 n11 c11] 24) none)).trans (Kp.of (grown_alloc ((w12.alloc (.cells #[.bool b11, .slice p11 n11 c11] 24))) (.cells #[.bool d11, .slice q11 m11 f11] 24) none))))
  have sz13 : ((w12.alloc (.cells #[.bool b11, .slice p11 n11 c11] 24)).alloc (.cells #[.bool d11, .slice q11 m11 f11] 24)).heap.size = w12.heap.size + 2 := by simp
  generalize ((w12.alloc (.cells #[.bool b11, .slice p11 n11 c11] 24)).alloc (.cells #[.bool d11, .slice q11 m11 f11] 24)) = W13 at *
  go_at_call 95
  with_reducible refine (Parts_g Hy.out (by omega)).mono ?_
  rintro e w15 ⟨b14, p14, n14, c14, d14, q14, m14, f14, z14, y14, rfl, h, h', y0, eq, g⟩
  clear Hy
  replace N11 := Lib.hid (N11.out.kp (Kp.of g))
  replace M11 := Lib.hid (M11.out.kp (Kp.of g))
  have Y14 := Lib.hid y0
  have Q14 := Lib.hid eq
  have N14 := Lib.hid (h)
  have M14 := Lib.hid (h')
  replace S := S.step g
  have lg15 := g.size
  clear g h h' y0 eq l0 l1 l2 lS
  have l0 := S.ltc (g := w.heap.size) (o := 0) (x := .bool b0) (by simp)
  have l1 := S.ltc (g := w.heap.size + 1) (o := 0) (x := .bool b2) (by simp)
  have l2 := S.ltc (g := w.heap.size + 1 + 1) (o := 0) (x := .bool false) (by simp)
  have l3 := S.ltc (g := w12.heap.size) (o := 0) (x := .bool b11) (by simp)
  have l4 := S.ltc (g := w12.heap.size + 1) (o := 0) (x := .bool d11) (by simp)
  have lS := S.size
  obtain ⟨e0, e1, e2, e3, e4, e5, e6, e7, e8, e9, e10, e11, e12, e13, e14, e15, h0, i0, h1, i1, h2, i2, h3, i3, h4, i4, h5, i5, h6, i6, h7, i7, G⟩ := id S
  go_wp2_with fail
  clear e0 e1 e2 e3 e4 e5 e6 e7 e8 e9 e10 e11 e12 e13 e14 e15 h0 i0 h1 i1 h2 i2 h3 i3 h4 i4 h5 i5 h6 i6 h7 i7 G
  replace S : St w [(w15.heap.size, 0, .bool b14), (w15.heap.size, 1, .slice p14 n14 c14), (w12.heap.size + 1, 0, .bool d11), (w12.heap.size + 1, 1, .slice q11 m11 f11), (w12.heap.size, 0, .bool b11), (w12.heap.size, 1, .slice p11 n11 c11), (w.heap.size + 1 + 1, 0, .bool false), (w.heap.size + 1 + 1, 1, .slice none 0 0), (w.heap.size + 1 + 1, 2, .bool false), (w.heap.size + 1 + 1, 3, .slice none 0 0), (w.heap.size + 1, 0, .bool b2), (w.heap.size + 1, 1, .slice p2 n2 c2), (w.heap.size + 1, 2, .bool b3), (w.heap.size + 1, 3, .slice p3 n3 c3), (w.heap.size, 0, .bool b0), (w.heap.size, 1, .slice p0 n0 c0), (w.heap.size, 2, .bool b1), (w.heap.size, 3, .slice p1 n1 c1)] [(w15.heap.size, 0), (w15.heap.size, 1), (w12.heap.size + 1, 0), (w12.heap.size + 1, 1), (w12.heap.size, 0), (w12.heap.size, 1), (w.heap.size + 1 + 1, 0), (w.heap.size + 1 + 1, 1), (w.heap.size + 1 + 1, 2), (w.heap.size + 1 + 1, 3)] (w15.alloc (.cells #[.bool b14, .slice p14 n14 c14] 24)) := S.made (w15.heap.size) [.bool b14, .slice p14 n14 c14] 24 (by simp)
  replace S : St w [(w15.heap.size + 1, 0, .bool d14), (w15.heap.size + 1, 1, .slice q14 m14 f14), (w15.heap.size, 0, .bool b14), (w15.heap.size, 1, .slice p14 n14 c14), (w12.heap.size + 1, 0, .bool d11), (w12.heap.size + 1, 1, .slice q11 m11 f11), (w12.heap.size, 0, .bool b11), (w12.heap.size, 1, .slice p11 n11 c11), (w.heap.size + 1 + 1, 0, .bool false), (w.heap.size + 1 + 1, 1, .slice none 0 0), (w.heap.size + 1 + 1, 2, .bool false), (w.heap.size + 1 + 1, 3, .slice none 0 0), (w.heap.size + 1, 0, .bool b2), (w.heap.size + 1, 1, .slice p2 n2 c2), (w.heap.size + 1, 2, .bool b3), (w.heap.size + 1, 3, .slice p3 n3 c3), (w.heap.size, 0, .bool b0), (w.heap.size, 1, .slice p0 n0 c0), (w.heap.size, 2, .bool b1), (w.heap.size, 3, .slice p1 n1 c1)] [(w15.heap.size + 1, 0), (w15.heap.size + 1, 1), (w15.heap.size, 0), (w15.heap.size, 1), (w12.heap.size + 1, 0), (w12.heap.size + 1, 1), (w12.heap.size, 0), (w12.heap.size, 1), (w.heap.size + 1 + 1, 0), (w.heap.size + 1 + 1, 1), (w.heap.size + 1 + 1, 2), (w.heap.size + 1 + 1, 3)] ((w15.alloc (.cells #[.bool b14, .slice p14 n14 c14] 24)).alloc (.cells #[.bool d14, .slice q14 m14 f14] 24)) := S.made (w15.heap.size + 1) [.bool d14, .slice q14 m14 f14] 24 (by simp)
  replace N11 := Lib.hid (N11.out.kp ((Kp.of (grown_alloc w15 (.cells #[.bool b14, .slice p14 n14 c14] 24) none)).trans (Kp.of (grown_alloc ((w15.alloc (.cells #[.bool b14, .slice p14 n14 c14] 24))) (.cells #[.bool d14, .slice q14 m14 f14] 24) none))))
  replace M11 := Lib.hid (M11.out.kp ((Kp.of (grown_alloc w15 (.cells #[.bool b14, .slice p14 n14 c14] 24) none)).trans (Kp.of (grown_alloc ((w15.alloc (.cells #[.bool b14, .slice p14 n14 c14] 24))) (.cells #[.bool d14, .slice q14 m14 f14] 24) none))))
  replace N14 := Lib.hid (N14.out.kp ((Kp.of (grown_alloc w15 (.cells #[.bool b14, .slice p14 n14 c14] 24) none)).trans (Kp.of (grown_alloc ((w15.alloc (.cells #[.bool b14, .slice p14 n14 c14] 24))) (.cells #[.bool d14, .slice q14 m14 f14] 24) none))))
  replace M14 := Lib.hid (M14.out.kp ((Kp.of (grown_alloc w15 (.cells #[.bool b14, .slice p14 n14 c14] 24) none)).trans (Kp.of (grown_alloc ((w15.alloc (.cells #[.bool b14, .slice p14 n14 c14] 24))) (.cells #[.bool d14, .slice q14 m14 f14] 24) none))))
  have sz16 : ((w15.alloc (.cells #[.bool b14, .slice p14 n14 c14] 24)).alloc (.cells #[.bool d14, .slice q14 m14 f14] 24)).heap.size = w15.heap.size + 2 := by simp
  generalize ((w15.alloc (.cells #[.bool b14, .slice p14 n14 c14] 24)).alloc (.cells #[.bool d14, .slice q14 m14 f14] 24)) = W16 at *
  have T0 : Cl [(w12.heap.size, 0, .bool b11), (w12.heap.size, 1, .slice p11 n11 c11), (w15.heap.size, 0, .bool b14), (w15.heap.size, 1, .slice p14 n14 c14), (w12.heap.size + 1, 0, .bool d11), (w12.heap.size + 1, 1, .slice q11 m11 f11), (w15.heap.size + 1, 0, .bool d14), (w15.heap.size + 1, 1, .slice q14 m14 f14)] W16 := S.cl (by simp)
  refine wp_region_noPanic ?_
  refine wp_region_held_drew (S := fun w' => w'.cell? ⟨w12.heap.size, 0, none⟩ = some (.bool b11) ∧ w'.cell? ⟨w12.heap.size, 1, none⟩ = some (.slice p11 n11 c11) ∧ w'.cell? ⟨w15.heap.size, 0, none⟩ = some (.bool b14) ∧ w'.cell? ⟨w15.heap.size, 1, none⟩ = some (.slice p14 n14 c14) ∧ w'.cell? ⟨w12.heap.size + 1, 0, none⟩ = some (.bool d11) ∧ w'.cell? ⟨w12.heap.size + 1, 1, none⟩ = some (.slice q11 m11 f11) ∧ w'.cell? ⟨w15.heap.size + 1, 0, none⟩ = some (.bool d14) ∧ w'.cell? ⟨w15.heap.size + 1, 1, none⟩ = some (.slice q14 m14 f14) ∧ True) (by kernel_rfl) (by exact Cl.step (cs := [(w12.heap.size, 0, .bool b11), (w12.heap.size, 1, .slice p11 n11 c11), (w15.heap.size, 0, .bool b14), (w15.heap.size, 1, .slice p14 n14 c14), (w12.heap.size + 1, 0, .bool d11), (w12.heap.size + 1, 1, .slice q11 m11 f11), (w15.heap.size + 1, 0, .bool d14), (w15.heap.size + 1, 1, .slice q14 m14 f14)]) (grown_drew _ _) T0) (fun hHeld => ?_)
  change wpAnyH _ _ _ _ _ 8 #[false, false, false, false, false, false, false, false] _ _
  replace S := S.step (grown_drew W16 none)
  replace N11 := Lib.hid (N11.out.kp (Kp.of (grown_drew W16 none)))
  replace M11 := Lib.hid (M11.out.kp (Kp.of (grown_drew W16 none)))
  replace N14 := Lib.hid (N14.out.kp (Kp.of (grown_drew W16 none)))
  replace M14 := Lib.hid (M14.out.kp (Kp.of (grown_drew W16 none)))
  have lg17 := (grown_drew W16 none).size
  clear T0
  generalize W16.drew = wr17 at *
  clear l0 l1 l2 l3 l4 lS
  have l0 := S.ltc (g := w.heap.size) (o := 0) (x := .bool b0) (by simp)
  have l1 := S.ltc (g := w.heap.size + 1) (o := 0) (x := .bool b2) (by simp)
  have l2 := S.ltc (g := w.heap.size + 1 + 1) (o := 0) (x := .bool false) (by simp)
  have l3 := S.ltc (g := w12.heap.size) (o := 0) (x := .bool b11) (by simp)
  have l4 := S.ltc (g := w12.heap.size + 1) (o := 0) (x := .bool d11) (by simp)
  have l5 := S.ltc (g := w15.heap.size) (o := 0) (x := .bool b14) (by simp)
  have l6 := S.ltc (g := w15.heap.size + 1) (o := 0) (x := .bool d14) (by simp)
  have lS := S.size
  refine wpAnyH_take (i := 0) (oi := _) (v := ?vq18) rfl (by kernel_rfl) (by kernel_rfl) (by kernel_rfl) (fun _ _ _ h => h) (Or.inl ⟨by rfl, ?hyq18⟩) (by assumption) ?restq18
  case hyq18 => (intro w hSw; (try dsimp only at hSw); go_simp; try with_reducible rfl)
  try simp only [Act.put, List.getElem_toArray, List.getElem_cons_zero, List.setIfInBounds_toArray, List.set_cons_zero, List.set_cons_succ]
  refine wpAnyH_take (i := 1) (oi := _) (v := ?vq19) rfl (by kernel_rfl) (by kernel_rfl) (by kernel_rfl) (fun _ _ _ h => h) (Or.inl ⟨by rfl, ?hyq19⟩) (by assumption) ?restq19
  case hyq19 => (intro w hSw; (try dsimp only at hSw); go_simp; try with_reducible rfl)
  try simp only [Act.put, List.getElem_toArray, List.getElem_cons_zero, List.getElem_cons_succ, List.setIfInBounds_toArray, List.set_cons_zero, List.set_cons_succ]
  refine wpAnyH_take (i := 3) (oi := _) (v := ?vq20) rfl (by kernel_rfl) (by kernel_rfl) (by kernel_rfl) (fun _ _ _ h => h) (Or.inl ⟨by rfl, ?hyq20⟩) (by assumption) ?restq20
  case hyq20 => (intro w hSw; (try dsimp only at hSw); go_simp; try with_reducible rfl)
  try simp only [Act.put, List.getElem_toArray, List.getElem_cons_zero, List.getElem_cons_succ, List.setIfInBounds_toArray, List.set_cons_zero, List.set_cons_succ]
  refine wpAnyH_take (i := 4) (oi := _) (v := ?vq21) rfl (by kernel_rfl) (by kernel_rfl) (by kernel_rfl) (fun _ _ _ h => h) (Or.inl ⟨by rfl, ?hyq21⟩) (by assumption) ?restq21
  case hyq21 => (intro w hSw; (try dsimp only at hSw); go_simp; try with_reducible rfl)
  try simp only [Act.put, List.getElem_toArray, List.getElem_cons_zero, List.getElem_cons_succ, List.setIfInBounds_toArray, List.set_cons_zero, List.set_cons_succ]
  obtain ⟨z23, ez23⟩ : ∃ t : Int, z11 * z14 = t := ⟨_, rfl⟩
  have E23 := Lib.hid ez23
  clear ez23
  refine wpAnyH_ready (rs := [2]) (by kernel_rfl) (by simp) ?_
  refine AllReadyH.cons (o := _) rfl (fun K hK => ?_) AllReadyH.nil
  go_simp
  go_at_call 65
  with_reducible refine (Mul_g N11.out N14.out (by omega) E23.out).mono ?_
  rintro e w24 ⟨b23, p23, n23, c23, rfl, h, g⟩
  clear N11
  replace M11 := Lib.hid (M11.out.kp (Kp.of g))
  clear N14
  replace M14 := Lib.hid (M14.out.kp (Kp.of g))
  have N23 := Lib.hid (h)
  replace S := S.step g
  have lg24 := g.size
  clear l0 l1 l2 l3 l4 l5 l6 lS
  have l0 := S.ltc (g := w.heap.size) (o := 0) (x := .bool b0) (by simp)
  have l1 := S.ltc (g := w.heap.size + 1) (o := 0) (x := .bool b2) (by simp)
  have l2 := S.ltc (g := w.heap.size + 1 + 1) (o := 0) (x := .bool false) (by simp)
  have l3 := S.ltc (g := w12.heap.size) (o := 0) (x := .bool b11) (by simp)
  have l4 := S.ltc (g := w12.heap.size + 1) (o := 0) (x := .bool d11) (by simp)
  have l5 := S.ltc (g := w15.heap.size) (o := 0) (x := .bool b14) (by simp)
  have l6 := S.ltc (g := w15.heap.size + 1) (o := 0) (x := .bool d14) (by simp)
  have lS := S.size
  go_wp2_with fail
  refine hK.out _ _ ?hSq22 (fun hHeld => ?_)
  case hSq22 => exact Cl.step (cs := [(w12.heap.size, 0, .bool b11), (w12.heap.size, 1, .slice p11 n11 c11), (w15.heap.size, 0, .bool b14), (w15.heap.size, 1, .slice p14 n14 c14), (w12.heap.size + 1, 0, .bool d11), (w12.heap.size + 1, 1, .slice q11 m11 f11), (w15.heap.size + 1, 0, .bool d14), (w15.heap.size + 1, 1, .slice q14 m14 f14)]) g (by assumption)
  clear hK K g h
  try simp only [List.setIfInBounds_toArray, List.set_cons_zero, List.set_cons_succ]
  obtain ⟨z26, ez26⟩ : ∃ t : Int, y11 * y14 = t := ⟨_, rfl⟩
  have E26 := Lib.hid ez26
  clear ez26
  refine wpAnyH_ready (rs := [5]) (by kernel_rfl) (by simp) ?_
  refine AllReadyH.cons (o := _) rfl (fun K hK => ?_) AllReadyH.nil
  go_simp
  go_at_call 65
  with_reducible refine (Mul_g M11.out M14.out (by omega) E26.out).mono ?_
  rintro e w27 ⟨b26, p26, n26, c26, rfl, h, g⟩
  clear M11 M14
  replace N23 := Lib.hid (N23.out.kp (Kp.of g))
  have N26 := Lib.hid (h)
  replace S := S.step g
  have lg27 := g.size
  clear l0 l1 l2 l3 l4 l5 l6 lS
  have l0 := S.ltc (g := w.heap.size) (o := 0) (x := .bool b0) (by simp)
  have l1 := S.ltc (g := w.heap.size + 1) (o := 0) (x := .bool b2) (by simp)
  have l2 := S.ltc (g := w.heap.size + 1 + 1) (o := 0) (x := .bool false) (by simp)
  have l3 := S.ltc (g := w12.heap.size) (o := 0) (x := .bool b11) (by simp)
  have l4 := S.ltc (g := w12.heap.size + 1) (o := 0) (x := .bool d11) (by simp)
  have l5 := S.ltc (g := w15.heap.size) (o := 0) (x := .bool b14) (by simp)
  have l6 := S.ltc (g := w15.heap.size + 1) (o := 0) (x := .bool d14) (by simp)
  have lS := S.size
  go_wp2_with fail
  refine hK.out _ _ ?hSq25 (fun hHeld => ?_)
  case hSq25 => exact Cl.step (cs := [(w12.heap.size, 0, .bool b11), (w12.heap.size, 1, .slice p11 n11 c11), (w15.heap.size, 0, .bool b14), (w15.heap.size, 1, .slice p14 n14 c14), (w12.heap.size + 1, 0, .bool d11), (w12.heap.size + 1, 1, .slice q11 m11 f11), (w15.heap.size + 1, 0, .bool d14), (w15.heap.size + 1, 1, .slice q14 m14 f14)]) g (by assumption)
  clear hK K g h
  try simp only [List.setIfInBounds_toArray, List.set_cons_zero, List.set_cons_succ]
  obtain ⟨z29, ez29⟩ : ∃ t : Rat, Rat.divInt z23 z26 = t := ⟨_, rfl⟩
  have E29 := Lib.hid ez29
  clear ez29
  refine wpAnyH_ready (rs := [6]) (by kernel_rfl) (by simp) ?_
  refine AllReadyH.cons (o := _) rfl (fun K hK => ?_) AllReadyH.nil
  go_simp
  go_at_call 84
  with_reducible refine (Lowest_g (k := ((i + 2) + (j + 2))) N23.out.i N26.out.i (by omega) (by rw [← E26.out]; exact Int.ne_of_gt (Int.mul_pos Y11.out Y14.out)) E29.out).mono ?_
  rintro e w30 ⟨b29, p29, n29, c29, d29, q29, m29, f29, rfl, h, g⟩
  clear N23 N26
  have N29 := Lib.hid (h)
  replace S := S.step g
  have lg30 := g.size
  clear l0 l1 l2 l3 l4 l5 l6 lS
  have l0 := S.ltc (g := w.heap.size) (o := 0) (x := .bool b0) (by simp)
  have l1 := S.ltc (g := w.heap.size + 1) (o := 0) (x := .bool b2) (by simp)
  have l2 := S.ltc (g := w.heap.size + 1 + 1) (o := 0) (x := .bool false) (by simp)
  have l3 := S.ltc (g := w12.heap.size) (o := 0) (x := .bool b11) (by simp)
  have l4 := S.ltc (g := w12.heap.size + 1) (o := 0) (x := .bool d11) (by simp)
  have l5 := S.ltc (g := w15.heap.size) (o := 0) (x := .bool b14) (by simp)
  have l6 := S.ltc (g := w15.heap.size + 1) (o := 0) (x := .bool d14) (by simp)
  have lS := S.size
  go_wp2_with fail
  refine hK.out _ _ ?hSq28 (fun hHeld => ?_)
  case hSq28 => exact Cl.step (cs := [(w12.heap.size, 0, .bool b11), (w12.heap.size, 1, .slice p11 n11 c11), (w15.heap.size, 0, .bool b14), (w15.heap.size, 1, .slice p14 n14 c14), (w12.heap.size + 1, 0, .bool d11), (w12.heap.size + 1, 1, .slice q11 m11 f11), (w15.heap.size + 1, 0, .bool d14), (w15.heap.size + 1, 1, .slice q14 m14 f14)]) g (by assumption)
  clear hK K g h
  try simp only [List.setIfInBounds_toArray, List.set_cons_zero, List.set_cons_succ]
  obtain ⟨e0, e1, e2, e3, e4, e5, e6, e7, e8, e9, e10, e11, e12, e13, e14, e15, e16, e17, e18, e19, h0, i0, h1, i1, h2, i2, h3, i3, h4, i4, h5, i5, h6, i6, h7, i7, h8, i8, h9, i9, h10, i10, h11, i11, G⟩ := id S
  refine wpAnyH_ready (rs := [7]) (by kernel_rfl) (by simp) ?_
  refine AllReadyH.cons (o := _) rfl (fun K hK => ?_) AllReadyH.nil
  go_simp
  refine hK.out _ _ ?hSq31 (fun hHeld => ?_)
  case hSq31 => exact (Cl.set (cs := [(w12.heap.size, 0, .bool b11), (w12.heap.size, 1, .slice p11 n11 c11), (w15.heap.size, 0, .bool b14), (w15.heap.size, 1, .slice p14 n14 c14), (w12.heap.size + 1, 0, .bool d11), (w12.heap.size + 1, 1, .slice q11 m11 f11), (w15.heap.size + 1, 0, .bool d14), (w15.heap.size + 1, 1, .slice q14 m14 f14)]) (g := w.heap.size + 1 + 1) (o := 3) (u := .slice q29 m29 f29) (Cl.set (cs := [(w12.heap.size, 0, .bool b11), (w12.heap.size, 1, .slice p11 n11 c11), (w15.heap.size, 0, .bool b14), (w15.heap.size, 1, .slice p14 n14 c14), (w12.heap.size + 1, 0, .bool d11), (w12.heap.size + 1, 1, .slice q11 m11 f11), (w15.heap.size + 1, 0, .bool d14), (w15.heap.size + 1, 1, .slice q14 m14 f14)]) (g := w.heap.size + 1 + 1) (o := 2) (u := .bool d29) (Cl.set (cs := [(w12.heap.size, 0, .bool b11), (w12.heap.size, 1, .slice p11 n11 c11), (w15.heap.size, 0, .bool b14), (w15.heap.size, 1, .slice p14 n14 c14), (w12.heap.size + 1, 0, .bool d11), (w12.heap.size + 1, 1, .slice q11 m11 f11), (w15.heap.size + 1, 0, .bool d14), (w15.heap.size + 1, 1, .slice q14 m14 f14)]) (g := w.heap.size + 1 + 1) (o := 1) (u := .slice p29 n29 c29) (Cl.set (cs := [(w12.heap.size, 0, .bool b11), (w12.heap.size, 1, .slice p11 n11 c11), (w15.heap.size, 0, .bool b14), (w15.heap.size, 1, .slice p14 n14 c14), (w12.heap.size + 1, 0, .bool d11), (w12.heap.size + 1, 1, .slice q11 m11 f11), (w15.heap.size + 1, 0, .bool d14), (w15.heap.size + 1, 1, .slice q14 m14 f14)]) (g := w.heap.size + 1 + 1) (o := 0) (u := .bool b29) (by assumption) (by simp <;> omega)) (by simp <;> omega)) (by simp <;> omega)) (by simp <;> omega))
  clear hK K
  try simp only [List.setIfInBounds_toArray, List.set_cons_zero, List.set_cons_succ]
  clear e0 e1 e2 e3 e4 e5 e6 e7 e8 e9 e10 e11 e12 e13 e14 e15 e16 e17 e18 e19 h0 i0 h1 i1 h2 i2 h3 i3 h4 i4 h5 i5 h6 i6 h7 i7 h8 i8 h9 i9 h10 i10 h11 i11 G
  have K32 : Kp w30 (w30.setCell ⟨w.heap.size + 1 + 1, 0, none⟩ (.bool b29)) := S.kp (g := w.heap.size + 1 + 1) (o := 0) (x := .bool false) (.bool b29) (by simp) (by simp)
  replace S : St w [(w.heap.size + 1 + 1, 0, .bool b29), (w15.heap.size + 1, 0, .bool d14), (w15.heap.size + 1, 1, .slice q14 m14 f14), (w15.heap.size, 0, .bool b14), (w15.heap.size, 1, .slice p14 n14 c14), (w12.heap.size + 1, 0, .bool d11), (w12.heap.size + 1, 1, .slice q11 m11 f11), (w12.heap.size, 0, .bool b11), (w12.heap.size, 1, .slice p11 n11 c11), (w.heap.size + 1 + 1, 1, .slice none 0 0), (w.heap.size + 1 + 1, 2, .bool false), (w.heap.size + 1 + 1, 3, .slice none 0 0), (w.heap.size + 1, 0, .bool b2), (w.heap.size + 1, 1, .slice p2 n2 c2), (w.heap.size + 1, 2, .bool b3), (w.heap.size + 1, 3, .slice p3 n3 c3), (w.heap.size, 0, .bool b0), (w.heap.size, 1, .slice p0 n0 c0), (w.heap.size, 2, .bool b1), (w.heap.size, 3, .slice p1 n1 c1)] [(w15.heap.size + 1, 0), (w15.heap.size + 1, 1), (w15.heap.size, 0), (w15.heap.size, 1), (w12.heap.size + 1, 0), (w12.heap.size + 1, 1), (w12.heap.size, 0), (w12.heap.size, 1), (w.heap.size + 1 + 1, 0), (w.heap.size + 1 + 1, 1), (w.heap.size + 1 + 1, 2), (w.heap.size + 1 + 1, 3)] (w30.setCell ⟨w.heap.size + 1 + 1, 0, none⟩ (.bool b29)) := S.set (g := w.heap.size + 1 + 1) (o := 0) (.bool b29) (by simp) (by simp <;> omega) (by omega)
  have K33 : Kp (w30.setCell ⟨w.heap.size + 1 + 1, 0, none⟩ (.bool b29)) ((w30.setCell ⟨w.heap.size + 1 + 1, 0, none⟩ (.bool b29)).setCell ⟨w.heap.size + 1 + 1, 1, none⟩ (.slice p29 n29 c29)) := S.kp (g := w.heap.size + 1 + 1) (o := 1) (x := .slice none 0 0) (.slice p29 n29 c29) (by simp) (by simp)
  replace S : St w [(w.heap.size + 1 + 1, 1, .slice p29 n29 c29), (w15.heap.size + 1, 0, .bool d14), (w15.heap.size + 1, 1, .slice q14 m14 f14), (w15.heap.size, 0, .bool b14), (w15.heap.size, 1, .slice p14 n14 c14), (w12.heap.size + 1, 0, .bool d11), (w12.heap.size + 1, 1, .slice q11 m11 f11), (w12.heap.size, 0, .bool b11), (w12.heap.size, 1, .slice p11 n11 c11), (w.heap.size + 1 + 1, 0, .bool b29), (w.heap.size + 1 + 1, 2, .bool false), (w.heap.size + 1 + 1, 3, .slice none 0 0), (w.heap.size + 1, 0, .bool b2), (w.heap.size + 1, 1, .slice p2 n2 c2), (w.heap.size + 1, 2, .bool b3), (w.heap.size + 1, 3, .slice p3 n3 c3), (w.heap.size, 0, .bool b0), (w.heap.size, 1, .slice p0 n0 c0), (w.heap.size, 2, .bool b1), (w.heap.size, 3, .slice p1 n1 c1)] [(w15.heap.size + 1, 0), (w15.heap.size + 1, 1), (w15.heap.size, 0), (w15.heap.size, 1), (w12.heap.size + 1, 0), (w12.heap.size + 1, 1), (w12.heap.size, 0), (w12.heap.size, 1), (w.heap.size + 1 + 1, 0), (w.heap.size + 1 + 1, 1), (w.heap.size + 1 + 1, 2), (w.heap.size + 1 + 1, 3)] ((w30.setCell ⟨w.heap.size + 1 + 1, 0, none⟩ (.bool b29)).setCell ⟨w.heap.size + 1 + 1, 1, none⟩ (.slice p29 n29 c29)) := S.set (g := w.heap.size + 1 + 1) (o := 1) (.slice p29 n29 c29) (by simp) (by simp <;> omega) (by omega)
  have K34 : Kp ((w30.setCell ⟨w.heap.size + 1 + 1, 0, none⟩ (.bool b29)).setCell ⟨w.heap.size + 1 + 1, 1, none⟩ (.slice p29 n29 c29)) (((w30.setCell ⟨w.heap.size + 1 + 1, 0, none⟩ (.bool b29)).setCell ⟨w.heap.size + 1 + 1, 1, none⟩ (.slice p29 n29 c29)).setCell ⟨w.heap.size + 1 + 1, 2, none⟩ (.bool d29)) := S.kp (g := w.heap.size + 1 + 1) (o := 2) (x := .bool false) (.bool d29) (by simp) (by simp)
  replace S : St w [(w.heap.size + 1 + 1, 2, .bool d29), (w15.heap.size + 1, 0, .bool d14), (w15.heap.size + 1, 1, .slice q14 m14 f14), (w15.heap.size, 0, .bool b14), (w15.heap.size, 1, .slice p14 n14 c14), (w12.heap.size + 1, 0, .bool d11), (w12.heap.size + 1, 1, .slice q11 m11 f11), (w12.heap.size, 0, .bool b11), (w12.heap.size, 1, .slice p11 n11 c11), (w.heap.size + 1 + 1, 0, .bool b29), (w.heap.size + 1 + 1, 1, .slice p29 n29 c29), (w.heap.size + 1 + 1, 3, .slice none 0 0), (w.heap.size + 1, 0, .bool b2), (w.heap.size + 1, 1, .slice p2 n2 c2), (w.heap.size + 1, 2, .bool b3), (w.heap.size + 1, 3, .slice p3 n3 c3), (w.heap.size, 0, .bool b0), (w.heap.size, 1, .slice p0 n0 c0), (w.heap.size, 2, .bool b1), (w.heap.size, 3, .slice p1 n1 c1)] [(w15.heap.size + 1, 0), (w15.heap.size + 1, 1), (w15.heap.size, 0), (w15.heap.size, 1), (w12.heap.size + 1, 0), (w12.heap.size + 1, 1), (w12.heap.size, 0), (w12.heap.size, 1), (w.heap.size + 1 + 1, 0), (w.heap.size + 1 + 1, 1), (w.heap.size + 1 + 1, 2), (w.heap.size + 1 + 1, 3)] (((w30.setCell ⟨w.heap.size + 1 + 1, 0, none⟩ (.bool b29)).setCell ⟨w.heap.size + 1 + 1, 1, none⟩ (.slice p29 n29 c29)).setCell ⟨w.heap.size + 1 + 1, 2, none⟩ (.bool d29)) := S.set (g := w.heap.size + 1 + 1) (o := 2) (.bool d29) (by simp) (by simp <;> omega) (by omega)
  have K35 : Kp (((w30.setCell ⟨w.heap.size + 1 + 1, 0, none⟩ (.bool b29)).setCell ⟨w.heap.size + 1 + 1, 1, none⟩ (.slice p29 n29 c29)).setCell ⟨w.heap.size + 1 + 1, 2, none⟩ (.bool d29)) ((((w30.setCell ⟨w.heap.size + 1 + 1, 0, none⟩ (.bool b29)).setCell ⟨w.heap.size + 1 + 1, 1, none⟩ (.slice p29 n29 c29)).setCell ⟨w.heap.size + 1 + 1, 2, none⟩ (.bool d29)).setCell ⟨w.heap.size + 1 + 1, 3, none⟩ (.slice q29 m29 f29)) := S.kp (g := w.heap.size + 1 + 1) (o := 3) (x := .slice none 0 0) (.slice q29 m29 f29) (by simp) (by simp)
  replace S : St w [(w.heap.size + 1 + 1, 3, .slice q29 m29 f29), (w15.heap.size + 1, 0, .bool d14), (w15.heap.size + 1, 1, .slice q14 m14 f14), (w15.heap.size, 0, .bool b14), (w15.heap.size, 1, .slice p14 n14 c14), (w12.heap.size + 1, 0, .bool d11), (w12.heap.size + 1, 1, .slice q11 m11 f11), (w12.heap.size, 0, .bool b11), (w12.heap.size, 1, .slice p11 n11 c11), (w.heap.size + 1 + 1, 0, .bool b29), (w.heap.size + 1 + 1, 1, .slice p29 n29 c29), (w.heap.size + 1 + 1, 2, .bool d29), (w.heap.size + 1, 0, .bool b2), (w.heap.size + 1, 1, .slice p2 n2 c2), (w.heap.size + 1, 2, .bool b3), (w.heap.size + 1, 3, .slice p3 n3 c3), (w.heap.size, 0, .bool b0), (w.heap.size, 1, .slice p0 n0 c0), (w.heap.size, 2, .bool b1), (w.heap.size, 3, .slice p1 n1 c1)] [(w15.heap.size + 1, 0), (w15.heap.size + 1, 1), (w15.heap.size, 0), (w15.heap.size, 1), (w12.heap.size + 1, 0), (w12.heap.size + 1, 1), (w12.heap.size, 0), (w12.heap.size, 1), (w.heap.size + 1 + 1, 0), (w.heap.size + 1 + 1, 1), (w.heap.size + 1 + 1, 2), (w.heap.size + 1 + 1, 3)] ((((w30.setCell ⟨w.heap.size + 1 + 1, 0, none⟩ (.bool b29)).setCell ⟨w.heap.size + 1 + 1, 1, none⟩ (.slice p29 n29 c29)).setCell ⟨w.heap.size + 1 + 1, 2, none⟩ (.bool d29)).setCell ⟨w.heap.size + 1 + 1, 3, none⟩ (.slice q29 m29 f29)) := S.set (g := w.heap.size + 1 + 1) (o := 3) (.slice q29 m29 f29) (by simp) (by simp <;> omega) (by omega)
  replace S : St w [(w15.heap.size + 1, 0, .bool d14), (w15.heap.size + 1, 1, .slice q14 m14 f14), (w15.heap.size, 0, .bool b14), (w15.heap.size, 1, .slice p14 n14 c14), (w12.heap.size + 1, 0, .bool d11), (w12.heap.size + 1, 1, .slice q11 m11 f11), (w12.heap.size, 0, .bool b11), (w12.heap.size, 1, .slice p11 n11 c11), (w.heap.size + 1 + 1, 0, .bool b29), (w.heap.size + 1 + 1, 1, .slice p29 n29 c29), (w.heap.size + 1 + 1, 2, .bool d29), (w.heap.size + 1 + 1, 3, .slice q29 m29 f29), (w.heap.size + 1, 0, .bool b2), (w.heap.size + 1, 1, .slice p2 n2 c2), (w.heap.size + 1, 2, .bool b3), (w.heap.size + 1, 3, .slice p3 n3 c3), (w.heap.size, 0, .bool b0), (w.heap.size, 1, .slice p0 n0 c0), (w.heap.size, 2, .bool b1), (w.heap.size, 3, .slice p1 n1 c1)] [(w15.heap.size + 1, 0), (w15.heap.size + 1, 1), (w15.heap.size, 0), (w15.heap.size, 1), (w12.heap.size + 1, 0), (w12.heap.size + 1, 1), (w12.heap.size, 0), (w12.heap.size, 1), (w.heap.size + 1 + 1, 0), (w.heap.size + 1 + 1, 1), (w.heap.size + 1 + 1, 2), (w.heap.size + 1 + 1, 3)] ((((w30.setCell ⟨w.heap.size + 1 + 1, 0, none⟩ (.bool b29)).setCell ⟨w.heap.size + 1 + 1, 1, none⟩ (.slice p29 n29 c29)).setCell ⟨w.heap.size + 1 + 1, 2, none⟩ (.bool d29)).setCell ⟨w.heap.size + 1 + 1, 3, none⟩ (.slice q29 m29 f29)) := S.sub (by simp) (by simp)
  replace N29 := Lib.hid (N29.out.kp (((K32.trans K33).trans K34).trans K35))
  clear K32 K33 K34 K35
  have sz36 : ((((w30.setCell ⟨w.heap.size + 1 + 1, 0, none⟩ (.bool b29)).setCell ⟨w.heap.size + 1 + 1, 1, none⟩ (.slice p29 n29 c29)).setCell ⟨w.heap.size + 1 + 1, 2, none⟩ (.bool d29)).setCell ⟨w.heap.size + 1 + 1, 3, none⟩ (.slice q29 m29 f29)).heap.size = w30.heap.size := by simp
  generalize ((((w30.setCell ⟨w.heap.size + 1 + 1, 0, none⟩ (.bool b29)).setCell ⟨w.heap.size + 1 + 1, 1, none⟩ (.slice p29 n29 c29)).setCell ⟨w.heap.size + 1 + 1, 2, none⟩ (.bool d29)).setCell ⟨w.heap.size + 1 + 1, 3, none⟩ (.slice q29 m29 f29)) = W36 at *
  clear l0 l1 l2 l3 l4 l5 l6 lS
  have l0 := S.ltc (g := w.heap.size) (o := 0) (x := .bool b0) (by simp)
  have l1 := S.ltc (g := w.heap.size + 1) (o := 0) (x := .bool b2) (by simp)
  have l2 := S.ltc (g := w.heap.size + 1 + 1) (o := 0) (x := .bool b29) (by simp)
  have l3 := S.ltc (g := w12.heap.size) (o := 0) (x := .bool b11) (by simp)
  have l4 := S.ltc (g := w12.heap.size + 1) (o := 0) (x := .bool d11) (by simp)
  have l5 := S.ltc (g := w15.heap.size) (o := 0) (x := .bool b14) (by simp)
  have l6 := S.ltc (g := w15.heap.size + 1) (o := 0) (x := .bool d14) (by simp)
  have lS := S.size
  refine wpAnyH_done (by kernel_rfl) ?_ _
  refine NoPanic.normal ?_
  obtain ⟨e0, e1, e2, e3, e4, e5, e6, e7, e8, e9, e10, e11, e12, e13, e14, e15, e16, e17, e18, e19, h0, i0, h1, i1, h2, i2, h3, i3, h4, i4, h5, i5, h6, i6, h7, i7, h8, i8, h9, i9, h10, i10, h11, i11, G⟩ := id S
  go_wp2_with fail
  clear e0 e1 e2 e3 e4 e5 e6 e7 e8 e9 e10 e11 e12 e13 e14 e15 e16 e17 e18 e19 h0 i0 h1 i1 h2 i2 h3 i3 h4 i4 h5 i5 h6 i6 h7 i7 h8 i8 h9 i9 h10 i10 h11 i11 G
  refine post_Q Tryz.results47 rfl rfl (S.cell (g := w.heap.size + 1 + 1) (o := 0) (x := .bool b29) (by simp)) (S.cell (g := w.heap.size + 1 + 1) (o := 1) (x := .slice p29 n29 c29) (by simp)) (S.cell (g := w.heap.size + 1 + 1) (o := 2) (x := .bool d29) (by simp)) (S.cell (g := w.heap.size + 1 + 1) (o := 3) (x := .slice q29 m29 f29) (by simp)) ⟨_, _, _, _, _, _, _, _, rfl, (N29.out.more (by omega) : NorQ _ _ _ _).eq (by rw [← E29.out, ← E23.out, ← E26.out, ← mul_parts, Q11.out, Q14.out]), S.all⟩

set_option maxHeartbeats 4000000 in
set_option maxRecDepth 100000 in
theorem RMid_g {v u : Value} {q r : Rat} {i j : Nat} {w : World} (hx : RatV w v q i) (hy : RatV w u r j) {t : Rat} (hk : i + j ≤ 30000) (ht : (q + r) / 2 = t) :
    Calls Tryz.prog 51 #[v, u] w (GotQ w t (6 * (i + j) + 28)) := by
  subst ht
  obtain ⟨b0, p0, n0, c0, b1, p1, n1, c1, zz0, yy0, rfl, hz0, hy0, hq0⟩ := hx
  have Hx := Lib.hid (show RatV w (.agg #[.bool b0, .slice p0 n0 c0, .bool b1, .slice p1 n1 c1]) q i from ⟨_, _, _, _, _, _, _, _, _, _, rfl, hz0, hy0, hq0⟩)
  clear hz0 hy0 hq0
  obtain ⟨b2, p2, n2, c2, b3, p3, n3, c3, zz1, yy1, rfl, hz1, hy1, hq1⟩ := hy
  have Hy := Lib.hid (show RatV w (.agg #[.bool b2, .slice p2 n2 c2, .bool b3, .slice p3 n3 c3]) r j from ⟨_, _, _, _, _, _, _, _, _, _, rfl, hz1, hy1, hq1⟩)
  clear hz1 hy1 hq1
  have S : St w [] [] w := St.start w
  go_enter Tryz.func51, Tryz.ntmps51
  have G := S
  go_wp2_with fail
  clear G
  replace S : St w [(w.heap.size, 0, .bool b0), (w.heap.size, 1, .slice p0 n0 c0), (w.heap.size, 2, .bool b1), (w.heap.size, 3, .slice p1 n1 c1)] [] (w.alloc (.cells #[.bool b0, .slice p0 n0 c0, .bool b1, .slice p1 n1 c1] 46)) := S.box (w.heap.size) [.bool b0, .slice p0 n0 c0, .bool b1, .slice p1 n1 c1] 46 (by simp)
  replace S : St w [(w.heap.size + 1, 0, .bool b2), (w.heap.size + 1, 1, .slice p2 n2 c2), (w.heap.size + 1, 2, .bool b3), (w.heap.size + 1, 3, .slice p3 n3 c3), (w.heap.size, 0, .bool b0), (w.heap.size, 1, .slice p0 n0 c0), (w.heap.size, 2, .bool b1), (w.heap.size, 3, .slice p1 n1 c1)] [] ((w.alloc (.cells #[.bool b0, .slice p0 n0 c0, .bool b1, .slice p1 n1 c1] 46)).alloc (.cells #[.bool b2, .slice p2 n2 c2, .bool b3, .slice p3 n3 c3] 46)) := S.box (w.heap.size + 1) [.bool b2, .slice p2 n2 c2, .bool b3, .slice p3 n3 c3] 46 (by simp)
  replace S : St w [(w.heap.size + 1 + 1, 0, .bool false), (w.heap.size + 1 + 1, 1, .slice none 0 0), (w.heap.size + 1 + 1, 2, .bool false), (w.heap.size + 1 + 1, 3, .slice none 0 0), (w.heap.size + 1, 0, .bool b2), (w.heap.size + 1, 1, .slice p2 n2 c2), (w.heap.size + 1, 2, .bool b3), (w.heap.size + 1, 3, .slice p3 n3 c3), (w.heap.size, 0, .bool b0), (w.heap.size, 1, .slice p0 n0 c0), (w.heap.size, 2, .bool b1), (w.heap.size, 3, .slice p1 n1 c1)] [(w.heap.size + 1 + 1, 0), (w.heap.size + 1 + 1, 1), (w.heap.size + 1 + 1, 2), (w.heap.size + 1 + 1, 3)] (((w.alloc (.cells #[.bool b0, .slice p0 n0 c0, .bool b1, .slice p1 n1 c1] 46)).alloc (.cells #[.bool b2, .slice p2 n2 c2, .bool b3, .slice p3 n3 c3] 46)).alloc (.cells #[.bool false, .slice none 0 0, .bool false, .slice none 0 0] 46)) := S.made (w.heap.size + 1 + 1) [.bool false, .slice none 0 0, .bool false, .slice none 0 0] 46 (by simp)
  replace Hx := Lib.hid (Hx.out.kp (((Kp.of (grown_alloc w (.cells #[.bool b0, .slice p0 n0 c0, .bool b1, .slice p1 n1 c1] 46) none)).trans (Kp.of (grown_alloc ((w.alloc (.cells #[.bool b0, .slice p0 n0 c0, .bool b1, .slice p1 n1 c1] 46))) (.cells #[.bool b2, .slice p2 n2 c2, .bool b3, .slice p3 n3 c3] 46) none))).trans (Kp.of (grown_alloc (((w.alloc (.cells #[.bool b0, .slice p0 n0 c0, .bool b1, .slice p1 n1 c1] 46)).alloc (.cells #[.bool b2, .slice p2 n2 c2, .bool b3, .slice p3 n3 c3] 46))) (.cells #[.bool false, .slice none 0 0, .bool false, .slice none 0 0] 46) none))))
  replace Hy := Lib.hid (Hy.out.kp (((Kp.of (grown_alloc w (.cells #[.bool b0, .slice p0 n0 c0, .bool b1, .slice p1 n1 c1] 46) none)).trans (Kp.of (grown_alloc ((w.alloc (.cells #[.bool b0, .slice p0 n0 c0, .bool b1, .slice p1 n1 c1] 46))) (.cells #[.bool b2, .slice p2 n2 c2, .bool b3, .slice p3 n3 c3] 46) none))).trans (Kp.of (grown_alloc (((w.alloc (.cells #[.bool b0, .slice p0 n0 c0, .bool b1, .slice p1 n1 c1] 46)).alloc (.cells #[.bool b2, .slice p2 n2 c2, .bool b3, .slice p3 n3 c3] 46))) (.cells #[.bool false, .slice none 0 0, .bool false, .slice none 0 0] 46) none))))
  have sz10 : (((w.alloc (.cells #[.bool b0, .slice p0 n0 c0, .bool b1, .slice p1 n1 c1] 46)).alloc (.cells #[.bool b2, .slice p2 n2 c2, .bool b3, .slice p3 n3 c3] 46)).alloc (.cells #[.bool false, .slice none 0 0, .bool false, .slice none 0 0] 46)).heap.size = w.heap.size + 3 := by simp
  generalize (((w.alloc (.cells #[.bool b0, .slice p0 n0 c0, .bool b1, .slice p1 n1 c1] 46)).alloc (.cells #[.bool b2, .slice p2 n2 c2, .bool b3, .slice p3 n3 c3] 46)).alloc (.cells #[.bool false, .slice none 0 0, .bool false, .slice none 0 0] 46)) = W10 at *
  obtain ⟨z11, ez11⟩ : ∃ t : Rat, q + r = t := ⟨_, rfl⟩
  have E11 := Lib.hid ez11
  clear ez11
  go_at_call 93
  with_reducible refine (Added_g Hx.out Hy.out (by omega) E11.out).mono ?_
  rintro e w12 ⟨b11, p11, n11, c11, d11, q11, m11, f11, x11, y11, rfl, h, h', y0, eq, g⟩
  clear Hx Hy
  have Y11 := Lib.hid y0
  have Q11 := Lib.hid eq
  have N11 := Lib.hid (h)
  have M11 := Lib.hid (h')
  replace S := S.step g
  have lg12 := g.size
  clear g h h' y0 eq
  have l0 := S.ltc (g := w.heap.size) (o := 0) (x := .bool b0) (by simp)
  have l1 := S.ltc (g := w.heap.size + 1) (o := 0) (x := .bool b2) (by simp)
  have l2 := S.ltc (g := w.heap.size + 1 + 1) (o := 0) (x := .bool false) (by simp)
  have lS := S.size
  obtain ⟨e0, e1, e2, e3, e4, e5, e6, e7, e8, e9, e10, e11, h0, i0, h1, i1, h2, i2, h3, i3, G⟩ := id S
  go_wp2_with fail
  clear e0 e1 e2 e3 e4 e5 e6 e7 e8 e9 e10 e11 h0 i0 h1 i1 h2 i2 h3 i3 G
  replace S : St w [(w12.heap.size, 0, .bool b11), (w12.heap.size, 1, .slice p11 n11 c11), (w.heap.size + 1 + 1, 0, .bool false), (w.heap.size + 1 + 1, 1, .slice none 0 0), (w.heap.size + 1 + 1, 2, .bool false), (w.heap.size + 1 + 1, 3, .slice none 0 0), (w.heap.size + 1, 0, .bool b2), (w.heap.size + 1, 1, .slice p2 n2 c2), (w.heap.size + 1, 2, .bool b3), (w.heap.size + 1, 3, .slice p3 n3 c3), (w.heap.size, 0, .bool b0), (w.heap.size, 1, .slice p0 n0 c0), (w.heap.size, 2, .bool b1), (w.heap.size, 3, .slice p1 n1 c1)] [(w12.heap.size, 0), (w12.heap.size, 1), (w.heap.size + 1 + 1, 0), (w.heap.size + 1 + 1, 1), (w.heap.size + 1 + 1, 2), (w.heap.size + 1 + 1, 3)] (w12.alloc (.cells #[.bool b11, .slice p11 n11 c11] 24)) := S.made (w12.heap.size) [.bool b11, .slice p11 n11 c11] 24 (by simp)
  replace S : St w [(w12.heap.size + 1, 0, .bool d11), (w12.heap.size + 1, 1, .slice q11 m11 f11), (w12.heap.size, 0, .bool b11), (w12.heap.size, 1, .slice p11 n11 c11), (w.heap.size + 1 + 1, 0, .bool false), (w.heap.size + 1 + 1, 1, .slice none 0 0), (w.heap.size + 1 + 1, 2, .bool false), (w.heap.size + 1 + 1, 3, .slice none 0 0), (w.heap.size + 1, 0, .bool b2), (w.heap.size + 1, 1, .slice p2 n2 c2), (w.heap.size + 1, 2, .bool b3), (w.heap.size + 1, 3, .slice p3 n3 c3), (w.heap.size, 0, .bool b0), (w.heap.size, 1, .slice p0 n0 c0), (w.heap.size, 2, .bool b1), (w.heap.size, 3, .slice p1 n1 c1)] [(w12.heap.size + 1, 0), (w12.heap.size + 1, 1), (w12.heap.size, 0), (w12.heap.size, 1), (w.heap.size + 1 + 1, 0), (w.heap.size + 1 + 1, 1), (w.heap.size + 1 + 1, 2), (w.heap.size + 1 + 1, 3)] ((w12.alloc (.cells #[.bool b11, .slice p11 n11 c11] 24)).alloc (.cells #[.bool d11, .slice q11 m11 f11] 24)) := S.made (w12.heap.size + 1) [.bool d11, .slice q11 m11 f11] 24 (by simp)
  replace N11 := Lib.hid (N11.out.kp ((Kp.of (grown_alloc w12 (.cells #[.bool b11, .slice p11 n11 c11] 24) none)).trans (Kp.of (grown_alloc ((w12.alloc (.cells #[.bool b11, .slice p11 n11 c11] 24))) (.cells #[.bool d11, .slice q11 m11 f11] 24) none))))
  replace M11 := Lib.hid (M11.out.kp ((Kp.of (grown_alloc w12 (.cells #[.bool b11, .slice p11 n11 c11] 24) none)).trans (Kp.of (grown_alloc ((w12.alloc (.cells #[.bool b11, .slice p11 n11 c11] 24))) (.cells #[.bool d11, .slice q11 m11 f11] 24) none))))
  have sz13 : ((w12.alloc (.cells #[.bool b11, .slice p11 n11 c11] 24)).alloc (.cells #[.bool d11, .slice q11 m11 f11] 24)).heap.size = w12.heap.size + 2 := by simp
  generalize ((w12.alloc (.cells #[.bool b11, .slice p11 n11 c11] 24)).alloc (.cells #[.bool d11, .slice q11 m11 f11] 24)) = W13 at *
  have T0 : Cl [(w12.heap.size, 0, .bool b11), (w12.heap.size, 1, .slice p11 n11 c11), (w12.heap.size + 1, 0, .bool d11), (w12.heap.size + 1, 1, .slice q11 m11 f11)] W13 := S.cl (by simp)
  refine wp_region_noPanic ?_
  refine wp_region_held_drew (S := fun w' => w'.cell? ⟨w12.heap.size, 0, none⟩ = some (.bool b11) ∧ w'.cell? ⟨w12.heap.size, 1, none⟩ = some (.slice p11 n11 c11) ∧ w'.cell? ⟨w12.heap.size + 1, 0, none⟩ = some (.bool d11) ∧ w'.cell? ⟨w12.heap.size + 1, 1, none⟩ = some (.slice q11 m11 f11) ∧ True) (by kernel_rfl) (by exact Cl.step (cs := [(w12.heap.size, 0, .bool b11), (w12.heap.size, 1, .slice p11 n11 c11), (w12.heap.size + 1, 0, .bool d11), (w12.heap.size + 1, 1, .slice q11 m11 f11)]) (grown_drew _ _) T0) (fun hHeld => ?_)
  change wpAnyH _ _ _ _ _ 6 #[false, false, false, false, false, false] _ _
  replace S := S.step (grown_drew W13 none)
  replace N11 := Lib.hid (N11.out.kp (Kp.of (grown_drew W13 none)))
  replace M11 := Lib.hid (M11.out.kp (Kp.of (grown_drew W13 none)))
  have lg14 := (grown_drew W13 none).size
  clear T0
  generalize W13.drew = wr14 at *
  clear l0 l1 l2 lS
  have l0 := S.ltc (g := w.heap.size) (o := 0) (x := .bool b0) (by simp)
  have l1 := S.ltc (g := w.heap.size + 1) (o := 0) (x := .bool b2) (by simp)
  have l2 := S.ltc (g := w.heap.size + 1 + 1) (o := 0) (x := .bool false) (by simp)
  have l3 := S.ltc (g := w12.heap.size) (o := 0) (x := .bool b11) (by simp)
  have l4 := S.ltc (g := w12.heap.size + 1) (o := 0) (x := .bool d11) (by simp)
  have lS := S.size
  refine wpAnyH_take (i := 0) (oi := _) (v := ?vq15) rfl (by kernel_rfl) (by kernel_rfl) (by kernel_rfl) (fun _ _ _ h => h) (Or.inl ⟨by rfl, ?hyq15⟩) (by assumption) ?restq15
  case hyq15 => (intro w hSw; (try dsimp only at hSw); go_simp; try with_reducible rfl)
  try simp only [Act.put, List.getElem_toArray, List.getElem_cons_zero, List.setIfInBounds_toArray, List.set_cons_zero, List.set_cons_succ]
  refine wpAnyH_take (i := 1) (oi := _) (v := ?vq16) rfl (by kernel_rfl) (by kernel_rfl) (by kernel_rfl) (fun _ _ _ h => h) (Or.inl ⟨by rfl, ?hyq16⟩) (by assumption) ?restq16
  case hyq16 => (intro w hSw; (try dsimp only at hSw); go_simp; try with_reducible rfl)
  try simp only [Act.put, List.getElem_toArray, List.getElem_cons_zero, List.getElem_cons_succ, List.setIfInBounds_toArray, List.set_cons_zero, List.set_cons_succ]
  refine wpAnyH_take (i := 2) (oi := _) (v := ?vq17) rfl (by kernel_rfl) (by kernel_rfl) (by kernel_rfl) (fun _ _ _ h => h) (Or.inl ⟨by rfl, ?hyq17⟩) (by assumption) ?restq17
  case hyq17 => (intro w hSw; (try dsimp only at hSw); go_simp; try with_reducible rfl)
  try simp only [Act.put, List.getElem_toArray, List.getElem_cons_zero, List.getElem_cons_succ, List.setIfInBounds_toArray, List.set_cons_zero, List.set_cons_succ]
  obtain ⟨z19, ez19⟩ : ∃ t : Int, y11 + y11 = t := ⟨_, rfl⟩
  have E19 := Lib.hid ez19
  clear ez19
  refine wpAnyH_ready (rs := [3]) (by kernel_rfl) (by simp) ?_
  refine AllReadyH.cons (o := _) rfl (fun K hK => ?_) AllReadyH.nil
  go_simp
  go_at_call 96
  with_reducible refine (Add_g M11.out M11.out (by omega) E19.out).mono ?_
  rintro e w20 ⟨b19, p19, n19, c19, rfl, h, g⟩
  replace N11 := Lib.hid (N11.out.kp (Kp.of g))
  clear M11
  have N19 := Lib.hid (h)
  replace S := S.step g
  have lg20 := g.size
  clear l0 l1 l2 l3 l4 lS
  have l0 := S.ltc (g := w.heap.size) (o := 0) (x := .bool b0) (by simp)
  have l1 := S.ltc (g := w.heap.size + 1) (o := 0) (x := .bool b2) (by simp)
  have l2 := S.ltc (g := w.heap.size + 1 + 1) (o := 0) (x := .bool false) (by simp)
  have l3 := S.ltc (g := w12.heap.size) (o := 0) (x := .bool b11) (by simp)
  have l4 := S.ltc (g := w12.heap.size + 1) (o := 0) (x := .bool d11) (by simp)
  have lS := S.size
  go_wp2_with fail
  refine hK.out _ _ ?hSq18 (fun hHeld => ?_)
  case hSq18 => exact Cl.step (cs := [(w12.heap.size, 0, .bool b11), (w12.heap.size, 1, .slice p11 n11 c11), (w12.heap.size + 1, 0, .bool d11), (w12.heap.size + 1, 1, .slice q11 m11 f11)]) g (by assumption)
  clear hK K g h
  try simp only [List.setIfInBounds_toArray, List.set_cons_zero, List.set_cons_succ]
  obtain ⟨z22, ez22⟩ : ∃ t : Rat, Rat.divInt x11 z19 = t := ⟨_, rfl⟩
  have E22 := Lib.hid ez22
  clear ez22
  refine wpAnyH_ready (rs := [4]) (by kernel_rfl) (by simp) ?_
  refine AllReadyH.cons (o := _) rfl (fun K hK => ?_) AllReadyH.nil
  go_simp
  go_at_call 84
  with_reducible refine (Lowest_g (k := ((2 * (i + j) + 9) + ((2 * (i + j) + 9) + (2 * (i + j) + 9) + 1))) (N11.out.more (by omega)) (N19.out.i.more (by omega)) (by omega) (by rw [← E19.out]; have := Y11.out; omega) E22.out).mono ?_
  rintro e w23 ⟨b22, p22, n22, c22, d22, q22, m22, f22, rfl, h, g⟩
  clear N11 N19
  have N22 := Lib.hid (h)
  replace S := S.step g
  have lg23 := g.size
  clear l0 l1 l2 l3 l4 lS
  have l0 := S.ltc (g := w.heap.size) (o := 0) (x := .bool b0) (by simp)
  have l1 := S.ltc (g := w.heap.size + 1) (o := 0) (x := .bool b2) (by simp)
  have l2 := S.ltc (g := w.heap.size + 1 + 1) (o := 0) (x := .bool false) (by simp)
  have l3 := S.ltc (g := w12.heap.size) (o := 0) (x := .bool b11) (by simp)
  have l4 := S.ltc (g := w12.heap.size + 1) (o := 0) (x := .bool d11) (by simp)
  have lS := S.size
  go_wp2_with fail
  refine hK.out _ _ ?hSq21 (fun hHeld => ?_)
  case hSq21 => exact Cl.step (cs := [(w12.heap.size, 0, .bool b11), (w12.heap.size, 1, .slice p11 n11 c11), (w12.heap.size + 1, 0, .bool d11), (w12.heap.size + 1, 1, .slice q11 m11 f11)]) g (by assumption)
  clear hK K g h
  try simp only [List.setIfInBounds_toArray, List.set_cons_zero, List.set_cons_succ]
  obtain ⟨e0, e1, e2, e3, e4, e5, e6, e7, e8, e9, e10, e11, e12, e13, e14, e15, h0, i0, h1, i1, h2, i2, h3, i3, h4, i4, h5, i5, h6, i6, h7, i7, G⟩ := id S
  refine wpAnyH_ready (rs := [5]) (by kernel_rfl) (by simp) ?_
  refine AllReadyH.cons (o := _) rfl (fun K hK => ?_) AllReadyH.nil
  go_simp
  refine hK.out _ _ ?hSq24 (fun hHeld => ?_)
  case hSq24 => exact (Cl.set (cs := [(w12.heap.size, 0, .bool b11), (w12.heap.size, 1, .slice p11 n11 c11), (w12.heap.size + 1, 0, .bool d11), (w12.heap.size + 1, 1, .slice q11 m11 f11)]) (g := w.heap.size + 1 + 1) (o := 3) (u := .slice q22 m22 f22) (Cl.set (cs := [(w12.heap.size, 0, .bool b11), (w12.heap.size, 1, .slice p11 n11 c11), (w12.heap.size + 1, 0, .bool d11), (w12.heap.size + 1, 1, .slice q11 m11 f11)]) (g := w.heap.size + 1 + 1) (o := 2) (u := .bool d22) (Cl.set (cs := [(w12.heap.size, 0, .bool b11), (w12.heap.size, 1, .slice p11 n11 c11), (w12.heap.size + 1, 0, .bool d11), (w12.heap.size + 1, 1, .slice q11 m11 f11)]) (g := w.heap.size + 1 + 1) (o := 1) (u := .slice p22 n22 c22) (Cl.set (cs := [(w12.heap.size, 0, .bool b11), (w12.heap.size, 1, .slice p11 n11 c11), (w12.heap.size + 1, 0, .bool d11), (w12.heap.size + 1, 1, .slice q11 m11 f11)]) (g := w.heap.size + 1 + 1) (o := 0) (u := .bool b22) (by assumption) (by simp <;> omega)) (by simp <;> omega)) (by simp <;> omega)) (by simp <;> omega))
  clear hK K
  try simp only [List.setIfInBounds_toArray, List.set_cons_zero, List.set_cons_succ]
  clear e0 e1 e2 e3 e4 e5 e6 e7 e8 e9 e10 e11 e12 e13 e14 e15 h0 i0 h1 i1 h2 i2 h3 i3 h4 i4 h5 i5 h6 i6 h7 i7 G
  have K25 : Kp w23 (w23.setCell ⟨w.heap.size + 1 + 1, 0, none⟩ (.bool b22)) := S.kp (g := w.heap.size + 1 + 1) (o := 0) (x := .bool false) (.bool b22) (by simp) (by simp)
  replace S : St w [(w.heap.size + 1 + 1, 0, .bool b22), (w12.heap.size + 1, 0, .bool d11), (w12.heap.size + 1, 1, .slice q11 m11 f11), (w12.heap.size, 0, .bool b11), (w12.heap.size, 1, .slice p11 n11 c11), (w.heap.size + 1 + 1, 1, .slice none 0 0), (w.heap.size + 1 + 1, 2, .bool false), (w.heap.size + 1 + 1, 3, .slice none 0 0), (w.heap.size + 1, 0, .bool b2), (w.heap.size + 1, 1, .slice p2 n2 c2), (w.heap.size + 1, 2, .bool b3), (w.heap.size + 1, 3, .slice p3 n3 c3), (w.heap.size, 0, .bool b0), (w.heap.size, 1, .slice p0 n0 c0), (w.heap.size, 2, .bool b1), (w.heap.size, 3, .slice p1 n1 c1)] [(w12.heap.size + 1, 0), (w12.heap.size + 1, 1), (w12.heap.size, 0), (w12.heap.size, 1), (w.heap.size + 1 + 1, 0), (w.heap.size + 1 + 1, 1), (w.heap.size + 1 + 1, 2), (w.heap.size + 1 + 1, 3)] (w23.setCell ⟨w.heap.size + 1 + 1, 0, none⟩ (.bool b22)) := S.set (g := w.heap.size + 1 + 1) (o := 0) (.bool b22) (by simp) (by simp <;> omega) (by omega)
  have K26 : Kp (w23.setCell ⟨w.heap.size + 1 + 1, 0, none⟩ (.bool b22)) ((w23.setCell ⟨w.heap.size + 1 + 1, 0, none⟩ (.bool b22)).setCell ⟨w.heap.size + 1 + 1, 1, none⟩ (.slice p22 n22 c22)) := S.kp (g := w.heap.size + 1 + 1) (o := 1) (x := .slice none 0 0) (.slice p22 n22 c22) (by simp) (by simp)
  replace S : St w [(w.heap.size + 1 + 1, 1, .slice p22 n22 c22), (w12.heap.size + 1, 0, .bool d11), (w12.heap.size + 1, 1, .slice q11 m11 f11), (w12.heap.size, 0, .bool b11), (w12.heap.size, 1, .slice p11 n11 c11), (w.heap.size + 1 + 1, 0, .bool b22), (w.heap.size + 1 + 1, 2, .bool false), (w.heap.size + 1 + 1, 3, .slice none 0 0), (w.heap.size + 1, 0, .bool b2), (w.heap.size + 1, 1, .slice p2 n2 c2), (w.heap.size + 1, 2, .bool b3), (w.heap.size + 1, 3, .slice p3 n3 c3), (w.heap.size, 0, .bool b0), (w.heap.size, 1, .slice p0 n0 c0), (w.heap.size, 2, .bool b1), (w.heap.size, 3, .slice p1 n1 c1)] [(w12.heap.size + 1, 0), (w12.heap.size + 1, 1), (w12.heap.size, 0), (w12.heap.size, 1), (w.heap.size + 1 + 1, 0), (w.heap.size + 1 + 1, 1), (w.heap.size + 1 + 1, 2), (w.heap.size + 1 + 1, 3)] ((w23.setCell ⟨w.heap.size + 1 + 1, 0, none⟩ (.bool b22)).setCell ⟨w.heap.size + 1 + 1, 1, none⟩ (.slice p22 n22 c22)) := S.set (g := w.heap.size + 1 + 1) (o := 1) (.slice p22 n22 c22) (by simp) (by simp <;> omega) (by omega)
  have K27 : Kp ((w23.setCell ⟨w.heap.size + 1 + 1, 0, none⟩ (.bool b22)).setCell ⟨w.heap.size + 1 + 1, 1, none⟩ (.slice p22 n22 c22)) (((w23.setCell ⟨w.heap.size + 1 + 1, 0, none⟩ (.bool b22)).setCell ⟨w.heap.size + 1 + 1, 1, none⟩ (.slice p22 n22 c22)).setCell ⟨w.heap.size + 1 + 1, 2, none⟩ (.bool d22)) := S.kp (g := w.heap.size + 1 + 1) (o := 2) (x := .bool false) (.bool d22) (by simp) (by simp)
  replace S : St w [(w.heap.size + 1 + 1, 2, .bool d22), (w12.heap.size + 1, 0, .bool d11), (w12.heap.size + 1, 1, .slice q11 m11 f11), (w12.heap.size, 0, .bool b11), (w12.heap.size, 1, .slice p11 n11 c11), (w.heap.size + 1 + 1, 0, .bool b22), (w.heap.size + 1 + 1, 1, .slice p22 n22 c22), (w.heap.size + 1 + 1, 3, .slice none 0 0), (w.heap.size + 1, 0, .bool b2), (w.heap.size + 1, 1, .slice p2 n2 c2), (w.heap.size + 1, 2, .bool b3), (w.heap.size + 1, 3, .slice p3 n3 c3), (w.heap.size, 0, .bool b0), (w.heap.size, 1, .slice p0 n0 c0), (w.heap.size, 2, .bool b1), (w.heap.size, 3, .slice p1 n1 c1)] [(w12.heap.size + 1, 0), (w12.heap.size + 1, 1), (w12.heap.size, 0), (w12.heap.size, 1), (w.heap.size + 1 + 1, 0), (w.heap.size + 1 + 1, 1), (w.heap.size + 1 + 1, 2), (w.heap.size + 1 + 1, 3)] (((w23.setCell ⟨w.heap.size + 1 + 1, 0, none⟩ (.bool b22)).setCell ⟨w.heap.size + 1 + 1, 1, none⟩ (.slice p22 n22 c22)).setCell ⟨w.heap.size + 1 + 1, 2, none⟩ (.bool d22)) := S.set (g := w.heap.size + 1 + 1) (o := 2) (.bool d22) (by simp) (by simp <;> omega) (by omega)
  have K28 : Kp (((w23.setCell ⟨w.heap.size + 1 + 1, 0, none⟩ (.bool b22)).setCell ⟨w.heap.size + 1 + 1, 1, none⟩ (.slice p22 n22 c22)).setCell ⟨w.heap.size + 1 + 1, 2, none⟩ (.bool d22)) ((((w23.setCell ⟨w.heap.size + 1 + 1, 0, none⟩ (.bool b22)).setCell ⟨w.heap.size + 1 + 1, 1, none⟩ (.slice p22 n22 c22)).setCell ⟨w.heap.size + 1 + 1, 2, none⟩ (.bool d22)).setCell ⟨w.heap.size + 1 + 1, 3, none⟩ (.slice q22 m22 f22)) := S.kp (g := w.heap.size + 1 + 1) (o := 3) (x := .slice none 0 0) (.slice q22 m22 f22) (by simp) (by simp)
  replace S : St w [(w.heap.size + 1 + 1, 3, .slice q22 m22 f22), (w12.heap.size + 1, 0, .bool d11), (w12.heap.size + 1, 1, .slice q11 m11 f11), (w12.heap.size, 0, .bool b11), (w12.heap.size, 1, .slice p11 n11 c11), (w.heap.size + 1 + 1, 0, .bool b22), (w.heap.size + 1 + 1, 1, .slice p22 n22 c22), (w.heap.size + 1 + 1, 2, .bool d22), (w.heap.size + 1, 0, .bool b2), (w.heap.size + 1, 1, .slice p2 n2 c2), (w.heap.size + 1, 2, .bool b3), (w.heap.size + 1, 3, .slice p3 n3 c3), (w.heap.size, 0, .bool b0), (w.heap.size, 1, .slice p0 n0 c0), (w.heap.size, 2, .bool b1), (w.heap.size, 3, .slice p1 n1 c1)] [(w12.heap.size + 1, 0), (w12.heap.size + 1, 1), (w12.heap.size, 0), (w12.heap.size, 1), (w.heap.size + 1 + 1, 0), (w.heap.size + 1 + 1, 1), (w.heap.size + 1 + 1, 2), (w.heap.size + 1 + 1, 3)] ((((w23.setCell ⟨w.heap.size + 1 + 1, 0, none⟩ (.bool b22)).setCell ⟨w.heap.size + 1 + 1, 1, none⟩ (.slice p22 n22 c22)).setCell ⟨w.heap.size + 1 + 1, 2, none⟩ (.bool d22)).setCell ⟨w.heap.size + 1 + 1, 3, none⟩ (.slice q22 m22 f22)) := S.set (g := w.heap.size + 1 + 1) (o := 3) (.slice q22 m22 f22) (by simp) (by simp <;> omega) (by omega)
  replace S : St w [(w12.heap.size + 1, 0, .bool d11), (w12.heap.size + 1, 1, .slice q11 m11 f11), (w12.heap.size, 0, .bool b11), (w12.heap.size, 1, .slice p11 n11 c11), (w.heap.size + 1 + 1, 0, .bool b22), (w.heap.size + 1 + 1, 1, .slice p22 n22 c22), (w.heap.size + 1 + 1, 2, .bool d22), (w.heap.size + 1 + 1, 3, .slice q22 m22 f22), (w.heap.size + 1, 0, .bool b2), (w.heap.size + 1, 1, .slice p2 n2 c2), (w.heap.size + 1, 2, .bool b3), (w.heap.size + 1, 3, .slice p3 n3 c3), (w.heap.size, 0, .bool b0), (w.heap.size, 1, .slice p0 n0 c0), (w.heap.size, 2, .bool b1), (w.heap.size, 3, .slice p1 n1 c1)] [(w12.heap.size + 1, 0), (w12.heap.size + 1, 1), (w12.heap.size, 0), (w12.heap.size, 1), (w.heap.size + 1 + 1, 0), (w.heap.size + 1 + 1, 1), (w.heap.size + 1 + 1, 2), (w.heap.size + 1 + 1, 3)] ((((w23.setCell ⟨w.heap.size + 1 + 1, 0, none⟩ (.bool b22)).setCell ⟨w.heap.size + 1 + 1, 1, none⟩ (.slice p22 n22 c22)).setCell ⟨w.heap.size + 1 + 1, 2, none⟩ (.bool d22)).setCell ⟨w.heap.size + 1 + 1, 3, none⟩ (.slice q22 m22 f22)) := S.sub (by simp) (by simp)
  replace N22 := Lib.hid (N22.out.kp (((K25.trans K26).trans K27).trans K28))
  clear K25 K26 K27 K28
  have sz29 : ((((w23.setCell ⟨w.heap.size + 1 + 1, 0, none⟩ (.bool b22)).setCell ⟨w.heap.size + 1 + 1, 1, none⟩ (.slice p22 n22 c22)).setCell ⟨w.heap.size + 1 + 1, 2, none⟩ (.bool d22)).setCell ⟨w.heap.size + 1 + 1, 3, none⟩ (.slice q22 m22 f22)).heap.size = w23.heap.size := by simp
  generalize ((((w23.setCell ⟨w.heap.size + 1 + 1, 0, none⟩ (.bool b22)).setCell ⟨w.heap.size + 1 + 1, 1, none⟩ (.slice p22 n22 c22)).setCell ⟨w.heap.size + 1 + 1, 2, none⟩ (.bool d22)).setCell ⟨w.heap.size + 1 + 1, 3, none⟩ (.slice q22 m22 f22)) = W29 at *
  clear l0 l1 l2 l3 l4 lS
  have l0 := S.ltc (g := w.heap.size) (o := 0) (x := .bool b0) (by simp)
  have l1 := S.ltc (g := w.heap.size + 1) (o := 0) (x := .bool b2) (by simp)
  have l2 := S.ltc (g := w.heap.size + 1 + 1) (o := 0) (x := .bool b22) (by simp)
  have l3 := S.ltc (g := w12.heap.size) (o := 0) (x := .bool b11) (by simp)
  have l4 := S.ltc (g := w12.heap.size + 1) (o := 0) (x := .bool d11) (by simp)
  have lS := S.size
  refine wpAnyH_done (by kernel_rfl) ?_ _
  refine NoPanic.normal ?_
  obtain ⟨e0, e1, e2, e3, e4, e5, e6, e7, e8, e9, e10, e11, e12, e13, e14, e15, h0, i0, h1, i1, h2, i2, h3, i3, h4, i4, h5, i5, h6, i6, h7, i7, G⟩ := id S
  go_wp2_with fail
  clear e0 e1 e2 e3 e4 e5 e6 e7 e8 e9 e10 e11 e12 e13 e14 e15 h0 i0 h1 i1 h2 i2 h3 i3 h4 i4 h5 i5 h6 i6 h7 i7 G
  refine post_Q Tryz.results51 rfl rfl (S.cell (g := w.heap.size + 1 + 1) (o := 0) (x := .bool b22) (by simp)) (S.cell (g := w.heap.size + 1 + 1) (o := 1) (x := .slice p22 n22 c22) (by simp)) (S.cell (g := w.heap.size + 1 + 1) (o := 2) (x := .bool d22) (by simp)) (S.cell (g := w.heap.size + 1 + 1) (o := 3) (x := .slice q22 m22 f22) (by simp)) ⟨_, _, _, _, _, _, _, _, rfl, (N22.out.more (by omega) : NorQ _ _ _ _).eq (by rw [← E22.out, ← E19.out, mid_parts Y11.out, Q11.out, E11.out]), S.all⟩

theorem num_zero {n d : Int} (hd : 0 < d) : Rat.divInt n d = 0 ↔ n = 0 := by
  have := eq_parts (n := n) (m := 0) hd (show (0 : Int) < 1 by decide)
  rw [Rat.zero_divInt] at this
  rw [this]; omega
theorem quo_ne {d n e : Int} (hd : 0 < d) (he : 0 < e) (h : Rat.divInt n e ≠ 0) : d * n ≠ 0 := Int.mul_ne_zero (by omega) (fun h0 => h ((num_zero he).2 h0))
theorem quo_zero {d n e : Int} (he : 0 < e) (h : Rat.divInt n e = 0) : d * n = 0 := by rw [(num_zero he).1 h, Int.mul_zero]
set_option maxHeartbeats 4000000 in
set_option maxRecDepth 100000 in
theorem RQuo_g {v u : Value} {q r : Rat} {i j : Nat} {w : World} (hx : RatV w v q i) (hy : RatV w u r j) {t : Rat} (hk : i + j ≤ 50000) (h0 : r ≠ 0) (ht : q / r = t) :
    Calls Tryz.prog 54 #[v, u] w (GotQE w t (2 * (i + j) + 8)) := by
  subst ht
  obtain ⟨b0, p0, n0, c0, b1, p1, n1, c1, zz0, yy0, rfl, hz0, hy0, hq0⟩ := hx
  have Hx := Lib.hid (show RatV w (.agg #[.bool b0, .slice p0 n0 c0, .bool b1, .slice p1 n1 c1]) q i from ⟨_, _, _, _, _, _, _, _, _, _, rfl, hz0, hy0, hq0⟩)
  clear hz0 hy0 hq0
  obtain ⟨b2, p2, n2, c2, b3, p3, n3, c3, zz1, yy1, rfl, hz1, hy1, hq1⟩ := hy
  have Hy := Lib.hid (show RatV w (.agg #[.bool b2, .slice p2 n2 c2, .bool b3, .slice p3 n3 c3]) r j from ⟨_, _, _, _, _, _, _, _, _, _, rfl, hz1, hy1, hq1⟩)
  clear hz1 hy1 hq1
  have R0 := Lib.hid h0
  clear h0
  have S : St w [] [] w := St.start w
  go_enter Tryz.func54, Tryz.ntmps54
  have G := S
  go_wp2_with fail
  clear G
  replace S : St w [(w.heap.size, 0, .bool b0), (w.heap.size, 1, .slice p0 n0 c0), (w.heap.size, 2, .bool b1), (w.heap.size, 3, .slice p1 n1 c1)] [] (w.alloc (.cells #[.bool b0, .slice p0 n0 c0, .bool b1, .slice p1 n1 c1] 46)) := S.box (w.heap.size) [.bool b0, .slice p0 n0 c0, .bool b1, .slice p1 n1 c1] 46 (by simp)
  replace S : St w [(w.heap.size + 1, 0, .bool b2), (w.heap.size + 1, 1, .slice p2 n2 c2), (w.heap.size + 1, 2, .bool b3), (w.heap.size + 1, 3, .slice p3 n3 c3), (w.heap.size, 0, .bool b0), (w.heap.size, 1, .slice p0 n0 c0), (w.heap.size, 2, .bool b1), (w.heap.size, 3, .slice p1 n1 c1)] [] ((w.alloc (.cells #[.bool b0, .slice p0 n0 c0, .bool b1, .slice p1 n1 c1] 46)).alloc (.cells #[.bool b2, .slice p2 n2 c2, .bool b3, .slice p3 n3 c3] 46)) := S.box (w.heap.size + 1) [.bool b2, .slice p2 n2 c2, .bool b3, .slice p3 n3 c3] 46 (by simp)
  replace S : St w [(w.heap.size + 1 + 1, 0, .bool false), (w.heap.size + 1 + 1, 1, .slice none 0 0), (w.heap.size + 1 + 1, 2, .bool false), (w.heap.size + 1 + 1, 3, .slice none 0 0), (w.heap.size + 1, 0, .bool b2), (w.heap.size + 1, 1, .slice p2 n2 c2), (w.heap.size + 1, 2, .bool b3), (w.heap.size + 1, 3, .slice p3 n3 c3), (w.heap.size, 0, .bool b0), (w.heap.size, 1, .slice p0 n0 c0), (w.heap.size, 2, .bool b1), (w.heap.size, 3, .slice p1 n1 c1)] [(w.heap.size + 1 + 1, 0), (w.heap.size + 1 + 1, 1), (w.heap.size + 1 + 1, 2), (w.heap.size + 1 + 1, 3)] (((w.alloc (.cells #[.bool b0, .slice p0 n0 c0, .bool b1, .slice p1 n1 c1] 46)).alloc (.cells #[.bool b2, .slice p2 n2 c2, .bool b3, .slice p3 n3 c3] 46)).alloc (.cells #[.bool false, .slice none 0 0, .bool false, .slice none 0 0] 46)) := S.made (w.heap.size + 1 + 1) [.bool false, .slice none 0 0, .bool false, .slice none 0 0] 46 (by simp)
  replace Hx := Lib.hid (Hx.out.kp (((Kp.of (grown_alloc w (.cells #[.bool b0, .slice p0 n0 c0, .bool b1, .slice p1 n1 c1] 46) none)).trans (Kp.of (grown_alloc ((w.alloc (.cells #[.bool b0, .slice p0 n0 c0, .bool b1, .slice p1 n1 c1] 46))) (.cells #[.bool b2, .slice p2 n2 c2, .bool b3, .slice p3 n3 c3] 46) none))).trans (Kp.of (grown_alloc (((w.alloc (.cells #[.bool b0, .slice p0 n0 c0, .bool b1, .slice p1 n1 c1] 46)).alloc (.cells #[.bool b2, .slice p2 n2 c2, .bool b3, .slice p3 n3 c3] 46))) (.cells #[.bool false, .slice none 0 0, .bool false, .slice none 0 0] 46) none))))
  replace Hy := Lib.hid (Hy.out.kp (((Kp.of (grown_alloc w (.cells #[.bool b0, .slice p0 n0 c0, .bool b1, .slice p1 n1 c1] 46) none)).trans (Kp.of (grown_alloc ((w.alloc (.cells #[.bool b0, .slice p0 n0 c0, .bool b1, .slice p1 n1 c1] 46))) (.cells #[.bool b2, .slice p2 n2 c2, .bool b3, .slice p3 n3 c3] 46) none))).trans (Kp.of (grown_alloc (((w.alloc (.cells #[.bool b0, .slice p0 n0 c0, .bool b1, .slice p1 n1 c1] 46)).alloc (.cells #[.bool b2, .slice p2 n2 c2, .bool b3, .slice p3 n3 c3] 46))) (.cells #[.bool false, .slice none 0 0, .bool false, .slice none 0 0] 46) none))))
  have sz10 : (((w.alloc (.cells #[.bool b0, .slice p0 n0 c0, .bool b1, .slice p1 n1 c1] 46)).alloc (.cells #[.bool b2, .slice p2 n2 c2, .bool b3, .slice p3 n3 c3] 46)).alloc (.cells #[.bool false, .slice none 0 0, .bool false, .slice none 0 0] 46)).heap.size = w.heap.size + 3 := by simp
  generalize (((w.alloc (.cells #[.bool b0, .slice p0 n0 c0, .bool b1, .slice p1 n1 c1] 46)).alloc (.cells #[.bool b2, .slice p2 n2 c2, .bool b3, .slice p3 n3 c3] 46)).alloc (.cells #[.bool false, .slice none 0 0, .bool false, .slice none 0 0] 46)) = W10 at *
  go_at_call 95
  with_reducible refine (Parts_g Hx.out (by omega)).mono ?_
  rintro e w12 ⟨b11, p11, n11, c11, d11, q11, m11, f11, z11, y11, rfl, h, h', y0, eq, g⟩
  clear Hx
  replace Hy := Lib.hid (Hy.out.kp (Kp.of g))
  have Y11 := Lib.hid y0
  have Q11 := Lib.hid eq
  have N11 := Lib.hid (h)
  have M11 := Lib.hid (h')
  replace S := S.step g
  have lg12 := g.size
  clear g h h' y0 eq
  have l0 := S.ltc (g := w.heap.size) (o := 0) (x := .bool b0) (by simp)
  have l1 := S.ltc (g := w.heap.size + 1) (o := 0) (x := .bool b2) (by simp)
  have l2 := S.ltc (g := w.heap.size + 1 + 1) (o := 0) (x := .bool false) (by simp)
  have lS := S.size
  obtain ⟨e0, e1, e2, e3, e4, e5, e6, e7, e8, e9, e10, e11, h0, i0, h1, i1, h2, i2, h3, i3, G⟩ := id S
  go_wp2_with fail
  clear e0 e1 e2 e3 e4 e5 e6 e7 e8 e9 e10 e11 h0 i0 h1 i1 h2 i2 h3 i3 G
  replace S : St w [(w12.heap.size, 0, .bool b11), (w12.heap.size, 1, .slice p11 n11 c11), (w.heap.size + 1 + 1, 0, .bool false), (w.heap.size + 1 + 1, 1, .slice none 0 0), (w.heap.size + 1 + 1, 2, .bool false), (w.heap.size + 1 + 1, 3, .slice none 0 0), (w.heap.size + 1, 0, .bool b2), (w.heap.size + 1, 1, .slice p2 n2 c2), (w.heap.size + 1, 2, .bool b3), (w.heap.size + 1, 3, .slice p3 n3 c3), (w.heap.size, 0, .bool b0), (w.heap.size, 1, .slice p0 n0 c0), (w.heap.size, 2, .bool b1), (w.heap.size, 3, .slice p1 n1 c1)] [(w12.heap.size, 0), (w12.heap.size, 1), (w.heap.size + 1 + 1, 0), (w.heap.size + 1 + 1, 1), (w.heap.size + 1 + 1, 2), (w.heap.size + 1 + 1, 3)] (w12.alloc (.cells #[.bool b11, .slice p11 n11 c11] 24)) := S.made (w12.heap.size) [.bool b11, .slice p11 n11 c11] 24 (by simp)
  replace S : St w [(w12.heap.size + 1, 0, .bool d11), (w12.heap.size + 1, 1, .slice q11 m11 f11), (w12.heap.size, 0, .bool b11), (w12.heap.size, 1, .slice p11 n11 c11), (w.heap.size + 1 + 1, 0, .bool false), (w.heap.size + 1 + 1, 1, .slice none 0 0), (w.heap.size + 1 + 1, 2, .bool false), (w.heap.size + 1 + 1, 3, .slice none 0 0), (w.heap.size + 1, 0, .bool b2), (w.heap.size + 1, 1, .slice p2 n2 c2), (w.heap.size + 1, 2, .bool b3), (w.heap.size + 1, 3, .slice p3 n3 c3), (w.heap.size, 0, .bool b0), (w.heap.size, 1, .slice p0 n0 c0), (w.heap.size, 2, .bool b1), (w.heap.size, 3, .slice p1 n1 c1)] [(w12.heap.size + 1, 0), (w12.heap.size + 1, 1), (w12.heap.size, 0), (w12.heap.size, 1), (w.heap.size + 1 + 1, 0), (w.heap.size + 1 + 1, 1), (w.heap.size + 1 + 1, 2), (w.heap.size + 1 + 1, 3)] ((w12.alloc (.cells #[.bool b11, .slice p11 n11 c11] 24)).alloc (.cells #[.bool d11, .slice q11 m11 f11] 24)) := S.made (w12.heap.size + 1) [.bool d11, .slice q11 m11 f11] 24 (by simp)
  replace Hy := Lib.hid (Hy.out.kp ((Kp.of (grown_alloc w12 (.cells #[.bool b11, .slice p11 n11 c11] 24) none)).trans (Kp.of (grown_alloc ((w12.alloc (.cells #[.bool b11, .slice p11 n11 c11] 24))) (.cells #[.bool d11, .slice q11 m11 f11] 24) none))))
  replace N11 := Lib.hid (N11.out.kp ((Kp.of (grown_alloc w12 (.cells #[.bool b11, .slice p11 n11 c11] 24) none)).trans (Kp.of (grown_alloc ((w12.alloc (.cells #[.bool b11, .slice p11 n11 c11] 24))) (.cells #[.bool d11, .slice q11 m11 f11] 24) none))))
  replace M11 := Lib.hid (M11.out.kp ((Kp.of (grown_alloc w12 (.cells #[.bool b11, .slice p11 n11 c11] 24) none)).trans (Kp.of (grown_alloc ((w12.alloc (.cells #[.bool b11, .slice p11 n11 c11] 24))) (.cells #[.bool d11, .slice q11 m11 f11] 24) none))))
  have sz13 : ((w12.alloc (.cells #[.bool b11, .slice p11 n11 c11] 24)).alloc (.cells #[.bool d11, .slice q11 m11 f11] 24)).heap.size = w12.heap.size + 2 := by simp
  generalize ((w12.alloc (.cells #[.bool b11, .slice p11 n11 c11] 24)).alloc (.cells #[.bool d11, .slice q11 m11 f11] 24)) = W13 at *
  go_at_call 95
  with_reducible refine (Parts_g Hy.out (by omega)).mono ?_
  rintro e w15 ⟨b14, p14, n14, c14, d14, q14, m14, f14, z14, y14, rfl, h, h', y0, eq, g⟩
  clear Hy
  replace N11 := Lib.hid (N11.out.kp (Kp.of g))
  replace M11 := Lib.hid (M11.out.kp (Kp.of g))
  have Y14 := Lib.hid y0
  have Q14 := Lib.hid eq
  have N14 := Lib.hid (h)
  have M14 := Lib.hid (h')
  replace S := S.step g
  have lg15 := g.size
  clear g h h' y0 eq l0 l1 l2 lS
  have l0 := S.ltc (g := w.heap.size) (o := 0) (x := .bool b0) (by simp)
  have l1 := S.ltc (g := w.heap.size + 1) (o := 0) (x := .bool b2) (by simp)
  have l2 := S.ltc (g := w.heap.size + 1 + 1) (o := 0) (x := .bool false) (by simp)
  have l3 := S.ltc (g := w12.heap.size) (o := 0) (x := .bool b11) (by simp)
  have l4 := S.ltc (g := w12.heap.size + 1) (o := 0) (x := .bool d11) (by simp)
  have lS := S.size
  obtain ⟨e0, e1, e2, e3, e4, e5, e6, e7, e8, e9, e10, e11, e12, e13, e14, e15, h0, i0, h1, i1, h2, i2, h3, i3, h4, i4, h5, i5, h6, i6, h7, i7, G⟩ := id S
  go_wp2_with fail
  clear e0 e1 e2 e3 e4 e5 e6 e7 e8 e9 e10 e11 e12 e13 e14 e15 h0 i0 h1 i1 h2 i2 h3 i3 h4 i4 h5 i5 h6 i6 h7 i7 G
  replace S : St w [(w15.heap.size, 0, .bool b14), (w15.heap.size, 1, .slice p14 n14 c14), (w12.heap.size + 1, 0, .bool d11), (w12.heap.size + 1, 1, .slice q11 m11 f11), (w12.heap.size, 0, .bool b11), (w12.heap.size, 1, .slice p11 n11 c11), (w.heap.size + 1 + 1, 0, .bool false), (w.heap.size + 1 + 1, 1, .slice none 0 0), (w.heap.size + 1 + 1, 2, .bool false), (w.heap.size + 1 + 1, 3, .slice none 0 0), (w.heap.size + 1, 0, .bool b2), (w.heap.size + 1, 1, .slice p2 n2 c2), (w.heap.size + 1, 2, .bool b3), (w.heap.size + 1, 3, .slice p3 n3 c3), (w.heap.size, 0, .bool b0), (w.heap.size, 1, .slice p0 n0 c0), (w.heap.size, 2, .bool b1), (w.heap.size, 3, .slice p1 n1 c1)] [(w15.heap.size, 0), (w15.heap.size, 1), (w12.heap.size + 1, 0), (w12.heap.size + 1, 1), (w12.heap.size, 0), (w12.heap.size, 1), (w.heap.size + 1 + 1, 0), (w.heap.size + 1 + 1, 1), (w.heap.size + 1 + 1, 2), (w.heap.size + 1 + 1, 3)] (w15.alloc (.cells #[.bool b14, .slice p14 n14 c14] 24)) := S.made (w15.heap.size) [.bool b14, .slice p14 n14 c14] 24 (by simp)
  replace S : St w [(w15.heap.size + 1, 0, .bool d14), (w15.heap.size + 1, 1, .slice q14 m14 f14), (w15.heap.size, 0, .bool b14), (w15.heap.size, 1, .slice p14 n14 c14), (w12.heap.size + 1, 0, .bool d11), (w12.heap.size + 1, 1, .slice q11 m11 f11), (w12.heap.size, 0, .bool b11), (w12.heap.size, 1, .slice p11 n11 c11), (w.heap.size + 1 + 1, 0, .bool false), (w.heap.size + 1 + 1, 1, .slice none 0 0), (w.heap.size + 1 + 1, 2, .bool false), (w.heap.size + 1 + 1, 3, .slice none 0 0), (w.heap.size + 1, 0, .bool b2), (w.heap.size + 1, 1, .slice p2 n2 c2), (w.heap.size + 1, 2, .bool b3), (w.heap.size + 1, 3, .slice p3 n3 c3), (w.heap.size, 0, .bool b0), (w.heap.size, 1, .slice p0 n0 c0), (w.heap.size, 2, .bool b1), (w.heap.size, 3, .slice p1 n1 c1)] [(w15.heap.size + 1, 0), (w15.heap.size + 1, 1), (w15.heap.size, 0), (w15.heap.size, 1), (w12.heap.size + 1, 0), (w12.heap.size + 1, 1), (w12.heap.size, 0), (w12.heap.size, 1), (w.heap.size + 1 + 1, 0), (w.heap.size + 1 + 1, 1), (w.heap.size + 1 + 1, 2), (w.heap.size + 1 + 1, 3)] ((w15.alloc (.cells #[.bool b14, .slice p14 n14 c14] 24)).alloc (.cells #[.bool d14, .slice q14 m14 f14] 24)) := S.made (w15.heap.size + 1) [.bool d14, .slice q14 m14 f14] 24 (by simp)
  replace N11 := Lib.hid (N11.out.kp ((Kp.of (grown_alloc w15 (.cells #[.bool b14, .slice p14 n14 c14] 24) none)).trans (Kp.of (grown_alloc ((w15.alloc (.cells #[.bool b14, .slice p14 n14 c14] 24))) (.cells #[.bool d14, .slice q14 m14 f14] 24) none))))
  replace M11 := Lib.hid (M11.out.kp ((Kp.of (grown_alloc w15 (.cells #[.bool b14, .slice p14 n14 c14] 24) none)).trans (Kp.of (grown_alloc ((w15.alloc (.cells #[.bool b14, .slice p14 n14 c14] 24))) (.cells #[.bool d14, .slice q14 m14 f14] 24) none))))
  replace N14 := Lib.hid (N14.out.kp ((Kp.of (grown_alloc w15 (.cells #[.bool b14, .slice p14 n14 c14] 24) none)).trans (Kp.of (grown_alloc ((w15.alloc (.cells #[.bool b14, .slice p14 n14 c14] 24))) (.cells #[.bool d14, .slice q14 m14 f14] 24) none))))
  replace M14 := Lib.hid (M14.out.kp ((Kp.of (grown_alloc w15 (.cells #[.bool b14, .slice p14 n14 c14] 24) none)).trans (Kp.of (grown_alloc ((w15.alloc (.cells #[.bool b14, .slice p14 n14 c14] 24))) (.cells #[.bool d14, .slice q14 m14 f14] 24) none))))
  have sz16 : ((w15.alloc (.cells #[.bool b14, .slice p14 n14 c14] 24)).alloc (.cells #[.bool d14, .slice q14 m14 f14] 24)).heap.size = w15.heap.size + 2 := by simp
  generalize ((w15.alloc (.cells #[.bool b14, .slice p14 n14 c14] 24)).alloc (.cells #[.bool d14, .slice q14 m14 f14] 24)) = W16 at *
  have T0 : Cl [(w12.heap.size, 0, .bool b11), (w12.heap.size, 1, .slice p11 n11 c11), (w15.heap.size + 1, 0, .bool d14), (w15.heap.size + 1, 1, .slice q14 m14 f14), (w12.heap.size + 1, 0, .bool d11), (w12.heap.size + 1, 1, .slice q11 m11 f11), (w15.heap.size, 0, .bool b14), (w15.heap.size, 1, .slice p14 n14 c14)] W16 := S.cl (by simp)
  refine wp_region_noPanic ?_
  refine wp_region_held_drew (S := fun w' => w'.cell? ⟨w12.heap.size, 0, none⟩ = some (.bool b11) ∧ w'.cell? ⟨w12.heap.size, 1, none⟩ = some (.slice p11 n11 c11) ∧ w'.cell? ⟨w15.heap.size + 1, 0, none⟩ = some (.bool d14) ∧ w'.cell? ⟨w15.heap.size + 1, 1, none⟩ = some (.slice q14 m14 f14) ∧ w'.cell? ⟨w12.heap.size + 1, 0, none⟩ = some (.bool d11) ∧ w'.cell? ⟨w12.heap.size + 1, 1, none⟩ = some (.slice q11 m11 f11) ∧ w'.cell? ⟨w15.heap.size, 0, none⟩ = some (.bool b14) ∧ w'.cell? ⟨w15.heap.size, 1, none⟩ = some (.slice p14 n14 c14) ∧ True) (by kernel_rfl) (by exact Cl.step (cs := [(w12.heap.size, 0, .bool b11), (w12.heap.size, 1, .slice p11 n11 c11), (w15.heap.size + 1, 0, .bool d14), (w15.heap.size + 1, 1, .slice q14 m14 f14), (w12.heap.size + 1, 0, .bool d11), (w12.heap.size + 1, 1, .slice q11 m11 f11), (w15.heap.size, 0, .bool b14), (w15.heap.size, 1, .slice p14 n14 c14)]) (grown_drew _ _) T0) (fun hHeld => ?_)
  change wpAnyH _ _ _ _ _ 11 #[false, false, false, false, false, false, false, false, false, false, false] _ _
  replace S := S.step (grown_drew W16 none)
  replace N11 := Lib.hid (N11.out.kp (Kp.of (grown_drew W16 none)))
  replace M11 := Lib.hid (M11.out.kp (Kp.of (grown_drew W16 none)))
  replace N14 := Lib.hid (N14.out.kp (Kp.of (grown_drew W16 none)))
  replace M14 := Lib.hid (M14.out.kp (Kp.of (grown_drew W16 none)))
  have lg17 := (grown_drew W16 none).size
  clear T0
  generalize W16.drew = wr17 at *
  clear l0 l1 l2 l3 l4 lS
  have l0 := S.ltc (g := w.heap.size) (o := 0) (x := .bool b0) (by simp)
  have l1 := S.ltc (g := w.heap.size + 1) (o := 0) (x := .bool b2) (by simp)
  have l2 := S.ltc (g := w.heap.size + 1 + 1) (o := 0) (x := .bool false) (by simp)
  have l3 := S.ltc (g := w12.heap.size) (o := 0) (x := .bool b11) (by simp)
  have l4 := S.ltc (g := w12.heap.size + 1) (o := 0) (x := .bool d11) (by simp)
  have l5 := S.ltc (g := w15.heap.size) (o := 0) (x := .bool b14) (by simp)
  have l6 := S.ltc (g := w15.heap.size + 1) (o := 0) (x := .bool d14) (by simp)
  have lS := S.size
  refine wpAnyH_take (i := 0) (oi := _) (v := ?vq18) rfl (by kernel_rfl) (by kernel_rfl) (by kernel_rfl) (fun _ _ _ h => h) (Or.inl ⟨by rfl, ?hyq18⟩) (by assumption) ?restq18
  case hyq18 => (intro w hSw; (try dsimp only at hSw); go_simp; try with_reducible rfl)
  try simp only [Act.put, List.getElem_toArray, List.getElem_cons_zero, List.setIfInBounds_toArray, List.set_cons_zero, List.set_cons_succ]
  refine wpAnyH_take (i := 1) (oi := _) (v := ?vq19) rfl (by kernel_rfl) (by kernel_rfl) (by kernel_rfl) (fun _ _ _ h => h) (Or.inl ⟨by rfl, ?hyq19⟩) (by assumption) ?restq19
  case hyq19 => (intro w hSw; (try dsimp only at hSw); go_simp; try with_reducible rfl)
  try simp only [Act.put, List.getElem_toArray, List.getElem_cons_zero, List.getElem_cons_succ, List.setIfInBounds_toArray, List.set_cons_zero, List.set_cons_succ]
  refine wpAnyH_take (i := 3) (oi := _) (v := ?vq20) rfl (by kernel_rfl) (by kernel_rfl) (by kernel_rfl) (fun _ _ _ h => h) (Or.inl ⟨by rfl, ?hyq20⟩) (by assumption) ?restq20
  case hyq20 => (intro w hSw; (try dsimp only at hSw); go_simp; try with_reducible rfl)
  try simp only [Act.put, List.getElem_toArray, List.getElem_cons_zero, List.getElem_cons_succ, List.setIfInBounds_toArray, List.set_cons_zero, List.set_cons_succ]
  refine wpAnyH_take (i := 4) (oi := _) (v := ?vq21) rfl (by kernel_rfl) (by kernel_rfl) (by kernel_rfl) (fun _ _ _ h => h) (Or.inl ⟨by rfl, ?hyq21⟩) (by assumption) ?restq21
  case hyq21 => (intro w hSw; (try dsimp only at hSw); go_simp; try with_reducible rfl)
  try simp only [Act.put, List.getElem_toArray, List.getElem_cons_zero, List.getElem_cons_succ, List.setIfInBounds_toArray, List.set_cons_zero, List.set_cons_succ]
  obtain ⟨z23, ez23⟩ : ∃ t : Int, z11 * y14 = t := ⟨_, rfl⟩
  have E23 := Lib.hid ez23
  clear ez23
  refine wpAnyH_ready (rs := [2]) (by kernel_rfl) (by simp) ?_
  refine AllReadyH.cons (o := _) rfl (fun K hK => ?_) AllReadyH.nil
  go_simp
  go_at_call 65
  with_reducible refine (Mul_g N11.out M14.out (by omega) E23.out).mono ?_
  rintro e w24 ⟨b23, p23, n23, c23, rfl, h, g⟩
  clear N11
  replace M11 := Lib.hid (M11.out.kp (Kp.of g))
  replace N14 := Lib.hid (N14.out.kp (Kp.of g))
  clear M14
  have N23 := Lib.hid (h)
  replace S := S.step g
  have lg24 := g.size
  clear l0 l1 l2 l3 l4 l5 l6 lS
  have l0 := S.ltc (g := w.heap.size) (o := 0) (x := .bool b0) (by simp)
  have l1 := S.ltc (g := w.heap.size + 1) (o := 0) (x := .bool b2) (by simp)
  have l2 := S.ltc (g := w.heap.size + 1 + 1) (o := 0) (x := .bool false) (by simp)
  have l3 := S.ltc (g := w12.heap.size) (o := 0) (x := .bool b11) (by simp)
  have l4 := S.ltc (g := w12.heap.size + 1) (o := 0) (x := .bool d11) (by simp)
  have l5 := S.ltc (g := w15.heap.size) (o := 0) (x := .bool b14) (by simp)
  have l6 := S.ltc (g := w15.heap.size + 1) (o := 0) (x := .bool d14) (by simp)
  have lS := S.size
  go_wp2_with fail
  refine hK.out _ _ ?hSq22 (fun hHeld => ?_)
  case hSq22 => exact Cl.step (cs := [(w12.heap.size, 0, .bool b11), (w12.heap.size, 1, .slice p11 n11 c11), (w15.heap.size + 1, 0, .bool d14), (w15.heap.size + 1, 1, .slice q14 m14 f14), (w12.heap.size + 1, 0, .bool d11), (w12.heap.size + 1, 1, .slice q11 m11 f11), (w15.heap.size, 0, .bool b14), (w15.heap.size, 1, .slice p14 n14 c14)]) g (by assumption)
  clear hK K g h
  try simp only [List.setIfInBounds_toArray, List.set_cons_zero, List.set_cons_succ]
  obtain ⟨z26, ez26⟩ : ∃ t : Int, y11 * z14 = t := ⟨_, rfl⟩
  have E26 := Lib.hid ez26
  clear ez26
  refine wpAnyH_ready (rs := [5]) (by kernel_rfl) (by simp) ?_
  refine AllReadyH.cons (o := _) rfl (fun K hK => ?_) AllReadyH.nil
  go_simp
  go_at_call 65
  with_reducible refine (Mul_g M11.out N14.out (by omega) E26.out).mono ?_
  rintro e w27 ⟨b26, p26, n26, c26, rfl, h, g⟩
  clear M11 N14
  replace N23 := Lib.hid (N23.out.kp (Kp.of g))
  have N26 := Lib.hid (h)
  replace S := S.step g
  have lg27 := g.size
  clear l0 l1 l2 l3 l4 l5 l6 lS
  have l0 := S.ltc (g := w.heap.size) (o := 0) (x := .bool b0) (by simp)
  have l1 := S.ltc (g := w.heap.size + 1) (o := 0) (x := .bool b2) (by simp)
  have l2 := S.ltc (g := w.heap.size + 1 + 1) (o := 0) (x := .bool false) (by simp)
  have l3 := S.ltc (g := w12.heap.size) (o := 0) (x := .bool b11) (by simp)
  have l4 := S.ltc (g := w12.heap.size + 1) (o := 0) (x := .bool d11) (by simp)
  have l5 := S.ltc (g := w15.heap.size) (o := 0) (x := .bool b14) (by simp)
  have l6 := S.ltc (g := w15.heap.size + 1) (o := 0) (x := .bool d14) (by simp)
  have lS := S.size
  go_wp2_with fail
  refine hK.out _ _ ?hSq25 (fun hHeld => ?_)
  case hSq25 => exact Cl.step (cs := [(w12.heap.size, 0, .bool b11), (w12.heap.size, 1, .slice p11 n11 c11), (w15.heap.size + 1, 0, .bool d14), (w15.heap.size + 1, 1, .slice q14 m14 f14), (w12.heap.size + 1, 0, .bool d11), (w12.heap.size + 1, 1, .slice q11 m11 f11), (w15.heap.size, 0, .bool b14), (w15.heap.size, 1, .slice p14 n14 c14)]) g (by assumption)
  clear hK K g h
  try simp only [List.setIfInBounds_toArray, List.set_cons_zero, List.set_cons_succ]
  obtain ⟨z29, ez29⟩ : ∃ t : Rat, Rat.divInt z23 z26 = t := ⟨_, rfl⟩
  have E29 := Lib.hid ez29
  clear ez29
  refine wpAnyH_ready (rs := [6]) (by kernel_rfl) (by simp) ?_
  refine AllReadyH.cons (o := _) rfl (fun K hK => ?_) AllReadyH.nil
  go_simp
  go_at_call 32
  with_reducible refine (RMake_g N23.out.i N26.out.i (by omega) (by rw [← E26.out]; exact quo_ne Y11.out Y14.out (by rw [Q14.out]; exact R0.out)) E29.out).mono ?_
  rintro e w30 ⟨b29, p29, n29, c29, d29, q29, m29, f29, rfl, h, g⟩
  clear N23 N26
  have N29 := Lib.hid (h)
  replace S := S.step g
  have lg30 := g.size
  clear l0 l1 l2 l3 l4 l5 l6 lS
  have l0 := S.ltc (g := w.heap.size) (o := 0) (x := .bool b0) (by simp)
  have l1 := S.ltc (g := w.heap.size + 1) (o := 0) (x := .bool b2) (by simp)
  have l2 := S.ltc (g := w.heap.size + 1 + 1) (o := 0) (x := .bool false) (by simp)
  have l3 := S.ltc (g := w12.heap.size) (o := 0) (x := .bool b11) (by simp)
  have l4 := S.ltc (g := w12.heap.size + 1) (o := 0) (x := .bool d11) (by simp)
  have l5 := S.ltc (g := w15.heap.size) (o := 0) (x := .bool b14) (by simp)
  have l6 := S.ltc (g := w15.heap.size + 1) (o := 0) (x := .bool d14) (by simp)
  have lS := S.size
  go_wp2_with fail
  refine hK.out _ _ ?hSq28 (fun hHeld => ?_)
  case hSq28 => exact Cl.step (cs := [(w12.heap.size, 0, .bool b11), (w12.heap.size, 1, .slice p11 n11 c11), (w15.heap.size + 1, 0, .bool d14), (w15.heap.size + 1, 1, .slice q14 m14 f14), (w12.heap.size + 1, 0, .bool d11), (w12.heap.size + 1, 1, .slice q11 m11 f11), (w15.heap.size, 0, .bool b14), (w15.heap.size, 1, .slice p14 n14 c14)]) g (by assumption)
  clear hK K g h
  try simp only [List.setIfInBounds_toArray, List.set_cons_zero, List.set_cons_succ]
  refine wpAnyH_take (i := 7) (oi := _) (v := ?vq31) rfl (by kernel_rfl) (by kernel_rfl) (by kernel_rfl) (fun _ _ _ h => h) (Or.inl ⟨by rfl, ?hyq31⟩) (by assumption) ?restq31
  case hyq31 => (intro w hSw; (try dsimp only at hSw); go_simp; try with_reducible rfl)
  try simp only [Act.put, List.getElem_toArray, List.getElem_cons_zero, List.getElem_cons_succ, List.setIfInBounds_toArray, List.set_cons_zero, List.set_cons_succ]
  refine wpAnyH_take (i := 8) (oi := _) (v := ?vq32) rfl (by kernel_rfl) (by kernel_rfl) (by kernel_rfl) (fun _ _ _ h => h) (Or.inl ⟨by rfl, ?hyq32⟩) (by assumption) ?restq32
  case hyq32 => (intro w hSw; (try dsimp only at hSw); go_simp; try with_reducible rfl)
  try simp only [Act.put, List.getElem_toArray, List.getElem_cons_zero, List.getElem_cons_succ, List.setIfInBounds_toArray, List.set_cons_zero, List.set_cons_succ]
  obtain ⟨e0, e1, e2, e3, e4, e5, e6, e7, e8, e9, e10, e11, e12, e13, e14, e15, e16, e17, e18, e19, h0, i0, h1, i1, h2, i2, h3, i3, h4, i4, h5, i5, h6, i6, h7, i7, h8, i8, h9, i9, h10, i10, h11, i11, G⟩ := id S
  refine wpAnyH_ready (rs := [9]) (by kernel_rfl) (by simp) ?_
  refine AllReadyH.cons (o := _) rfl (fun K hK => ?_) AllReadyH.nil
  go_simp
  refine hK.out _ _ ?hSq33 (fun hHeld => ?_)
  case hSq33 => exact (Cl.set (cs := [(w12.heap.size, 0, .bool b11), (w12.heap.size, 1, .slice p11 n11 c11), (w15.heap.size + 1, 0, .bool d14), (w15.heap.size + 1, 1, .slice q14 m14 f14), (w12.heap.size + 1, 0, .bool d11), (w12.heap.size + 1, 1, .slice q11 m11 f11), (w15.heap.size, 0, .bool b14), (w15.heap.size, 1, .slice p14 n14 c14)]) (g := w.heap.size + 1 + 1) (o := 3) (u := .slice q29 m29 f29) (Cl.set (cs := [(w12.heap.size, 0, .bool b11), (w12.heap.size, 1, .slice p11 n11 c11), (w15.heap.size + 1, 0, .bool d14), (w15.heap.size + 1, 1, .slice q14 m14 f14), (w12.heap.size + 1, 0, .bool d11), (w12.heap.size + 1, 1, .slice q11 m11 f11), (w15.heap.size, 0, .bool b14), (w15.heap.size, 1, .slice p14 n14 c14)]) (g := w.heap.size + 1 + 1) (o := 2) (u := .bool d29) (Cl.set (cs := [(w12.heap.size, 0, .bool b11), (w12.heap.size, 1, .slice p11 n11 c11), (w15.heap.size + 1, 0, .bool d14), (w15.heap.size + 1, 1, .slice q14 m14 f14), (w12.heap.size + 1, 0, .bool d11), (w12.heap.size + 1, 1, .slice q11 m11 f11), (w15.heap.size, 0, .bool b14), (w15.heap.size, 1, .slice p14 n14 c14)]) (g := w.heap.size + 1 + 1) (o := 1) (u := .slice p29 n29 c29) (Cl.set (cs := [(w12.heap.size, 0, .bool b11), (w12.heap.size, 1, .slice p11 n11 c11), (w15.heap.size + 1, 0, .bool d14), (w15.heap.size + 1, 1, .slice q14 m14 f14), (w12.heap.size + 1, 0, .bool d11), (w12.heap.size + 1, 1, .slice q11 m11 f11), (w15.heap.size, 0, .bool b14), (w15.heap.size, 1, .slice p14 n14 c14)]) (g := w.heap.size + 1 + 1) (o := 0) (u := .bool b29) (by assumption) (by simp <;> omega)) (by simp <;> omega)) (by simp <;> omega)) (by simp <;> omega))
  clear hK K
  try simp only [List.setIfInBounds_toArray, List.set_cons_zero, List.set_cons_succ]
  clear e0 e1 e2 e3 e4 e5 e6 e7 e8 e9 e10 e11 e12 e13 e14 e15 e16 e17 e18 e19 h0 i0 h1 i1 h2 i2 h3 i3 h4 i4 h5 i5 h6 i6 h7 i7 h8 i8 h9 i9 h10 i10 h11 i11 G
  have K34 : Kp w30 (w30.setCell ⟨w.heap.size + 1 + 1, 0, none⟩ (.bool b29)) := S.kp (g := w.heap.size + 1 + 1) (o := 0) (x := .bool false) (.bool b29) (by simp) (by simp)
  replace S : St w [(w.heap.size + 1 + 1, 0, .bool b29), (w15.heap.size + 1, 0, .bool d14), (w15.heap.size + 1, 1, .slice q14 m14 f14), (w15.heap.size, 0, .bool b14), (w15.heap.size, 1, .slice p14 n14 c14), (w12.heap.size + 1, 0, .bool d11), (w12.heap.size + 1, 1, .slice q11 m11 f11), (w12.heap.size, 0, .bool b11), (w12.heap.size, 1, .slice p11 n11 c11), (w.heap.size + 1 + 1, 1, .slice none 0 0), (w.heap.size + 1 + 1, 2, .bool false), (w.heap.size + 1 + 1, 3, .slice none 0 0), (w.heap.size + 1, 0, .bool b2), (w.heap.size + 1, 1, .slice p2 n2 c2), (w.heap.size + 1, 2, .bool b3), (w.heap.size + 1, 3, .slice p3 n3 c3), (w.heap.size, 0, .bool b0), (w.heap.size, 1, .slice p0 n0 c0), (w.heap.size, 2, .bool b1), (w.heap.size, 3, .slice p1 n1 c1)] [(w15.heap.size + 1, 0), (w15.heap.size + 1, 1), (w15.heap.size, 0), (w15.heap.size, 1), (w12.heap.size + 1, 0), (w12.heap.size + 1, 1), (w12.heap.size, 0), (w12.heap.size, 1), (w.heap.size + 1 + 1, 0), (w.heap.size + 1 + 1, 1), (w.heap.size + 1 + 1, 2), (w.heap.size + 1 + 1, 3)] (w30.setCell ⟨w.heap.size + 1 + 1, 0, none⟩ (.bool b29)) := S.set (g := w.heap.size + 1 + 1) (o := 0) (.bool b29) (by simp) (by simp <;> omega) (by omega)
  have K35 : Kp (w30.setCell ⟨w.heap.size + 1 + 1, 0, none⟩ (.bool b29)) ((w30.setCell ⟨w.heap.size + 1 + 1, 0, none⟩ (.bool b29)).setCell ⟨w.heap.size + 1 + 1, 1, none⟩ (.slice p29 n29 c29)) := S.kp (g := w.heap.size + 1 + 1) (o := 1) (x := .slice none 0 0) (.slice p29 n29 c29) (by simp) (by simp)
  replace S : St w [(w.heap.size + 1 + 1, 1, .slice p29 n29 c29), (w15.heap.size + 1, 0, .bool d14), (w15.heap.size + 1, 1, .slice q14 m14 f14), (w15.heap.size, 0, .bool b14), (w15.heap.size, 1, .slice p14 n14 c14), (w12.heap.size + 1, 0, .bool d11), (w12.heap.size + 1, 1, .slice q11 m11 f11), (w12.heap.size, 0, .bool b11), (w12.heap.size, 1, .slice p11 n11 c11), (w.heap.size + 1 + 1, 0, .bool b29), (w.heap.size + 1 + 1, 2, .bool false), (w.heap.size + 1 + 1, 3, .slice none 0 0), (w.heap.size + 1, 0, .bool b2), (w.heap.size + 1, 1, .slice p2 n2 c2), (w.heap.size + 1, 2, .bool b3), (w.heap.size + 1, 3, .slice p3 n3 c3), (w.heap.size, 0, .bool b0), (w.heap.size, 1, .slice p0 n0 c0), (w.heap.size, 2, .bool b1), (w.heap.size, 3, .slice p1 n1 c1)] [(w15.heap.size + 1, 0), (w15.heap.size + 1, 1), (w15.heap.size, 0), (w15.heap.size, 1), (w12.heap.size + 1, 0), (w12.heap.size + 1, 1), (w12.heap.size, 0), (w12.heap.size, 1), (w.heap.size + 1 + 1, 0), (w.heap.size + 1 + 1, 1), (w.heap.size + 1 + 1, 2), (w.heap.size + 1 + 1, 3)] ((w30.setCell ⟨w.heap.size + 1 + 1, 0, none⟩ (.bool b29)).setCell ⟨w.heap.size + 1 + 1, 1, none⟩ (.slice p29 n29 c29)) := S.set (g := w.heap.size + 1 + 1) (o := 1) (.slice p29 n29 c29) (by simp) (by simp <;> omega) (by omega)
  have K36 : Kp ((w30.setCell ⟨w.heap.size + 1 + 1, 0, none⟩ (.bool b29)).setCell ⟨w.heap.size + 1 + 1, 1, none⟩ (.slice p29 n29 c29)) (((w30.setCell ⟨w.heap.size + 1 + 1, 0, none⟩ (.bool b29)).setCell ⟨w.heap.size + 1 + 1, 1, none⟩ (.slice p29 n29 c29)).setCell ⟨w.heap.size + 1 + 1, 2, none⟩ (.bool d29)) := S.kp (g := w.heap.size + 1 + 1) (o := 2) (x := .bool false) (.bool d29) (by simp) (by simp)
  replace S : St w [(w.heap.size + 1 + 1, 2, .bool d29), (w15.heap.size + 1, 0, .bool d14), (w15.heap.size + 1, 1, .slice q14 m14 f14), (w15.heap.size, 0, .bool b14), (w15.heap.size, 1, .slice p14 n14 c14), (w12.heap.size + 1, 0, .bool d11), (w12.heap.size + 1, 1, .slice q11 m11 f11), (w12.heap.size, 0, .bool b11), (w12.heap.size, 1, .slice p11 n11 c11), (w.heap.size + 1 + 1, 0, .bool b29), (w.heap.size + 1 + 1, 1, .slice p29 n29 c29), (w.heap.size + 1 + 1, 3, .slice none 0 0), (w.heap.size + 1, 0, .bool b2), (w.heap.size + 1, 1, .slice p2 n2 c2), (w.heap.size + 1, 2, .bool b3), (w.heap.size + 1, 3, .slice p3 n3 c3), (w.heap.size, 0, .bool b0), (w.heap.size, 1, .slice p0 n0 c0), (w.heap.size, 2, .bool b1), (w.heap.size, 3, .slice p1 n1 c1)] [(w15.heap.size + 1, 0), (w15.heap.size + 1, 1), (w15.heap.size, 0), (w15.heap.size, 1), (w12.heap.size + 1, 0), (w12.heap.size + 1, 1), (w12.heap.size, 0), (w12.heap.size, 1), (w.heap.size + 1 + 1, 0), (w.heap.size + 1 + 1, 1), (w.heap.size + 1 + 1, 2), (w.heap.size + 1 + 1, 3)] (((w30.setCell ⟨w.heap.size + 1 + 1, 0, none⟩ (.bool b29)).setCell ⟨w.heap.size + 1 + 1, 1, none⟩ (.slice p29 n29 c29)).setCell ⟨w.heap.size + 1 + 1, 2, none⟩ (.bool d29)) := S.set (g := w.heap.size + 1 + 1) (o := 2) (.bool d29) (by simp) (by simp <;> omega) (by omega)
  have K37 : Kp (((w30.setCell ⟨w.heap.size + 1 + 1, 0, none⟩ (.bool b29)).setCell ⟨w.heap.size + 1 + 1, 1, none⟩ (.slice p29 n29 c29)).setCell ⟨w.heap.size + 1 + 1, 2, none⟩ (.bool d29)) ((((w30.setCell ⟨w.heap.size + 1 + 1, 0, none⟩ (.bool b29)).setCell ⟨w.heap.size + 1 + 1, 1, none⟩ (.slice p29 n29 c29)).setCell ⟨w.heap.size + 1 + 1, 2, none⟩ (.bool d29)).setCell ⟨w.heap.size + 1 + 1, 3, none⟩ (.slice q29 m29 f29)) := S.kp (g := w.heap.size + 1 + 1) (o := 3) (x := .slice none 0 0) (.slice q29 m29 f29) (by simp) (by simp)
  replace S : St w [(w.heap.size + 1 + 1, 3, .slice q29 m29 f29), (w15.heap.size + 1, 0, .bool d14), (w15.heap.size + 1, 1, .slice q14 m14 f14), (w15.heap.size, 0, .bool b14), (w15.heap.size, 1, .slice p14 n14 c14), (w12.heap.size + 1, 0, .bool d11), (w12.heap.size + 1, 1, .slice q11 m11 f11), (w12.heap.size, 0, .bool b11), (w12.heap.size, 1, .slice p11 n11 c11), (w.heap.size + 1 + 1, 0, .bool b29), (w.heap.size + 1 + 1, 1, .slice p29 n29 c29), (w.heap.size + 1 + 1, 2, .bool d29), (w.heap.size + 1, 0, .bool b2), (w.heap.size + 1, 1, .slice p2 n2 c2), (w.heap.size + 1, 2, .bool b3), (w.heap.size + 1, 3, .slice p3 n3 c3), (w.heap.size, 0, .bool b0), (w.heap.size, 1, .slice p0 n0 c0), (w.heap.size, 2, .bool b1), (w.heap.size, 3, .slice p1 n1 c1)] [(w15.heap.size + 1, 0), (w15.heap.size + 1, 1), (w15.heap.size, 0), (w15.heap.size, 1), (w12.heap.size + 1, 0), (w12.heap.size + 1, 1), (w12.heap.size, 0), (w12.heap.size, 1), (w.heap.size + 1 + 1, 0), (w.heap.size + 1 + 1, 1), (w.heap.size + 1 + 1, 2), (w.heap.size + 1 + 1, 3)] ((((w30.setCell ⟨w.heap.size + 1 + 1, 0, none⟩ (.bool b29)).setCell ⟨w.heap.size + 1 + 1, 1, none⟩ (.slice p29 n29 c29)).setCell ⟨w.heap.size + 1 + 1, 2, none⟩ (.bool d29)).setCell ⟨w.heap.size + 1 + 1, 3, none⟩ (.slice q29 m29 f29)) := S.set (g := w.heap.size + 1 + 1) (o := 3) (.slice q29 m29 f29) (by simp) (by simp <;> omega) (by omega)
  replace S : St w [(w15.heap.size + 1, 0, .bool d14), (w15.heap.size + 1, 1, .slice q14 m14 f14), (w15.heap.size, 0, .bool b14), (w15.heap.size, 1, .slice p14 n14 c14), (w12.heap.size + 1, 0, .bool d11), (w12.heap.size + 1, 1, .slice q11 m11 f11), (w12.heap.size, 0, .bool b11), (w12.heap.size, 1, .slice p11 n11 c11), (w.heap.size + 1 + 1, 0, .bool b29), (w.heap.size + 1 + 1, 1, .slice p29 n29 c29), (w.heap.size + 1 + 1, 2, .bool d29), (w.heap.size + 1 + 1, 3, .slice q29 m29 f29), (w.heap.size + 1, 0, .bool b2), (w.heap.size + 1, 1, .slice p2 n2 c2), (w.heap.size + 1, 2, .bool b3), (w.heap.size + 1, 3, .slice p3 n3 c3), (w.heap.size, 0, .bool b0), (w.heap.size, 1, .slice p0 n0 c0), (w.heap.size, 2, .bool b1), (w.heap.size, 3, .slice p1 n1 c1)] [(w15.heap.size + 1, 0), (w15.heap.size + 1, 1), (w15.heap.size, 0), (w15.heap.size, 1), (w12.heap.size + 1, 0), (w12.heap.size + 1, 1), (w12.heap.size, 0), (w12.heap.size, 1), (w.heap.size + 1 + 1, 0), (w.heap.size + 1 + 1, 1), (w.heap.size + 1 + 1, 2), (w.heap.size + 1 + 1, 3)] ((((w30.setCell ⟨w.heap.size + 1 + 1, 0, none⟩ (.bool b29)).setCell ⟨w.heap.size + 1 + 1, 1, none⟩ (.slice p29 n29 c29)).setCell ⟨w.heap.size + 1 + 1, 2, none⟩ (.bool d29)).setCell ⟨w.heap.size + 1 + 1, 3, none⟩ (.slice q29 m29 f29)) := S.sub (by simp) (by simp)
  replace N29 := Lib.hid (N29.out.kp (((K34.trans K35).trans K36).trans K37))
  clear K34 K35 K36 K37
  have sz38 : ((((w30.setCell ⟨w.heap.size + 1 + 1, 0, none⟩ (.bool b29)).setCell ⟨w.heap.size + 1 + 1, 1, none⟩ (.slice p29 n29 c29)).setCell ⟨w.heap.size + 1 + 1, 2, none⟩ (.bool d29)).setCell ⟨w.heap.size + 1 + 1, 3, none⟩ (.slice q29 m29 f29)).heap.size = w30.heap.size := by simp
  generalize ((((w30.setCell ⟨w.heap.size + 1 + 1, 0, none⟩ (.bool b29)).setCell ⟨w.heap.size + 1 + 1, 1, none⟩ (.slice p29 n29 c29)).setCell ⟨w.heap.size + 1 + 1, 2, none⟩ (.bool d29)).setCell ⟨w.heap.size + 1 + 1, 3, none⟩ (.slice q29 m29 f29)) = W38 at *
  clear l0 l1 l2 l3 l4 l5 l6 lS
  have l0 := S.ltc (g := w.heap.size) (o := 0) (x := .bool b0) (by simp)
  have l1 := S.ltc (g := w.heap.size + 1) (o := 0) (x := .bool b2) (by simp)
  have l2 := S.ltc (g := w.heap.size + 1 + 1) (o := 0) (x := .bool b29) (by simp)
  have l3 := S.ltc (g := w12.heap.size) (o := 0) (x := .bool b11) (by simp)
  have l4 := S.ltc (g := w12.heap.size + 1) (o := 0) (x := .bool d11) (by simp)
  have l5 := S.ltc (g := w15.heap.size) (o := 0) (x := .bool b14) (by simp)
  have l6 := S.ltc (g := w15.heap.size + 1) (o := 0) (x := .bool d14) (by simp)
  have lS := S.size
  refine wpAnyH_take (i := 10) (oi := _) (v := ?vq39) rfl (by kernel_rfl) (by kernel_rfl) (by kernel_rfl) (fun _ _ _ h => h) (Or.inl ⟨by rfl, ?hyq39⟩) (by assumption) ?restq39
  case hyq39 => (intro w hSw; (try dsimp only at hSw); go_simp; try with_reducible rfl)
  try simp only [Act.put, List.getElem_toArray, List.getElem_cons_zero, List.getElem_cons_succ, List.setIfInBounds_toArray, List.set_cons_zero, List.set_cons_succ]
  refine wpAnyH_done (by kernel_rfl) ?_ _
  refine NoPanic.normal ?_
  obtain ⟨e0, e1, e2, e3, e4, e5, e6, e7, e8, e9, e10, e11, e12, e13, e14, e15, e16, e17, e18, e19, h0, i0, h1, i1, h2, i2, h3, i3, h4, i4, h5, i5, h6, i6, h7, i7, h8, i8, h9, i9, h10, i10, h11, i11, G⟩ := id S
  go_wp2_with fail
  clear e0 e1 e2 e3 e4 e5 e6 e7 e8 e9 e10 e11 e12 e13 e14 e15 e16 e17 e18 e19 h0 i0 h1 i1 h2 i2 h3 i3 h4 i4 h5 i5 h6 i6 h7 i7 h8 i8 h9 i9 h10 i10 h11 i11 G
  refine post_QE Tryz.results54 rfl rfl rfl (S.cell (g := w.heap.size + 1 + 1) (o := 0) (x := .bool b29) (by simp)) (S.cell (g := w.heap.size + 1 + 1) (o := 1) (x := .slice p29 n29 c29) (by simp)) (S.cell (g := w.heap.size + 1 + 1) (o := 2) (x := .bool d29) (by simp)) (S.cell (g := w.heap.size + 1 + 1) (o := 3) (x := .slice q29 m29 f29) (by simp)) ⟨_, _, _, _, _, _, _, _, rfl, (N29.out.more (by omega) : NorQ _ _ _ _).eq (by rw [← E29.out, ← E23.out, ← E26.out, ← quo_parts, Q11.out, Q14.out]), S.all⟩

set_option maxHeartbeats 4000000 in
set_option maxRecDepth 100000 in
theorem RQuo_0 {v u : Value} {q r : Rat} {i j : Nat} {w : World} (hx : RatV w v q i) (hy : RatV w u r j) (hk : i + j ≤ 50000) (h0 : r = 0) :
    Calls Tryz.prog 54 #[v, u] w (ErrQ w 2) := by
  obtain ⟨b0, p0, n0, c0, b1, p1, n1, c1, zz0, yy0, rfl, hz0, hy0, hq0⟩ := hx
  have Hx := Lib.hid (show RatV w (.agg #[.bool b0, .slice p0 n0 c0, .bool b1, .slice p1 n1 c1]) q i from ⟨_, _, _, _, _, _, _, _, _, _, rfl, hz0, hy0, hq0⟩)
  clear hz0 hy0 hq0
  obtain ⟨b2, p2, n2, c2, b3, p3, n3, c3, zz1, yy1, rfl, hz1, hy1, hq1⟩ := hy
  have Hy := Lib.hid (show RatV w (.agg #[.bool b2, .slice p2 n2 c2, .bool b3, .slice p3 n3 c3]) r j from ⟨_, _, _, _, _, _, _, _, _, _, rfl, hz1, hy1, hq1⟩)
  clear hz1 hy1 hq1
  have R0 := Lib.hid h0
  clear h0
  have S : St w [] [] w := St.start w
  go_enter Tryz.func54, Tryz.ntmps54
  have G := S
  go_wp2_with fail
  clear G
  replace S : St w [(w.heap.size, 0, .bool b0), (w.heap.size, 1, .slice p0 n0 c0), (w.heap.size, 2, .bool b1), (w.heap.size, 3, .slice p1 n1 c1)] [] (w.alloc (.cells #[.bool b0, .slice p0 n0 c0, .bool b1, .slice p1 n1 c1] 46)) := S.box (w.heap.size) [.bool b0, .slice p0 n0 c0, .bool b1, .slice p1 n1 c1] 46 (by simp)
  replace S : St w [(w.heap.size + 1, 0, .bool b2), (w.heap.size + 1, 1, .slice p2 n2 c2), (w.heap.size + 1, 2, .bool b3), (w.heap.size + 1, 3, .slice p3 n3 c3), (w.heap.size, 0, .bool b0), (w.heap.size, 1, .slice p0 n0 c0), (w.heap.size, 2, .bool b1), (w.heap.size, 3, .slice p1 n1 c1)] [] ((w.alloc (.cells #[.bool b0, .slice p0 n0 c0, .bool b1, .slice p1 n1 c1] 46)).alloc (.cells #[.bool b2, .slice p2 n2 c2, .bool b3, .slice p3 n3 c3] 46)) := S.box (w.heap.size + 1) [.bool b2, .slice p2 n2 c2, .bool b3, .slice p3 n3 c3] 46 (by simp)
  replace S : St w [(w.heap.size + 1 + 1, 0, .bool false), (w.heap.size + 1 + 1, 1, .slice none 0 0), (w.heap.size + 1 + 1, 2, .bool false), (w.heap.size + 1 + 1, 3, .slice none 0 0), (w.heap.size + 1, 0, .bool b2), (w.heap.size + 1, 1, .slice p2 n2 c2), (w.heap.size + 1, 2, .bool b3), (w.heap.size + 1, 3, .slice p3 n3 c3), (w.heap.size, 0, .bool b0), (w.heap.size, 1, .slice p0 n0 c0), (w.heap.size, 2, .bool b1), (w.heap.size, 3, .slice p1 n1 c1)] [(w.heap.size + 1 + 1, 0), (w.heap.size + 1 + 1, 1), (w.heap.size + 1 + 1, 2), (w.heap.size + 1 + 1, 3)] (((w.alloc (.cells #[.bool b0, .slice p0 n0 c0, .bool b1, .slice p1 n1 c1] 46)).alloc (.cells #[.bool b2, .slice p2 n2 c2, .bool b3, .slice p3 n3 c3] 46)).alloc (.cells #[.bool false, .slice none 0 0, .bool false, .slice none 0 0] 46)) := S.made (w.heap.size + 1 + 1) [.bool false, .slice none 0 0, .bool false, .slice none 0 0] 46 (by simp)
  replace Hx := Lib.hid (Hx.out.kp (((Kp.of (grown_alloc w (.cells #[.bool b0, .slice p0 n0 c0, .bool b1, .slice p1 n1 c1] 46) none)).trans (Kp.of (grown_alloc ((w.alloc (.cells #[.bool b0, .slice p0 n0 c0, .bool b1, .slice p1 n1 c1] 46))) (.cells #[.bool b2, .slice p2 n2 c2, .bool b3, .slice p3 n3 c3] 46) none))).trans (Kp.of (grown_alloc (((w.alloc (.cells #[.bool b0, .slice p0 n0 c0, .bool b1, .slice p1 n1 c1] 46)).alloc (.cells #[.bool b2, .slice p2 n2 c2, .bool b3, .slice p3 n3 c3] 46))) (.cells #[.bool false, .slice none 0 0, .bool false, .slice none 0 0] 46) none))))
  replace Hy := Lib.hid (Hy.out.kp (((Kp.of (grown_alloc w (.cells #[.bool b0, .slice p0 n0 c0, .bool b1, .slice p1 n1 c1] 46) none)).trans (Kp.of (grown_alloc ((w.alloc (.cells #[.bool b0, .slice p0 n0 c0, .bool b1, .slice p1 n1 c1] 46))) (.cells #[.bool b2, .slice p2 n2 c2, .bool b3, .slice p3 n3 c3] 46) none))).trans (Kp.of (grown_alloc (((w.alloc (.cells #[.bool b0, .slice p0 n0 c0, .bool b1, .slice p1 n1 c1] 46)).alloc (.cells #[.bool b2, .slice p2 n2 c2, .bool b3, .slice p3 n3 c3] 46))) (.cells #[.bool false, .slice none 0 0, .bool false, .slice none 0 0] 46) none))))
  have sz10 : (((w.alloc (.cells #[.bool b0, .slice p0 n0 c0, .bool b1, .slice p1 n1 c1] 46)).alloc (.cells #[.bool b2, .slice p2 n2 c2, .bool b3, .slice p3 n3 c3] 46)).alloc (.cells #[.bool false, .slice none 0 0, .bool false, .slice none 0 0] 46)).heap.size = w.heap.size + 3 := by simp
  generalize (((w.alloc (.cells #[.bool b0, .slice p0 n0 c0, .bool b1, .slice p1 n1 c1] 46)).alloc (.cells #[.bool b2, .slice p2 n2 c2, .bool b3, .slice p3 n3 c3] 46)).alloc (.cells #[.bool false, .slice none 0 0, .bool false, .slice none 0 0] 46)) = W10 at *
  go_at_call 95
  with_reducible refine (Parts_g Hx.out (by omega)).mono ?_
  rintro e w12 ⟨b11, p11, n11, c11, d11, q11, m11, f11, z11, y11, rfl, h, h', y0, eq, g⟩
  clear Hx
  replace Hy := Lib.hid (Hy.out.kp (Kp.of g))
  have Y11 := Lib.hid y0
  have Q11 := Lib.hid eq
  have N11 := Lib.hid (h)
  have M11 := Lib.hid (h')
  replace S := S.step g
  have lg12 := g.size
  clear g h h' y0 eq
  have l0 := S.ltc (g := w.heap.size) (o := 0) (x := .bool b0) (by simp)
  have l1 := S.ltc (g := w.heap.size + 1) (o := 0) (x := .bool b2) (by simp)
  have l2 := S.ltc (g := w.heap.size + 1 + 1) (o := 0) (x := .bool false) (by simp)
  have lS := S.size
  obtain ⟨e0, e1, e2, e3, e4, e5, e6, e7, e8, e9, e10, e11, h0, i0, h1, i1, h2, i2, h3, i3, G⟩ := id S
  go_wp2_with fail
  clear e0 e1 e2 e3 e4 e5 e6 e7 e8 e9 e10 e11 h0 i0 h1 i1 h2 i2 h3 i3 G
  replace S : St w [(w12.heap.size, 0, .bool b11), (w12.heap.size, 1, .slice p11 n11 c11), (w.heap.size + 1 + 1, 0, .bool false), (w.heap.size + 1 + 1, 1, .slice none 0 0), (w.heap.size + 1 + 1, 2, .bool false), (w.heap.size + 1 + 1, 3, .slice none 0 0), (w.heap.size + 1, 0, .bool b2), (w.heap.size + 1, 1, .slice p2 n2 c2), (w.heap.size + 1, 2, .bool b3), (w.heap.size + 1, 3, .slice p3 n3 c3), (w.heap.size, 0, .bool b0), (w.heap.size, 1, .slice p0 n0 c0), (w.heap.size, 2, .bool b1), (w.heap.size, 3, .slice p1 n1 c1)] [(w12.heap.size, 0), (w12.heap.size, 1), (w.heap.size + 1 + 1, 0), (w.heap.size + 1 + 1, 1), (w.heap.size + 1 + 1, 2), (w.heap.size + 1 + 1, 3)] (w12.alloc (.cells #[.bool b11, .slice p11 n11 c11] 24)) := S.made (w12.heap.size) [.bool b11, .slice p11 n11 c11] 24 (by simp)
  replace S : St w [(w12.heap.size + 1, 0, .bool d11), (w12.heap.size + 1, 1, .slice q11 m11 f11), (w12.heap.size, 0, .bool b11), (w12.heap.size, 1, .slice p11 n11 c11), (w.heap.size + 1 + 1, 0, .bool false), (w.heap.size + 1 + 1, 1, .slice none 0 0), (w.heap.size + 1 + 1, 2, .bool false), (w.heap.size + 1 + 1, 3, .slice none 0 0), (w.heap.size + 1, 0, .bool b2), (w.heap.size + 1, 1, .slice p2 n2 c2), (w.heap.size + 1, 2, .bool b3), (w.heap.size + 1, 3, .slice p3 n3 c3), (w.heap.size, 0, .bool b0), (w.heap.size, 1, .slice p0 n0 c0), (w.heap.size, 2, .bool b1), (w.heap.size, 3, .slice p1 n1 c1)] [(w12.heap.size + 1, 0), (w12.heap.size + 1, 1), (w12.heap.size, 0), (w12.heap.size, 1), (w.heap.size + 1 + 1, 0), (w.heap.size + 1 + 1, 1), (w.heap.size + 1 + 1, 2), (w.heap.size + 1 + 1, 3)] ((w12.alloc (.cells #[.bool b11, .slice p11 n11 c11] 24)).alloc (.cells #[.bool d11, .slice q11 m11 f11] 24)) := S.made (w12.heap.size + 1) [.bool d11, .slice q11 m11 f11] 24 (by simp)
  replace Hy := Lib.hid (Hy.out.kp ((Kp.of (grown_alloc w12 (.cells #[.bool b11, .slice p11 n11 c11] 24) none)).trans (Kp.of (grown_alloc ((w12.alloc (.cells #[.bool b11, .slice p11 n11 c11] 24))) (.cells #[.bool d11, .slice q11 m11 f11] 24) none))))
  replace N11 := Lib.hid (N11.out.kp ((Kp.of (grown_alloc w12 (.cells #[.bool b11, .slice p11 n11 c11] 24) none)).trans (Kp.of (grown_alloc ((w12.alloc (.cells #[.bool b11, .slice p11 n11 c11] 24))) (.cells #[.bool d11, .slice q11 m11 f11] 24) none))))
  replace M11 := Lib.hid (M11.out.kp ((Kp.of (grown_alloc w12 (.cells #[.bool b11, .slice p11 n11 c11] 24) none)).trans (Kp.of (grown_alloc ((w12.alloc (.cells #[.bool b11, .slice p11 n11 c11] 24))) (.cells #[.bool d11, .slice q11 m11 f11] 24) none))))
  have sz13 : ((w12.alloc (.cells #[.bool b11, .slice p11 n11 c11] 24)).alloc (.cells #[.bool d11, .slice q11 m11 f11] 24)).heap.size = w12.heap.size + 2 := by simp
  generalize ((w12.alloc (.cells #[.bool b11, .slice p11 n11 c11] 24)).alloc (.cells #[.bool d11, .slice q11 m11 f11] 24)) = W13 at *
  go_at_call 95
  with_reducible refine (Parts_g Hy.out (by omega)).mono ?_
  rintro e w15 ⟨b14, p14, n14, c14, d14, q14, m14, f14, z14, y14, rfl, h, h', y0, eq, g⟩
  clear Hy
  replace N11 := Lib.hid (N11.out.kp (Kp.of g))
  replace M11 := Lib.hid (M11.out.kp (Kp.of g))
  have Y14 := Lib.hid y0
  have Q14 := Lib.hid eq
  have N14 := Lib.hid (h)
  have M14 := Lib.hid (h')
  replace S := S.step g
  have lg15 := g.size
  clear g h h' y0 eq l0 l1 l2 lS
  have l0 := S.ltc (g := w.heap.size) (o := 0) (x := .bool b0) (by simp)
  have l1 := S.ltc (g := w.heap.size + 1) (o := 0) (x := .bool b2) (by simp)
  have l2 := S.ltc (g := w.heap.size + 1 + 1) (o := 0) (x := .bool false) (by simp)
  have l3 := S.ltc (g := w12.heap.size) (o := 0) (x := .bool b11) (by simp)
  have l4 := S.ltc (g := w12.heap.size + 1) (o := 0) (x := .bool d11) (by simp)
  have lS := S.size
  obtain ⟨e0, e1, e2, e3, e4, e5, e6, e7, e8, e9, e10, e11, e12, e13, e14, e15, h0, i0, h1, i1, h2, i2, h3, i3, h4, i4, h5, i5, h6, i6, h7, i7, G⟩ := id S
  go_wp2_with fail
  clear e0 e1 e2 e3 e4 e5 e6 e7 e8 e9 e10 e11 e12 e13 e14 e15 h0 i0 h1 i1 h2 i2 h3 i3 h4 i4 h5 i5 h6 i6 h7 i7 G
  replace S : St w [(w15.heap.size, 0, .bool b14), (w15.heap.size, 1, .slice p14 n14 c14), (w12.heap.size + 1, 0, .bool d11), (w12.heap.size + 1, 1, .slice q11 m11 f11), (w12.heap.size, 0, .bool b11), (w12.heap.size, 1, .slice p11 n11 c11), (w.heap.size + 1 + 1, 0, .bool false), (w.heap.size + 1 + 1, 1, .slice none 0 0), (w.heap.size + 1 + 1, 2, .bool false), (w.heap.size + 1 + 1, 3, .slice none 0 0), (w.heap.size + 1, 0, .bool b2), (w.heap.size + 1, 1, .slice p2 n2 c2), (w.heap.size + 1, 2, .bool b3), (w.heap.size + 1, 3, .slice p3 n3 c3), (w.heap.size, 0, .bool b0), (w.heap.size, 1, .slice p0 n0 c0), (w.heap.size, 2, .bool b1), (w.heap.size, 3, .slice p1 n1 c1)] [(w15.heap.size, 0), (w15.heap.size, 1), (w12.heap.size + 1, 0), (w12.heap.size + 1, 1), (w12.heap.size, 0), (w12.heap.size, 1), (w.heap.size + 1 + 1, 0), (w.heap.size + 1 + 1, 1), (w.heap.size + 1 + 1, 2), (w.heap.size + 1 + 1, 3)] (w15.alloc (.cells #[.bool b14, .slice p14 n14 c14] 24)) := S.made (w15.heap.size) [.bool b14, .slice p14 n14 c14] 24 (by simp)
  replace S : St w [(w15.heap.size + 1, 0, .bool d14), (w15.heap.size + 1, 1, .slice q14 m14 f14), (w15.heap.size, 0, .bool b14), (w15.heap.size, 1, .slice p14 n14 c14), (w12.heap.size + 1, 0, .bool d11), (w12.heap.size + 1, 1, .slice q11 m11 f11), (w12.heap.size, 0, .bool b11), (w12.heap.size, 1, .slice p11 n11 c11), (w.heap.size + 1 + 1, 0, .bool false), (w.heap.size + 1 + 1, 1, .slice none 0 0), (w.heap.size + 1 + 1, 2, .bool false), (w.heap.size + 1 + 1, 3, .slice none 0 0), (w.heap.size + 1, 0, .bool b2), (w.heap.size + 1, 1, .slice p2 n2 c2), (w.heap.size + 1, 2, .bool b3), (w.heap.size + 1, 3, .slice p3 n3 c3), (w.heap.size, 0, .bool b0), (w.heap.size, 1, .slice p0 n0 c0), (w.heap.size, 2, .bool b1), (w.heap.size, 3, .slice p1 n1 c1)] [(w15.heap.size + 1, 0), (w15.heap.size + 1, 1), (w15.heap.size, 0), (w15.heap.size, 1), (w12.heap.size + 1, 0), (w12.heap.size + 1, 1), (w12.heap.size, 0), (w12.heap.size, 1), (w.heap.size + 1 + 1, 0), (w.heap.size + 1 + 1, 1), (w.heap.size + 1 + 1, 2), (w.heap.size + 1 + 1, 3)] ((w15.alloc (.cells #[.bool b14, .slice p14 n14 c14] 24)).alloc (.cells #[.bool d14, .slice q14 m14 f14] 24)) := S.made (w15.heap.size + 1) [.bool d14, .slice q14 m14 f14] 24 (by simp)
  replace N11 := Lib.hid (N11.out.kp ((Kp.of (grown_alloc w15 (.cells #[.bool b14, .slice p14 n14 c14] 24) none)).trans (Kp.of (grown_alloc ((w15.alloc (.cells #[.bool b14, .slice p14 n14 c14] 24))) (.cells #[.bool d14, .slice q14 m14 f14] 24) none))))
  replace M11 := Lib.hid (M11.out.kp ((Kp.of (grown_alloc w15 (.cells #[.bool b14, .slice p14 n14 c14] 24) none)).trans (Kp.of (grown_alloc ((w15.alloc (.cells #[.bool b14, .slice p14 n14 c14] 24))) (.cells #[.bool d14, .slice q14 m14 f14] 24) none))))
  replace N14 := Lib.hid (N14.out.kp ((Kp.of (grown_alloc w15 (.cells #[.bool b14, .slice p14 n14 c14] 24) none)).trans (Kp.of (grown_alloc ((w15.alloc (.cells #[.bool b14, .slice p14 n14 c14] 24))) (.cells #[.bool d14, .slice q14 m14 f14] 24) none))))
  replace M14 := Lib.hid (M14.out.kp ((Kp.of (grown_alloc w15 (.cells #[.bool b14, .slice p14 n14 c14] 24) none)).trans (Kp.of (grown_alloc ((w15.alloc (.cells #[.bool b14, .slice p14 n14 c14] 24))) (.cells #[.bool d14, .slice q14 m14 f14] 24) none))))
  have sz16 : ((w15.alloc (.cells #[.bool b14, .slice p14 n14 c14] 24)).alloc (.cells #[.bool d14, .slice q14 m14 f14] 24)).heap.size = w15.heap.size + 2 := by simp
  generalize ((w15.alloc (.cells #[.bool b14, .slice p14 n14 c14] 24)).alloc (.cells #[.bool d14, .slice q14 m14 f14] 24)) = W16 at *
  have T0 : Cl [(w12.heap.size, 0, .bool b11), (w12.heap.size, 1, .slice p11 n11 c11), (w15.heap.size + 1, 0, .bool d14), (w15.heap.size + 1, 1, .slice q14 m14 f14), (w12.heap.size + 1, 0, .bool d11), (w12.heap.size + 1, 1, .slice q11 m11 f11), (w15.heap.size, 0, .bool b14), (w15.heap.size, 1, .slice p14 n14 c14)] W16 := S.cl (by simp)
  refine wp_region_noPanic ?_
  refine wp_region_held_drew (S := fun w' => w'.cell? ⟨w12.heap.size, 0, none⟩ = some (.bool b11) ∧ w'.cell? ⟨w12.heap.size, 1, none⟩ = some (.slice p11 n11 c11) ∧ w'.cell? ⟨w15.heap.size + 1, 0, none⟩ = some (.bool d14) ∧ w'.cell? ⟨w15.heap.size + 1, 1, none⟩ = some (.slice q14 m14 f14) ∧ w'.cell? ⟨w12.heap.size + 1, 0, none⟩ = some (.bool d11) ∧ w'.cell? ⟨w12.heap.size + 1, 1, none⟩ = some (.slice q11 m11 f11) ∧ w'.cell? ⟨w15.heap.size, 0, none⟩ = some (.bool b14) ∧ w'.cell? ⟨w15.heap.size, 1, none⟩ = some (.slice p14 n14 c14) ∧ True) (by kernel_rfl) (by exact Cl.step (cs := [(w12.heap.size, 0, .bool b11), (w12.heap.size, 1, .slice p11 n11 c11), (w15.heap.size + 1, 0, .bool d14), (w15.heap.size + 1, 1, .slice q14 m14 f14), (w12.heap.size + 1, 0, .bool d11), (w12.heap.size + 1, 1, .slice q11 m11 f11), (w15.heap.size, 0, .bool b14), (w15.heap.size, 1, .slice p14 n14 c14)]) (grown_drew _ _) T0) (fun hHeld => ?_)
  change wpAnyH _ _ _ _ _ 11 #[false, false, false, false, false, false, false, false, false, false, false] _ _
  replace S := S.step (grown_drew W16 none)
  replace N11 := Lib.hid (N11.out.kp (Kp.of (grown_drew W16 none)))
  replace M11 := Lib.hid (M11.out.kp (Kp.of (grown_drew W16 none)))
  replace N14 := Lib.hid (N14.out.kp (Kp.of (grown_drew W16 none)))
  replace M14 := Lib.hid (M14.out.kp (Kp.of (grown_drew W16 none)))
  have lg17 := (grown_drew W16 none).size
  clear T0
  generalize W16.drew = wr17 at *
  clear l0 l1 l2 l3 l4 lS
  have l0 := S.ltc (g := w.heap.size) (o := 0) (x := .bool b0) (by simp)
  have l1 := S.ltc (g := w.heap.size + 1) (o := 0) (x := .bool b2) (by simp)
  have l2 := S.ltc (g := w.heap.size + 1 + 1) (o := 0) (x := .bool false) (by simp)
  have l3 := S.ltc (g := w12.heap.size) (o := 0) (x := .bool b11) (by simp)
  have l4 := S.ltc (g := w12.heap.size + 1) (o := 0) (x := .bool d11) (by simp)
  have l5 := S.ltc (g := w15.heap.size) (o := 0) (x := .bool b14) (by simp)
  have l6 := S.ltc (g := w15.heap.size + 1) (o := 0) (x := .bool d14) (by simp)
  have lS := S.size
  refine wpAnyH_take (i := 0) (oi := _) (v := ?vq18) rfl (by kernel_rfl) (by kernel_rfl) (by kernel_rfl) (fun _ _ _ h => h) (Or.inl ⟨by rfl, ?hyq18⟩) (by assumption) ?restq18
  case hyq18 => (intro w hSw; (try dsimp only at hSw); go_simp; try with_reducible rfl)
  try simp only [Act.put, List.getElem_toArray, List.getElem_cons_zero, List.setIfInBounds_toArray, List.set_cons_zero, List.set_cons_succ]
  refine wpAnyH_take (i := 1) (oi := _) (v := ?vq19) rfl (by kernel_rfl) (by kernel_rfl) (by kernel_rfl) (fun _ _ _ h => h) (Or.inl ⟨by rfl, ?hyq19⟩) (by assumption) ?restq19
  case hyq19 => (intro w hSw; (try dsimp only at hSw); go_simp; try with_reducible rfl)
  try simp only [Act.put, List.getElem_toArray, List.getElem_cons_zero, List.getElem_cons_succ, List.setIfInBounds_toArray, List.set_cons_zero, List.set_cons_succ]
  refine wpAnyH_take (i := 3) (oi := _) (v := ?vq20) rfl (by kernel_rfl) (by kernel_rfl) (by kernel_rfl) (fun _ _ _ h => h) (Or.inl ⟨by rfl, ?hyq20⟩) (by assumption) ?restq20
  case hyq20 => (intro w hSw; (try dsimp only at hSw); go_simp; try with_reducible rfl)
  try simp only [Act.put, List.getElem_toArray, List.getElem_cons_zero, List.getElem_cons_succ, List.setIfInBounds_toArray, List.set_cons_zero, List.set_cons_succ]
  refine wpAnyH_take (i := 4) (oi := _) (v := ?vq21) rfl (by kernel_rfl) (by kernel_rfl) (by kernel_rfl) (fun _ _ _ h => h) (Or.inl ⟨by rfl, ?hyq21⟩) (by assumption) ?restq21
  case hyq21 => (intro w hSw; (try dsimp only at hSw); go_simp; try with_reducible rfl)
  try simp only [Act.put, List.getElem_toArray, List.getElem_cons_zero, List.getElem_cons_succ, List.setIfInBounds_toArray, List.set_cons_zero, List.set_cons_succ]
  obtain ⟨z23, ez23⟩ : ∃ t : Int, z11 * y14 = t := ⟨_, rfl⟩
  have E23 := Lib.hid ez23
  clear ez23
  refine wpAnyH_ready (rs := [2]) (by kernel_rfl) (by simp) ?_
  refine AllReadyH.cons (o := _) rfl (fun K hK => ?_) AllReadyH.nil
  go_simp
  go_at_call 65
  with_reducible refine (Mul_g N11.out M14.out (by omega) E23.out).mono ?_
  rintro e w24 ⟨b23, p23, n23, c23, rfl, h, g⟩
  clear N11
  replace M11 := Lib.hid (M11.out.kp (Kp.of g))
  replace N14 := Lib.hid (N14.out.kp (Kp.of g))
  clear M14
  have N23 := Lib.hid (h)
  replace S := S.step g
  have lg24 := g.size
  clear l0 l1 l2 l3 l4 l5 l6 lS
  have l0 := S.ltc (g := w.heap.size) (o := 0) (x := .bool b0) (by simp)
  have l1 := S.ltc (g := w.heap.size + 1) (o := 0) (x := .bool b2) (by simp)
  have l2 := S.ltc (g := w.heap.size + 1 + 1) (o := 0) (x := .bool false) (by simp)
  have l3 := S.ltc (g := w12.heap.size) (o := 0) (x := .bool b11) (by simp)
  have l4 := S.ltc (g := w12.heap.size + 1) (o := 0) (x := .bool d11) (by simp)
  have l5 := S.ltc (g := w15.heap.size) (o := 0) (x := .bool b14) (by simp)
  have l6 := S.ltc (g := w15.heap.size + 1) (o := 0) (x := .bool d14) (by simp)
  have lS := S.size
  go_wp2_with fail
  refine hK.out _ _ ?hSq22 (fun hHeld => ?_)
  case hSq22 => exact Cl.step (cs := [(w12.heap.size, 0, .bool b11), (w12.heap.size, 1, .slice p11 n11 c11), (w15.heap.size + 1, 0, .bool d14), (w15.heap.size + 1, 1, .slice q14 m14 f14), (w12.heap.size + 1, 0, .bool d11), (w12.heap.size + 1, 1, .slice q11 m11 f11), (w15.heap.size, 0, .bool b14), (w15.heap.size, 1, .slice p14 n14 c14)]) g (by assumption)
  clear hK K g h
  try simp only [List.setIfInBounds_toArray, List.set_cons_zero, List.set_cons_succ]
  obtain ⟨z26, ez26⟩ : ∃ t : Int, y11 * z14 = t := ⟨_, rfl⟩
  have E26 := Lib.hid ez26
  clear ez26
  refine wpAnyH_ready (rs := [5]) (by kernel_rfl) (by simp) ?_
  refine AllReadyH.cons (o := _) rfl (fun K hK => ?_) AllReadyH.nil
  go_simp
  go_at_call 65
  with_reducible refine (Mul_g M11.out N14.out (by omega) E26.out).mono ?_
  rintro e w27 ⟨b26, p26, n26, c26, rfl, h, g⟩
  clear M11 N14
  replace N23 := Lib.hid (N23.out.kp (Kp.of g))
  have N26 := Lib.hid (h)
  replace S := S.step g
  have lg27 := g.size
  clear l0 l1 l2 l3 l4 l5 l6 lS
  have l0 := S.ltc (g := w.heap.size) (o := 0) (x := .bool b0) (by simp)
  have l1 := S.ltc (g := w.heap.size + 1) (o := 0) (x := .bool b2) (by simp)
  have l2 := S.ltc (g := w.heap.size + 1 + 1) (o := 0) (x := .bool false) (by simp)
  have l3 := S.ltc (g := w12.heap.size) (o := 0) (x := .bool b11) (by simp)
  have l4 := S.ltc (g := w12.heap.size + 1) (o := 0) (x := .bool d11) (by simp)
  have l5 := S.ltc (g := w15.heap.size) (o := 0) (x := .bool b14) (by simp)
  have l6 := S.ltc (g := w15.heap.size + 1) (o := 0) (x := .bool d14) (by simp)
  have lS := S.size
  go_wp2_with fail
  refine hK.out _ _ ?hSq25 (fun hHeld => ?_)
  case hSq25 => exact Cl.step (cs := [(w12.heap.size, 0, .bool b11), (w12.heap.size, 1, .slice p11 n11 c11), (w15.heap.size + 1, 0, .bool d14), (w15.heap.size + 1, 1, .slice q14 m14 f14), (w12.heap.size + 1, 0, .bool d11), (w12.heap.size + 1, 1, .slice q11 m11 f11), (w15.heap.size, 0, .bool b14), (w15.heap.size, 1, .slice p14 n14 c14)]) g (by assumption)
  clear hK K g h
  try simp only [List.setIfInBounds_toArray, List.set_cons_zero, List.set_cons_succ]
  refine wpAnyH_ready (rs := [6]) (by kernel_rfl) (by simp) ?_
  refine AllReadyH.cons (o := _) rfl (fun K hK => ?_) AllReadyH.nil
  go_simp
  go_at_call 32
  with_reducible refine (RMake_0 N23.out.i N26.out.i (by omega) (by rw [← E26.out]; exact quo_zero Y14.out (by rw [Q14.out]; exact R0.out))).mono ?_
  rintro e w30 ⟨rfl, g⟩
  clear N23 N26
  replace S := S.step g
  have lg30 := g.size
  clear l0 l1 l2 l3 l4 l5 l6 lS
  have l0 := S.ltc (g := w.heap.size) (o := 0) (x := .bool b0) (by simp)
  have l1 := S.ltc (g := w.heap.size + 1) (o := 0) (x := .bool b2) (by simp)
  have l2 := S.ltc (g := w.heap.size + 1 + 1) (o := 0) (x := .bool false) (by simp)
  have l3 := S.ltc (g := w12.heap.size) (o := 0) (x := .bool b11) (by simp)
  have l4 := S.ltc (g := w12.heap.size + 1) (o := 0) (x := .bool d11) (by simp)
  have l5 := S.ltc (g := w15.heap.size) (o := 0) (x := .bool b14) (by simp)
  have l6 := S.ltc (g := w15.heap.size + 1) (o := 0) (x := .bool d14) (by simp)
  have lS := S.size
  go_wp2_with fail
  refine hK.out _ _ ?hSq28 (fun hHeld => ?_)
  case hSq28 => exact Cl.step (cs := [(w12.heap.size, 0, .bool b11), (w12.heap.size, 1, .slice p11 n11 c11), (w15.heap.size + 1, 0, .bool d14), (w15.heap.size + 1, 1, .slice q14 m14 f14), (w12.heap.size + 1, 0, .bool d11), (w12.heap.size + 1, 1, .slice q11 m11 f11), (w15.heap.size, 0, .bool b14), (w15.heap.size, 1, .slice p14 n14 c14)]) g (by assumption)
  clear hK K g
  try simp only [List.setIfInBounds_toArray, List.set_cons_zero, List.set_cons_succ]
  refine wpAnyH_take (i := 7) (oi := _) (v := ?vq31) rfl (by kernel_rfl) (by kernel_rfl) (by kernel_rfl) (fun _ _ _ h => h) (Or.inl ⟨by rfl, ?hyq31⟩) (by assumption) ?restq31
  case hyq31 => (intro w hSw; (try dsimp only at hSw); go_simp; try with_reducible rfl)
  try simp only [Act.put, List.getElem_toArray, List.getElem_cons_zero, List.getElem_cons_succ, List.setIfInBounds_toArray, List.set_cons_zero, List.set_cons_succ]
  refine wpAnyH_take (i := 8) (oi := _) (v := ?vq32) rfl (by kernel_rfl) (by kernel_rfl) (by kernel_rfl) (fun _ _ _ h => h) (Or.inl ⟨by rfl, ?hyq32⟩) (by assumption) ?restq32
  case hyq32 => (intro w hSw; (try dsimp only at hSw); go_simp; try with_reducible rfl)
  try simp only [Act.put, List.getElem_toArray, List.getElem_cons_zero, List.getElem_cons_succ, List.setIfInBounds_toArray, List.set_cons_zero, List.set_cons_succ]
  obtain ⟨e0, e1, e2, e3, e4, e5, e6, e7, e8, e9, e10, e11, e12, e13, e14, e15, e16, e17, e18, e19, h0, i0, h1, i1, h2, i2, h3, i3, h4, i4, h5, i5, h6, i6, h7, i7, h8, i8, h9, i9, h10, i10, h11, i11, G⟩ := id S
  refine wpAnyH_ready (rs := [9]) (by kernel_rfl) (by simp) ?_
  refine AllReadyH.cons (o := _) rfl (fun K hK => ?_) AllReadyH.nil
  go_simp
  refine hK.out _ _ ?hSq33 (fun hHeld => ?_)
  case hSq33 => exact (Cl.set (cs := [(w12.heap.size, 0, .bool b11), (w12.heap.size, 1, .slice p11 n11 c11), (w15.heap.size + 1, 0, .bool d14), (w15.heap.size + 1, 1, .slice q14 m14 f14), (w12.heap.size + 1, 0, .bool d11), (w12.heap.size + 1, 1, .slice q11 m11 f11), (w15.heap.size, 0, .bool b14), (w15.heap.size, 1, .slice p14 n14 c14)]) (g := w.heap.size + 1 + 1) (o := 3) (u := .slice none 0 0) (Cl.set (cs := [(w12.heap.size, 0, .bool b11), (w12.heap.size, 1, .slice p11 n11 c11), (w15.heap.size + 1, 0, .bool d14), (w15.heap.size + 1, 1, .slice q14 m14 f14), (w12.heap.size + 1, 0, .bool d11), (w12.heap.size + 1, 1, .slice q11 m11 f11), (w15.heap.size, 0, .bool b14), (w15.heap.size, 1, .slice p14 n14 c14)]) (g := w.heap.size + 1 + 1) (o := 2) (u := .bool false) (Cl.set (cs := [(w12.heap.size, 0, .bool b11), (w12.heap.size, 1, .slice p11 n11 c11), (w15.heap.size + 1, 0, .bool d14), (w15.heap.size + 1, 1, .slice q14 m14 f14), (w12.heap.size + 1, 0, .bool d11), (w12.heap.size + 1, 1, .slice q11 m11 f11), (w15.heap.size, 0, .bool b14), (w15.heap.size, 1, .slice p14 n14 c14)]) (g := w.heap.size + 1 + 1) (o := 1) (u := .slice none 0 0) (Cl.set (cs := [(w12.heap.size, 0, .bool b11), (w12.heap.size, 1, .slice p11 n11 c11), (w15.heap.size + 1, 0, .bool d14), (w15.heap.size + 1, 1, .slice q14 m14 f14), (w12.heap.size + 1, 0, .bool d11), (w12.heap.size + 1, 1, .slice q11 m11 f11), (w15.heap.size, 0, .bool b14), (w15.heap.size, 1, .slice p14 n14 c14)]) (g := w.heap.size + 1 + 1) (o := 0) (u := .bool false) (by assumption) (by simp <;> omega)) (by simp <;> omega)) (by simp <;> omega)) (by simp <;> omega))
  clear hK K
  try simp only [List.setIfInBounds_toArray, List.set_cons_zero, List.set_cons_succ]
  clear e0 e1 e2 e3 e4 e5 e6 e7 e8 e9 e10 e11 e12 e13 e14 e15 e16 e17 e18 e19 h0 i0 h1 i1 h2 i2 h3 i3 h4 i4 h5 i5 h6 i6 h7 i7 h8 i8 h9 i9 h10 i10 h11 i11 G
  have K34 : Kp w30 (w30.setCell ⟨w.heap.size + 1 + 1, 0, none⟩ (.bool false)) := S.kp (g := w.heap.size + 1 + 1) (o := 0) (x := .bool false) (.bool false) (by simp) (by simp)
  replace S : St w [(w.heap.size + 1 + 1, 0, .bool false), (w15.heap.size + 1, 0, .bool d14), (w15.heap.size + 1, 1, .slice q14 m14 f14), (w15.heap.size, 0, .bool b14), (w15.heap.size, 1, .slice p14 n14 c14), (w12.heap.size + 1, 0, .bool d11), (w12.heap.size + 1, 1, .slice q11 m11 f11), (w12.heap.size, 0, .bool b11), (w12.heap.size, 1, .slice p11 n11 c11), (w.heap.size + 1 + 1, 1, .slice none 0 0), (w.heap.size + 1 + 1, 2, .bool false), (w.heap.size + 1 + 1, 3, .slice none 0 0), (w.heap.size + 1, 0, .bool b2), (w.heap.size + 1, 1, .slice p2 n2 c2), (w.heap.size + 1, 2, .bool b3), (w.heap.size + 1, 3, .slice p3 n3 c3), (w.heap.size, 0, .bool b0), (w.heap.size, 1, .slice p0 n0 c0), (w.heap.size, 2, .bool b1), (w.heap.size, 3, .slice p1 n1 c1)] [(w15.heap.size + 1, 0), (w15.heap.size + 1, 1), (w15.heap.size, 0), (w15.heap.size, 1), (w12.heap.size + 1, 0), (w12.heap.size + 1, 1), (w12.heap.size, 0), (w12.heap.size, 1), (w.heap.size + 1 + 1, 0), (w.heap.size + 1 + 1, 1), (w.heap.size + 1 + 1, 2), (w.heap.size + 1 + 1, 3)] (w30.setCell ⟨w.heap.size + 1 + 1, 0, none⟩ (.bool false)) := S.set (g := w.heap.size + 1 + 1) (o := 0) (.bool false) (by simp) (by simp <;> omega) (by omega)
  have K35 : Kp (w30.setCell ⟨w.heap.size + 1 + 1, 0, none⟩ (.bool false)) ((w30.setCell ⟨w.heap.size + 1 + 1, 0, none⟩ (.bool false)).setCell ⟨w.heap.size + 1 + 1, 1, none⟩ (.slice none 0 0)) := S.kp (g := w.heap.size + 1 + 1) (o := 1) (x := .slice none 0 0) (.slice none 0 0) (by simp) (by simp)
  replace S : St w [(w.heap.size + 1 + 1, 1, .slice none 0 0), (w15.heap.size + 1, 0, .bool d14), (w15.heap.size + 1, 1, .slice q14 m14 f14), (w15.heap.size, 0, .bool b14), (w15.heap.size, 1, .slice p14 n14 c14), (w12.heap.size + 1, 0, .bool d11), (w12.heap.size + 1, 1, .slice q11 m11 f11), (w12.heap.size, 0, .bool b11), (w12.heap.size, 1, .slice p11 n11 c11), (w.heap.size + 1 + 1, 0, .bool false), (w.heap.size + 1 + 1, 2, .bool false), (w.heap.size + 1 + 1, 3, .slice none 0 0), (w.heap.size + 1, 0, .bool b2), (w.heap.size + 1, 1, .slice p2 n2 c2), (w.heap.size + 1, 2, .bool b3), (w.heap.size + 1, 3, .slice p3 n3 c3), (w.heap.size, 0, .bool b0), (w.heap.size, 1, .slice p0 n0 c0), (w.heap.size, 2, .bool b1), (w.heap.size, 3, .slice p1 n1 c1)] [(w15.heap.size + 1, 0), (w15.heap.size + 1, 1), (w15.heap.size, 0), (w15.heap.size, 1), (w12.heap.size + 1, 0), (w12.heap.size + 1, 1), (w12.heap.size, 0), (w12.heap.size, 1), (w.heap.size + 1 + 1, 0), (w.heap.size + 1 + 1, 1), (w.heap.size + 1 + 1, 2), (w.heap.size + 1 + 1, 3)] ((w30.setCell ⟨w.heap.size + 1 + 1, 0, none⟩ (.bool false)).setCell ⟨w.heap.size + 1 + 1, 1, none⟩ (.slice none 0 0)) := S.set (g := w.heap.size + 1 + 1) (o := 1) (.slice none 0 0) (by simp) (by simp <;> omega) (by omega)
  have K36 : Kp ((w30.setCell ⟨w.heap.size + 1 + 1, 0, none⟩ (.bool false)).setCell ⟨w.heap.size + 1 + 1, 1, none⟩ (.slice none 0 0)) (((w30.setCell ⟨w.heap.size + 1 + 1, 0, none⟩ (.bool false)).setCell ⟨w.heap.size + 1 + 1, 1, none⟩ (.slice none 0 0)).setCell ⟨w.heap.size + 1 + 1, 2, none⟩ (.bool false)) := S.kp (g := w.heap.size + 1 + 1) (o := 2) (x := .bool false) (.bool false) (by simp) (by simp)
  replace S : St w [(w.heap.size + 1 + 1, 2, .bool false), (w15.heap.size + 1, 0, .bool d14), (w15.heap.size + 1, 1, .slice q14 m14 f14), (w15.heap.size, 0, .bool b14), (w15.heap.size, 1, .slice p14 n14 c14), (w12.heap.size + 1, 0, .bool d11), (w12.heap.size + 1, 1, .slice q11 m11 f11), (w12.heap.size, 0, .bool b11), (w12.heap.size, 1, .slice p11 n11 c11), (w.heap.size + 1 + 1, 0, .bool false), (w.heap.size + 1 + 1, 1, .slice none 0 0), (w.heap.size + 1 + 1, 3, .slice none 0 0), (w.heap.size + 1, 0, .bool b2), (w.heap.size + 1, 1, .slice p2 n2 c2), (w.heap.size + 1, 2, .bool b3), (w.heap.size + 1, 3, .slice p3 n3 c3), (w.heap.size, 0, .bool b0), (w.heap.size, 1, .slice p0 n0 c0), (w.heap.size, 2, .bool b1), (w.heap.size, 3, .slice p1 n1 c1)] [(w15.heap.size + 1, 0), (w15.heap.size + 1, 1), (w15.heap.size, 0), (w15.heap.size, 1), (w12.heap.size + 1, 0), (w12.heap.size + 1, 1), (w12.heap.size, 0), (w12.heap.size, 1), (w.heap.size + 1 + 1, 0), (w.heap.size + 1 + 1, 1), (w.heap.size + 1 + 1, 2), (w.heap.size + 1 + 1, 3)] (((w30.setCell ⟨w.heap.size + 1 + 1, 0, none⟩ (.bool false)).setCell ⟨w.heap.size + 1 + 1, 1, none⟩ (.slice none 0 0)).setCell ⟨w.heap.size + 1 + 1, 2, none⟩ (.bool false)) := S.set (g := w.heap.size + 1 + 1) (o := 2) (.bool false) (by simp) (by simp <;> omega) (by omega)
  have K37 : Kp (((w30.setCell ⟨w.heap.size + 1 + 1, 0, none⟩ (.bool false)).setCell ⟨w.heap.size + 1 + 1, 1, none⟩ (.slice none 0 0)).setCell ⟨w.heap.size + 1 + 1, 2, none⟩ (.bool false)) ((((w30.setCell ⟨w.heap.size + 1 + 1, 0, none⟩ (.bool false)).setCell ⟨w.heap.size + 1 + 1, 1, none⟩ (.slice none 0 0)).setCell ⟨w.heap.size + 1 + 1, 2, none⟩ (.bool false)).setCell ⟨w.heap.size + 1 + 1, 3, none⟩ (.slice none 0 0)) := S.kp (g := w.heap.size + 1 + 1) (o := 3) (x := .slice none 0 0) (.slice none 0 0) (by simp) (by simp)
  replace S : St w [(w.heap.size + 1 + 1, 3, .slice none 0 0), (w15.heap.size + 1, 0, .bool d14), (w15.heap.size + 1, 1, .slice q14 m14 f14), (w15.heap.size, 0, .bool b14), (w15.heap.size, 1, .slice p14 n14 c14), (w12.heap.size + 1, 0, .bool d11), (w12.heap.size + 1, 1, .slice q11 m11 f11), (w12.heap.size, 0, .bool b11), (w12.heap.size, 1, .slice p11 n11 c11), (w.heap.size + 1 + 1, 0, .bool false), (w.heap.size + 1 + 1, 1, .slice none 0 0), (w.heap.size + 1 + 1, 2, .bool false), (w.heap.size + 1, 0, .bool b2), (w.heap.size + 1, 1, .slice p2 n2 c2), (w.heap.size + 1, 2, .bool b3), (w.heap.size + 1, 3, .slice p3 n3 c3), (w.heap.size, 0, .bool b0), (w.heap.size, 1, .slice p0 n0 c0), (w.heap.size, 2, .bool b1), (w.heap.size, 3, .slice p1 n1 c1)] [(w15.heap.size + 1, 0), (w15.heap.size + 1, 1), (w15.heap.size, 0), (w15.heap.size, 1), (w12.heap.size + 1, 0), (w12.heap.size + 1, 1), (w12.heap.size, 0), (w12.heap.size, 1), (w.heap.size + 1 + 1, 0), (w.heap.size + 1 + 1, 1), (w.heap.size + 1 + 1, 2), (w.heap.size + 1 + 1, 3)] ((((w30.setCell ⟨w.heap.size + 1 + 1, 0, none⟩ (.bool false)).setCell ⟨w.heap.size + 1 + 1, 1, none⟩ (.slice none 0 0)).setCell ⟨w.heap.size + 1 + 1, 2, none⟩ (.bool false)).setCell ⟨w.heap.size + 1 + 1, 3, none⟩ (.slice none 0 0)) := S.set (g := w.heap.size + 1 + 1) (o := 3) (.slice none 0 0) (by simp) (by simp <;> omega) (by omega)
  replace S : St w [(w15.heap.size + 1, 0, .bool d14), (w15.heap.size + 1, 1, .slice q14 m14 f14), (w15.heap.size, 0, .bool b14), (w15.heap.size, 1, .slice p14 n14 c14), (w12.heap.size + 1, 0, .bool d11), (w12.heap.size + 1, 1, .slice q11 m11 f11), (w12.heap.size, 0, .bool b11), (w12.heap.size, 1, .slice p11 n11 c11), (w.heap.size + 1 + 1, 0, .bool false), (w.heap.size + 1 + 1, 1, .slice none 0 0), (w.heap.size + 1 + 1, 2, .bool false), (w.heap.size + 1 + 1, 3, .slice none 0 0), (w.heap.size + 1, 0, .bool b2), (w.heap.size + 1, 1, .slice p2 n2 c2), (w.heap.size + 1, 2, .bool b3), (w.heap.size + 1, 3, .slice p3 n3 c3), (w.heap.size, 0, .bool b0), (w.heap.size, 1, .slice p0 n0 c0), (w.heap.size, 2, .bool b1), (w.heap.size, 3, .slice p1 n1 c1)] [(w15.heap.size + 1, 0), (w15.heap.size + 1, 1), (w15.heap.size, 0), (w15.heap.size, 1), (w12.heap.size + 1, 0), (w12.heap.size + 1, 1), (w12.heap.size, 0), (w12.heap.size, 1), (w.heap.size + 1 + 1, 0), (w.heap.size + 1 + 1, 1), (w.heap.size + 1 + 1, 2), (w.heap.size + 1 + 1, 3)] ((((w30.setCell ⟨w.heap.size + 1 + 1, 0, none⟩ (.bool false)).setCell ⟨w.heap.size + 1 + 1, 1, none⟩ (.slice none 0 0)).setCell ⟨w.heap.size + 1 + 1, 2, none⟩ (.bool false)).setCell ⟨w.heap.size + 1 + 1, 3, none⟩ (.slice none 0 0)) := S.sub (by simp) (by simp)
  clear K34 K35 K36 K37
  have sz38 : ((((w30.setCell ⟨w.heap.size + 1 + 1, 0, none⟩ (.bool false)).setCell ⟨w.heap.size + 1 + 1, 1, none⟩ (.slice none 0 0)).setCell ⟨w.heap.size + 1 + 1, 2, none⟩ (.bool false)).setCell ⟨w.heap.size + 1 + 1, 3, none⟩ (.slice none 0 0)).heap.size = w30.heap.size := by simp
  generalize ((((w30.setCell ⟨w.heap.size + 1 + 1, 0, none⟩ (.bool false)).setCell ⟨w.heap.size + 1 + 1, 1, none⟩ (.slice none 0 0)).setCell ⟨w.heap.size + 1 + 1, 2, none⟩ (.bool false)).setCell ⟨w.heap.size + 1 + 1, 3, none⟩ (.slice none 0 0)) = W38 at *
  clear l0 l1 l2 l3 l4 l5 l6 lS
  have l0 := S.ltc (g := w.heap.size) (o := 0) (x := .bool b0) (by simp)
  have l1 := S.ltc (g := w.heap.size + 1) (o := 0) (x := .bool b2) (by simp)
  have l2 := S.ltc (g := w.heap.size + 1 + 1) (o := 0) (x := .bool false) (by simp)
  have l3 := S.ltc (g := w12.heap.size) (o := 0) (x := .bool b11) (by simp)
  have l4 := S.ltc (g := w12.heap.size + 1) (o := 0) (x := .bool d11) (by simp)
  have l5 := S.ltc (g := w15.heap.size) (o := 0) (x := .bool b14) (by simp)
  have l6 := S.ltc (g := w15.heap.size + 1) (o := 0) (x := .bool d14) (by simp)
  have lS := S.size
  refine wpAnyH_take (i := 10) (oi := _) (v := ?vq39) rfl (by kernel_rfl) (by kernel_rfl) (by kernel_rfl) (fun _ _ _ h => h) (Or.inl ⟨by rfl, ?hyq39⟩) (by assumption) ?restq39
  case hyq39 => (intro w hSw; (try dsimp only at hSw); go_simp; try with_reducible rfl)
  try simp only [Act.put, List.getElem_toArray, List.getElem_cons_zero, List.getElem_cons_succ, List.setIfInBounds_toArray, List.set_cons_zero, List.set_cons_succ]
  refine wpAnyH_done (by kernel_rfl) ?_ _
  refine NoPanic.normal ?_
  obtain ⟨e0, e1, e2, e3, e4, e5, e6, e7, e8, e9, e10, e11, e12, e13, e14, e15, e16, e17, e18, e19, h0, i0, h1, i1, h2, i2, h3, i3, h4, i4, h5, i5, h6, i6, h7, i7, h8, i8, h9, i9, h10, i10, h11, i11, G⟩ := id S
  go_wp2_with fail
  clear e0 e1 e2 e3 e4 e5 e6 e7 e8 e9 e10 e11 e12 e13 e14 e15 e16 e17 e18 e19 h0 i0 h1 i1 h2 i2 h3 i3 h4 i4 h5 i5 h6 i6 h7 i7 h8 i8 h9 i9 h10 i10 h11 i11 G
  refine post_QE Tryz.results54 rfl rfl rfl (S.cell (g := w.heap.size + 1 + 1) (o := 0) (x := .bool false) (by simp)) (S.cell (g := w.heap.size + 1 + 1) (o := 1) (x := .slice none 0 0) (by simp)) (S.cell (g := w.heap.size + 1 + 1) (o := 2) (x := .bool false) (by simp)) (S.cell (g := w.heap.size + 1 + 1) (o := 3) (x := .slice none 0 0) (by simp)) ⟨rfl, S.all⟩

set_option maxHeartbeats 4000000 in
set_option maxRecDepth 100000 in
theorem RFloor_g {v : Value} {q : Rat} {i : Nat} {w : World} (hx : RatV w v q i) {t : Int} (hk : i ≤ 100000) (ht : q.floor = t) :
    Calls Tryz.prog 57 #[v] w (GotI w t (i + 4)) := by
  subst ht
  obtain ⟨b0, p0, n0, c0, b1, p1, n1, c1, zz0, yy0, rfl, hz0, hy0, hq0⟩ := hx
  have Hx := Lib.hid (show RatV w (.agg #[.bool b0, .slice p0 n0 c0, .bool b1, .slice p1 n1 c1]) q i from ⟨_, _, _, _, _, _, _, _, _, _, rfl, hz0, hy0, hq0⟩)
  clear hz0 hy0 hq0
  have S : St w [] [] w := St.start w
  go_enter Tryz.func57, Tryz.ntmps57
  have G := S
  go_wp2_with fail
  clear G
  replace S : St w [(w.heap.size, 0, .bool b0), (w.heap.size, 1, .slice p0 n0 c0), (w.heap.size, 2, .bool b1), (w.heap.size, 3, .slice p1 n1 c1)] [] (w.alloc (.cells #[.bool b0, .slice p0 n0 c0, .bool b1, .slice p1 n1 c1] 46)) := S.box (w.heap.size) [.bool b0, .slice p0 n0 c0, .bool b1, .slice p1 n1 c1] 46 (by simp)
  replace S : St w [(w.heap.size + 1, 0, .bool false), (w.heap.size + 1, 1, .slice none 0 0), (w.heap.size, 0, .bool b0), (w.heap.size, 1, .slice p0 n0 c0), (w.heap.size, 2, .bool b1), (w.heap.size, 3, .slice p1 n1 c1)] [(w.heap.size + 1, 0), (w.heap.size + 1, 1)] ((w.alloc (.cells #[.bool b0, .slice p0 n0 c0, .bool b1, .slice p1 n1 c1] 46)).alloc (.cells #[.bool false, .slice none 0 0] 24)) := S.made (w.heap.size + 1) [.bool false, .slice none 0 0] 24 (by simp)
  replace Hx := Lib.hid (Hx.out.kp ((Kp.of (grown_alloc w (.cells #[.bool b0, .slice p0 n0 c0, .bool b1, .slice p1 n1 c1] 46) none)).trans (Kp.of (grown_alloc ((w.alloc (.cells #[.bool b0, .slice p0 n0 c0, .bool b1, .slice p1 n1 c1] 46))) (.cells #[.bool false, .slice none 0 0] 24) none))))
  have sz10 : ((w.alloc (.cells #[.bool b0, .slice p0 n0 c0, .bool b1, .slice p1 n1 c1] 46)).alloc (.cells #[.bool false, .slice none 0 0] 24)).heap.size = w.heap.size + 2 := by simp
  generalize ((w.alloc (.cells #[.bool b0, .slice p0 n0 c0, .bool b1, .slice p1 n1 c1] 46)).alloc (.cells #[.bool false, .slice none 0 0] 24)) = W10 at *
  go_at_call 95
  with_reducible refine (Parts_g Hx.out (by omega)).mono ?_
  rintro e w12 ⟨b11, p11, n11, c11, d11, q11, m11, f11, z11, y11, rfl, h, h', y0, eq, g⟩
  clear Hx
  have Y11 := Lib.hid y0
  have Q11 := Lib.hid eq
  have N11 := Lib.hid (h)
  have M11 := Lib.hid (h')
  replace S := S.step g
  have lg12 := g.size
  clear g h h' y0 eq
  have l0 := S.ltc (g := w.heap.size) (o := 0) (x := .bool b0) (by simp)
  have l1 := S.ltc (g := w.heap.size + 1) (o := 0) (x := .bool false) (by simp)
  have lS := S.size
  obtain ⟨e0, e1, e2, e3, e4, e5, h0, i0, h1, i1, G⟩ := id S
  go_wp2_with fail
  clear e0 e1 e2 e3 e4 e5 h0 i0 h1 i1 G
  obtain ⟨z13, ez13⟩ : ∃ t : Int, z11 / y11 = t := ⟨_, rfl⟩
  have E13 := Lib.hid ez13
  clear ez13
  obtain ⟨y13, ey13⟩ : ∃ t : Int, z11 % y11 = t := ⟨_, rfl⟩
  have F13 := Lib.hid ey13
  clear ey13
  go_at_call 99
  with_reducible refine (DivMod_g N11.out M11.out (by omega) (by have := Y11.out; omega) E13.out F13.out).mono ?_
  rintro e w14 ⟨b13, p13, n13, c13, d13, q13, m13, f13, rfl, h, h', g⟩
  clear N11 M11
  have N13 := Lib.hid (h)
  have M13 := Lib.hid (h')
  replace S := S.step g
  have lg14 := g.size
  clear g h h' l0 l1 lS
  have l0 := S.ltc (g := w.heap.size) (o := 0) (x := .bool b0) (by simp)
  have l1 := S.ltc (g := w.heap.size + 1) (o := 0) (x := .bool false) (by simp)
  have lS := S.size
  obtain ⟨e0, e1, e2, e3, e4, e5, h0, i0, h1, i1, G⟩ := id S
  go_wp2_with fail
  clear e0 e1 e2 e3 e4 e5 h0 i0 h1 i1 G
  have K15 : Kp w14 (w14.setCell ⟨w.heap.size + 1, 0, none⟩ (.bool b13)) := S.kp (g := w.heap.size + 1) (o := 0) (x := .bool false) (.bool b13) (by simp) (by simp)
  replace S : St w [(w.heap.size + 1, 0, .bool b13), (w.heap.size + 1, 1, .slice none 0 0), (w.heap.size, 0, .bool b0), (w.heap.size, 1, .slice p0 n0 c0), (w.heap.size, 2, .bool b1), (w.heap.size, 3, .slice p1 n1 c1)] [(w.heap.size + 1, 0), (w.heap.size + 1, 1)] (w14.setCell ⟨w.heap.size + 1, 0, none⟩ (.bool b13)) := S.set (g := w.heap.size + 1) (o := 0) (.bool b13) (by simp) (by simp <;> omega) (by omega)
  have K16 : Kp (w14.setCell ⟨w.heap.size + 1, 0, none⟩ (.bool b13)) ((w14.setCell ⟨w.heap.size + 1, 0, none⟩ (.bool b13)).setCell ⟨w.heap.size + 1, 1, none⟩ (.slice p13 n13 c13)) := S.kp (g := w.heap.size + 1) (o := 1) (x := .slice none 0 0) (.slice p13 n13 c13) (by simp) (by simp)
  replace S : St w [(w.heap.size + 1, 1, .slice p13 n13 c13), (w.heap.size + 1, 0, .bool b13), (w.heap.size, 0, .bool b0), (w.heap.size, 1, .slice p0 n0 c0), (w.heap.size, 2, .bool b1), (w.heap.size, 3, .slice p1 n1 c1)] [(w.heap.size + 1, 0), (w.heap.size + 1, 1)] ((w14.setCell ⟨w.heap.size + 1, 0, none⟩ (.bool b13)).setCell ⟨w.heap.size + 1, 1, none⟩ (.slice p13 n13 c13)) := S.set (g := w.heap.size + 1) (o := 1) (.slice p13 n13 c13) (by simp) (by simp <;> omega) (by omega)
  replace S : St w [(w.heap.size + 1, 0, .bool b13), (w.heap.size + 1, 1, .slice p13 n13 c13), (w.heap.size, 0, .bool b0), (w.heap.size, 1, .slice p0 n0 c0), (w.heap.size, 2, .bool b1), (w.heap.size, 3, .slice p1 n1 c1)] [(w.heap.size + 1, 0), (w.heap.size + 1, 1)] ((w14.setCell ⟨w.heap.size + 1, 0, none⟩ (.bool b13)).setCell ⟨w.heap.size + 1, 1, none⟩ (.slice p13 n13 c13)) := S.sub (by simp) (by simp)
  replace S : St w [(w14.heap.size, 0, .bool b13), (w14.heap.size, 1, .slice p13 n13 c13), (w.heap.size + 1, 0, .bool b13), (w.heap.size + 1, 1, .slice p13 n13 c13), (w.heap.size, 0, .bool b0), (w.heap.size, 1, .slice p0 n0 c0), (w.heap.size, 2, .bool b1), (w.heap.size, 3, .slice p1 n1 c1)] [(w14.heap.size, 0), (w14.heap.size, 1), (w.heap.size + 1, 0), (w.heap.size + 1, 1)] (((w14.setCell ⟨w.heap.size + 1, 0, none⟩ (.bool b13)).setCell ⟨w.heap.size + 1, 1, none⟩ (.slice p13 n13 c13)).alloc (.cells #[.bool b13, .slice p13 n13 c13] 24)) := S.made (w14.heap.size) [.bool b13, .slice p13 n13 c13] 24 (by simp)
  replace S : St w [(w14.heap.size + 1, 0, .bool d13), (w14.heap.size + 1, 1, .slice q13 m13 f13), (w14.heap.size, 0, .bool b13), (w14.heap.size, 1, .slice p13 n13 c13), (w.heap.size + 1, 0, .bool b13), (w.heap.size + 1, 1, .slice p13 n13 c13), (w.heap.size, 0, .bool b0), (w.heap.size, 1, .slice p0 n0 c0), (w.heap.size, 2, .bool b1), (w.heap.size, 3, .slice p1 n1 c1)] [(w14.heap.size + 1, 0), (w14.heap.size + 1, 1), (w14.heap.size, 0), (w14.heap.size, 1), (w.heap.size + 1, 0), (w.heap.size + 1, 1)] ((((w14.setCell ⟨w.heap.size + 1, 0, none⟩ (.bool b13)).setCell ⟨w.heap.size + 1, 1, none⟩ (.slice p13 n13 c13)).alloc (.cells #[.bool b13, .slice p13 n13 c13] 24)).alloc (.cells #[.bool d13, .slice q13 m13 f13] 24)) := S.made (w14.heap.size + 1) [.bool d13, .slice q13 m13 f13] 24 (by simp)
  replace N13 := Lib.hid (N13.out.kp (((K15.trans K16).trans (Kp.of (grown_alloc (((w14.setCell ⟨w.heap.size + 1, 0, none⟩ (.bool b13)).setCell ⟨w.heap.size + 1, 1, none⟩ (.slice p13 n13 c13))) (.cells #[.bool b13, .slice p13 n13 c13] 24) none))).trans (Kp.of (grown_alloc ((((w14.setCell ⟨w.heap.size + 1, 0, none⟩ (.bool b13)).setCell ⟨w.heap.size + 1, 1, none⟩ (.slice p13 n13 c13)).alloc (.cells #[.bool b13, .slice p13 n13 c13] 24))) (.cells #[.bool d13, .slice q13 m13 f13] 24) none))))
  clear M13 K15 K16
  have sz17 : ((((w14.setCell ⟨w.heap.size + 1, 0, none⟩ (.bool b13)).setCell ⟨w.heap.size + 1, 1, none⟩ (.slice p13 n13 c13)).alloc (.cells #[.bool b13, .slice p13 n13 c13] 24)).alloc (.cells #[.bool d13, .slice q13 m13 f13] 24)).heap.size = w14.heap.size + 2 := by simp
  generalize ((((w14.setCell ⟨w.heap.size + 1, 0, none⟩ (.bool b13)).setCell ⟨w.heap.size + 1, 1, none⟩ (.slice p13 n13 c13)).alloc (.cells #[.bool b13, .slice p13 n13 c13] 24)).alloc (.cells #[.bool d13, .slice q13 m13 f13] 24)) = W17 at *
  refine post_I Tryz.results57 rfl rfl (S.cell (g := w.heap.size + 1) (o := 0) (x := .bool b13) (by simp)) (S.cell (g := w.heap.size + 1) (o := 1) (x := .slice p13 n13 c13) (by simp)) ⟨_, _, _, _, rfl, (N13.out.more (by omega) : NorV _ _ _ _).eq (by rw [← E13.out, ← floor_parts Y11.out, Q11.out]), S.all⟩

end Go.Proofs.YtmkplojojaopmaaGreatDoor
