/- Layer 4's examples. -/
import Derived.Test.YtjakllpnbeagjaaGreatDoorRefV
import Derived.Test.YtjakllpnbeagjaaGreatDoorDigA
namespace Go.Proofs.YtjakllpnbeagjaaGreatDoor
open Go.RowKit

theorem Parse_6 (w : World) : Calls Tryz.prog 16 #[.string ⟨#[54]⟩] w (GotE w 6 50) :=
  Parse_plain (s := ⟨#[54]⟩) (by decide +kernel) (by decide) (by decide)
theorem Natural_4 (w : World) : Calls Tryz.prog 67 #[.string ⟨#[52]⟩] w (GotE w 4 50) :=
  Natural_plain (s := ⟨#[52]⟩) (by decide +kernel) (by decide) (by decide) (by decide +kernel)
set_option maxHeartbeats 4000000 in
set_option maxRecDepth 100000 in
theorem Parse_64 (w : World) :
    Calls Tryz.prog 35 #[.string { data := #[54, 47, 52] }] w (GotQE w (Rat.divInt 6 4) 100) := by
  have S : St w [] [] w := St.start w
  go_enter Tryz.func35, Tryz.ntmps35
  have G := S
  go_wp2_with fail
  clear G
  replace S : St w [(w.heap.size, 0, .bool false), (w.heap.size, 1, .slice none 0 0), (w.heap.size, 2, .bool false), (w.heap.size, 3, .slice none 0 0)] [(w.heap.size, 0), (w.heap.size, 1), (w.heap.size, 2), (w.heap.size, 3)] (w.alloc (.cells #[.bool false, .slice none 0 0, .bool false, .slice none 0 0] 46)) := S.made (w.heap.size) [.bool false, .slice none 0 0, .bool false, .slice none 0 0] 46 (by simp)
  have sz10 : (w.alloc (.cells #[.bool false, .slice none 0 0, .bool false, .slice none 0 0] 46)).heap.size = w.heap.size + 1 := by simp
  generalize (w.alloc (.cells #[.bool false, .slice none 0 0, .bool false, .slice none 0 0] 46)) = W10 at *
  go_at_call 66
  with_reducible refine (Cut_64 _).mono ?_
  rintro e w11 ⟨rfl, g⟩
  replace S := S.step g
  have lg11 := g.size
  clear g
  have l0 := S.ltc (g := w.heap.size) (o := 0) (x := .bool false) (by simp)
  have lS := S.size
  obtain ⟨e0, e1, e2, e3, h0, i0, h1, i1, h2, i2, h3, i3, G⟩ := id S
  go_wp2_with fail
  clear e0 e1 e2 e3 h0 i0 h1 i1 h2 i2 h3 i3 G
  go_at_call 16
  with_reducible refine (Parse_6 _).mono ?_
  rintro e w13 ⟨b12, p12, n12, c12, rfl, h, g⟩
  have N12 := Lib.hid (h)
  replace S := S.step g
  have lg13 := g.size
  clear g h
  clear l0 lS
  have l0 := S.ltc (g := w.heap.size) (o := 0) (x := .bool false) (by simp)
  have lS := S.size
  obtain ⟨e0, e1, e2, e3, h0, i0, h1, i1, h2, i2, h3, i3, G⟩ := id S
  go_wp2_with fail
  clear e0 e1 e2 e3 h0 i0 h1 i1 h2 i2 h3 i3 G
  replace S : St w [(w13.heap.size, 0, .bool b12), (w13.heap.size, 1, .slice p12 n12 c12), (w.heap.size, 0, .bool false), (w.heap.size, 1, .slice none 0 0), (w.heap.size, 2, .bool false), (w.heap.size, 3, .slice none 0 0)] [(w13.heap.size, 0), (w13.heap.size, 1), (w.heap.size, 0), (w.heap.size, 1), (w.heap.size, 2), (w.heap.size, 3)] (w13.alloc (.cells #[.bool b12, .slice p12 n12 c12] 24)) := S.made (w13.heap.size) [.bool b12, .slice p12 n12 c12] 24 (by simp)
  replace N12 := Lib.hid (N12.out.kp (Kp.of (grown_alloc w13 (.cells #[.bool b12, .slice p12 n12 c12] 24) none)))
  have sz14 : (w13.alloc (.cells #[.bool b12, .slice p12 n12 c12] 24)).heap.size = w13.heap.size + 1 := by simp
  generalize (w13.alloc (.cells #[.bool b12, .slice p12 n12 c12] 24)) = W14 at *
  go_at_call 67
  with_reducible refine (Natural_4 _).mono ?_
  rintro e w16 ⟨b15, p15, n15, c15, rfl, h, g⟩
  replace N12 := Lib.hid (N12.out.kp (Kp.of g))
  have N15 := Lib.hid (h)
  replace S := S.step g
  have lg16 := g.size
  clear g h
  clear l0 lS
  have l0 := S.ltc (g := w.heap.size) (o := 0) (x := .bool false) (by simp)
  have l1 := S.ltc (g := w13.heap.size) (o := 0) (x := .bool b12) (by simp)
  have lS := S.size
  obtain ⟨e0, e1, e2, e3, e4, e5, h0, i0, h1, i1, h2, i2, h3, i3, h4, i4, h5, i5, G⟩ := id S
  go_wp2_with fail
  clear e0 e1 e2 e3 e4 e5 h0 i0 h1 i1 h2 i2 h3 i3 h4 i4 h5 i5 G
  replace S : St w [(w16.heap.size, 0, .bool b15), (w16.heap.size, 1, .slice p15 n15 c15), (w13.heap.size, 0, .bool b12), (w13.heap.size, 1, .slice p12 n12 c12), (w.heap.size, 0, .bool false), (w.heap.size, 1, .slice none 0 0), (w.heap.size, 2, .bool false), (w.heap.size, 3, .slice none 0 0)] [(w16.heap.size, 0), (w16.heap.size, 1), (w13.heap.size, 0), (w13.heap.size, 1), (w.heap.size, 0), (w.heap.size, 1), (w.heap.size, 2), (w.heap.size, 3)] (w16.alloc (.cells #[.bool b15, .slice p15 n15 c15] 24)) := S.made (w16.heap.size) [.bool b15, .slice p15 n15 c15] 24 (by simp)
  replace N12 := Lib.hid (N12.out.kp (Kp.of (grown_alloc w16 (.cells #[.bool b15, .slice p15 n15 c15] 24) none)))
  replace N15 := Lib.hid (N15.out.kp (Kp.of (grown_alloc w16 (.cells #[.bool b15, .slice p15 n15 c15] 24) none)))
  have sz17 : (w16.alloc (.cells #[.bool b15, .slice p15 n15 c15] 24)).heap.size = w16.heap.size + 1 := by simp
  generalize (w16.alloc (.cells #[.bool b15, .slice p15 n15 c15] 24)) = W17 at *
  obtain ⟨z18, ez18⟩ : ∃ t : Rat, Rat.divInt 6 4 = t := ⟨_, rfl⟩
  have E18 := Lib.hid ez18
  clear ez18
  go_at_call 68
  with_reducible refine (RMake_g N12.out.i N15.out.i (by omega) (by decide) E18.out).mono ?_
  rintro e w19 ⟨b18, p18, n18, c18, d18, q18, m18, f18, rfl, h, g⟩
  replace N12 := Lib.hid (N12.out.kp (Kp.of g))
  replace N15 := Lib.hid (N15.out.kp (Kp.of g))
  have N18 := Lib.hid (h)
  replace S := S.step g
  have lg19 := g.size
  clear g h
  clear l0 l1 lS
  have l0 := S.ltc (g := w.heap.size) (o := 0) (x := .bool false) (by simp)
  have l1 := S.ltc (g := w13.heap.size) (o := 0) (x := .bool b12) (by simp)
  have l2 := S.ltc (g := w16.heap.size) (o := 0) (x := .bool b15) (by simp)
  have lS := S.size
  obtain ⟨e0, e1, e2, e3, e4, e5, e6, e7, h0, i0, h1, i1, h2, i2, h3, i3, h4, i4, h5, i5, h6, i6, h7, i7, G⟩ := id S
  go_wp2_with fail
  clear e0 e1 e2 e3 e4 e5 e6 e7 h0 i0 h1 i1 h2 i2 h3 i3 h4 i4 h5 i5 h6 i6 h7 i7 G
  have K20 : Kp w19 (w19.setCell ⟨w.heap.size, 0, none⟩ (.bool b18)) := S.kp (g := w.heap.size) (o := 0) (x := .bool false) (.bool b18) (by simp) (by simp)
  replace S : St w [(w.heap.size, 0, .bool b18), (w16.heap.size, 0, .bool b15), (w16.heap.size, 1, .slice p15 n15 c15), (w13.heap.size, 0, .bool b12), (w13.heap.size, 1, .slice p12 n12 c12), (w.heap.size, 1, .slice none 0 0), (w.heap.size, 2, .bool false), (w.heap.size, 3, .slice none 0 0)] [(w16.heap.size, 0), (w16.heap.size, 1), (w13.heap.size, 0), (w13.heap.size, 1), (w.heap.size, 0), (w.heap.size, 1), (w.heap.size, 2), (w.heap.size, 3)] (w19.setCell ⟨w.heap.size, 0, none⟩ (.bool b18)) := S.set (g := w.heap.size) (o := 0) (.bool b18) (by simp) (by simp <;> omega) (by omega)
  replace S : St w [(w16.heap.size, 0, .bool b15), (w16.heap.size, 1, .slice p15 n15 c15), (w13.heap.size, 0, .bool b12), (w13.heap.size, 1, .slice p12 n12 c12), (w.heap.size, 0, .bool b18), (w.heap.size, 1, .slice none 0 0), (w.heap.size, 2, .bool false), (w.heap.size, 3, .slice none 0 0)] [(w16.heap.size, 0), (w16.heap.size, 1), (w13.heap.size, 0), (w13.heap.size, 1), (w.heap.size, 0), (w.heap.size, 1), (w.heap.size, 2), (w.heap.size, 3)] (w19.setCell ⟨w.heap.size, 0, none⟩ (.bool b18)) := S.sub (by simp) (by simp)
  have K21 : Kp (w19.setCell ⟨w.heap.size, 0, none⟩ (.bool b18)) ((w19.setCell ⟨w.heap.size, 0, none⟩ (.bool b18)).setCell ⟨w.heap.size, 1, none⟩ (.slice p18 n18 c18)) := S.kp (g := w.heap.size) (o := 1) (x := .slice none 0 0) (.slice p18 n18 c18) (by simp) (by simp)
  replace S : St w [(w.heap.size, 1, .slice p18 n18 c18), (w16.heap.size, 0, .bool b15), (w16.heap.size, 1, .slice p15 n15 c15), (w13.heap.size, 0, .bool b12), (w13.heap.size, 1, .slice p12 n12 c12), (w.heap.size, 0, .bool b18), (w.heap.size, 2, .bool false), (w.heap.size, 3, .slice none 0 0)] [(w16.heap.size, 0), (w16.heap.size, 1), (w13.heap.size, 0), (w13.heap.size, 1), (w.heap.size, 0), (w.heap.size, 1), (w.heap.size, 2), (w.heap.size, 3)] ((w19.setCell ⟨w.heap.size, 0, none⟩ (.bool b18)).setCell ⟨w.heap.size, 1, none⟩ (.slice p18 n18 c18)) := S.set (g := w.heap.size) (o := 1) (.slice p18 n18 c18) (by simp) (by simp <;> omega) (by omega)
  replace S : St w [(w16.heap.size, 0, .bool b15), (w16.heap.size, 1, .slice p15 n15 c15), (w13.heap.size, 0, .bool b12), (w13.heap.size, 1, .slice p12 n12 c12), (w.heap.size, 0, .bool b18), (w.heap.size, 1, .slice p18 n18 c18), (w.heap.size, 2, .bool false), (w.heap.size, 3, .slice none 0 0)] [(w16.heap.size, 0), (w16.heap.size, 1), (w13.heap.size, 0), (w13.heap.size, 1), (w.heap.size, 0), (w.heap.size, 1), (w.heap.size, 2), (w.heap.size, 3)] ((w19.setCell ⟨w.heap.size, 0, none⟩ (.bool b18)).setCell ⟨w.heap.size, 1, none⟩ (.slice p18 n18 c18)) := S.sub (by simp) (by simp)
  have K22 : Kp ((w19.setCell ⟨w.heap.size, 0, none⟩ (.bool b18)).setCell ⟨w.heap.size, 1, none⟩ (.slice p18 n18 c18)) (((w19.setCell ⟨w.heap.size, 0, none⟩ (.bool b18)).setCell ⟨w.heap.size, 1, none⟩ (.slice p18 n18 c18)).setCell ⟨w.heap.size, 2, none⟩ (.bool d18)) := S.kp (g := w.heap.size) (o := 2) (x := .bool false) (.bool d18) (by simp) (by simp)
  replace S : St w [(w.heap.size, 2, .bool d18), (w16.heap.size, 0, .bool b15), (w16.heap.size, 1, .slice p15 n15 c15), (w13.heap.size, 0, .bool b12), (w13.heap.size, 1, .slice p12 n12 c12), (w.heap.size, 0, .bool b18), (w.heap.size, 1, .slice p18 n18 c18), (w.heap.size, 3, .slice none 0 0)] [(w16.heap.size, 0), (w16.heap.size, 1), (w13.heap.size, 0), (w13.heap.size, 1), (w.heap.size, 0), (w.heap.size, 1), (w.heap.size, 2), (w.heap.size, 3)] (((w19.setCell ⟨w.heap.size, 0, none⟩ (.bool b18)).setCell ⟨w.heap.size, 1, none⟩ (.slice p18 n18 c18)).setCell ⟨w.heap.size, 2, none⟩ (.bool d18)) := S.set (g := w.heap.size) (o := 2) (.bool d18) (by simp) (by simp <;> omega) (by omega)
  replace S : St w [(w16.heap.size, 0, .bool b15), (w16.heap.size, 1, .slice p15 n15 c15), (w13.heap.size, 0, .bool b12), (w13.heap.size, 1, .slice p12 n12 c12), (w.heap.size, 0, .bool b18), (w.heap.size, 1, .slice p18 n18 c18), (w.heap.size, 2, .bool d18), (w.heap.size, 3, .slice none 0 0)] [(w16.heap.size, 0), (w16.heap.size, 1), (w13.heap.size, 0), (w13.heap.size, 1), (w.heap.size, 0), (w.heap.size, 1), (w.heap.size, 2), (w.heap.size, 3)] (((w19.setCell ⟨w.heap.size, 0, none⟩ (.bool b18)).setCell ⟨w.heap.size, 1, none⟩ (.slice p18 n18 c18)).setCell ⟨w.heap.size, 2, none⟩ (.bool d18)) := S.sub (by simp) (by simp)
  have K23 : Kp (((w19.setCell ⟨w.heap.size, 0, none⟩ (.bool b18)).setCell ⟨w.heap.size, 1, none⟩ (.slice p18 n18 c18)).setCell ⟨w.heap.size, 2, none⟩ (.bool d18)) ((((w19.setCell ⟨w.heap.size, 0, none⟩ (.bool b18)).setCell ⟨w.heap.size, 1, none⟩ (.slice p18 n18 c18)).setCell ⟨w.heap.size, 2, none⟩ (.bool d18)).setCell ⟨w.heap.size, 3, none⟩ (.slice q18 m18 f18)) := S.kp (g := w.heap.size) (o := 3) (x := .slice none 0 0) (.slice q18 m18 f18) (by simp) (by simp)
  replace S : St w [(w.heap.size, 3, .slice q18 m18 f18), (w16.heap.size, 0, .bool b15), (w16.heap.size, 1, .slice p15 n15 c15), (w13.heap.size, 0, .bool b12), (w13.heap.size, 1, .slice p12 n12 c12), (w.heap.size, 0, .bool b18), (w.heap.size, 1, .slice p18 n18 c18), (w.heap.size, 2, .bool d18)] [(w16.heap.size, 0), (w16.heap.size, 1), (w13.heap.size, 0), (w13.heap.size, 1), (w.heap.size, 0), (w.heap.size, 1), (w.heap.size, 2), (w.heap.size, 3)] ((((w19.setCell ⟨w.heap.size, 0, none⟩ (.bool b18)).setCell ⟨w.heap.size, 1, none⟩ (.slice p18 n18 c18)).setCell ⟨w.heap.size, 2, none⟩ (.bool d18)).setCell ⟨w.heap.size, 3, none⟩ (.slice q18 m18 f18)) := S.set (g := w.heap.size) (o := 3) (.slice q18 m18 f18) (by simp) (by simp <;> omega) (by omega)
  replace S : St w [(w16.heap.size, 0, .bool b15), (w16.heap.size, 1, .slice p15 n15 c15), (w13.heap.size, 0, .bool b12), (w13.heap.size, 1, .slice p12 n12 c12), (w.heap.size, 0, .bool b18), (w.heap.size, 1, .slice p18 n18 c18), (w.heap.size, 2, .bool d18), (w.heap.size, 3, .slice q18 m18 f18)] [(w16.heap.size, 0), (w16.heap.size, 1), (w13.heap.size, 0), (w13.heap.size, 1), (w.heap.size, 0), (w.heap.size, 1), (w.heap.size, 2), (w.heap.size, 3)] ((((w19.setCell ⟨w.heap.size, 0, none⟩ (.bool b18)).setCell ⟨w.heap.size, 1, none⟩ (.slice p18 n18 c18)).setCell ⟨w.heap.size, 2, none⟩ (.bool d18)).setCell ⟨w.heap.size, 3, none⟩ (.slice q18 m18 f18)) := S.sub (by simp) (by simp)
  replace N12 := Lib.hid (N12.out.kp (((K20.trans K21).trans K22).trans K23))
  replace N15 := Lib.hid (N15.out.kp (((K20.trans K21).trans K22).trans K23))
  replace N18 := Lib.hid (N18.out.kp (((K20.trans K21).trans K22).trans K23))
  clear K20 K21 K22 K23
  have sz24 : ((((w19.setCell ⟨w.heap.size, 0, none⟩ (.bool b18)).setCell ⟨w.heap.size, 1, none⟩ (.slice p18 n18 c18)).setCell ⟨w.heap.size, 2, none⟩ (.bool d18)).setCell ⟨w.heap.size, 3, none⟩ (.slice q18 m18 f18)).heap.size = w19.heap.size := by simp
  generalize ((((w19.setCell ⟨w.heap.size, 0, none⟩ (.bool b18)).setCell ⟨w.heap.size, 1, none⟩ (.slice p18 n18 c18)).setCell ⟨w.heap.size, 2, none⟩ (.bool d18)).setCell ⟨w.heap.size, 3, none⟩ (.slice q18 m18 f18)) = W24 at *
  refine post_QE Tryz.results35 rfl rfl rfl (S.cell (g := w.heap.size) (o := 0) (x := .bool b18) (by simp)) (S.cell (g := w.heap.size) (o := 1) (x := .slice p18 n18 c18) (by simp)) (S.cell (g := w.heap.size) (o := 2) (x := .bool d18) (by simp)) (S.cell (g := w.heap.size) (o := 3) (x := .slice q18 m18 f18) (by simp)) ⟨_, _, _, _, _, _, _, _, rfl, N18.out.eq (by rw [← E18.out]), S.all⟩

theorem Parse_64z {t : Rat} (w : World) (ht : Rat.divInt 6 4 = t) : Calls Tryz.prog 35 #[.string { data := #[54, 47, 52] }] w (GotQE w t 100) := ht ▸ Parse_64 w
set_option maxHeartbeats 4000000 in
set_option maxRecDepth 100000 in
theorem wakes4 (w : World) : Calls Tryz.prog 34 #[] w (Bool_ w true) := by
  have S : St w [] [] w := St.start w
  go_enter Tryz.func34, Tryz.ntmps34
  have G := S
  go_wp2_with fail
  clear G
  obtain ⟨z10, ez10⟩ : ∃ t : Rat, Rat.divInt 2 (-4) = t := ⟨_, rfl⟩
  have E10 := Lib.hid ez10
  clear ez10
  go_at_call 40
  with_reducible refine (ROf_g 2 (-4) (by decide) (by decide) (by decide) (by decide) (by decide) E10.out).mono ?_
  rintro e w11 ⟨b10, p10, n10, c10, d10, q10, m10, f10, rfl, h, g⟩
  have N10 := Lib.hid (h)
  replace S := S.step g
  have lg11 := g.size
  clear g h
  have lS := S.size
  have G := S
  go_wp2_with fail
  clear G
  replace S : St w [(w11.heap.size, 0, .bool b10), (w11.heap.size, 1, .slice p10 n10 c10), (w11.heap.size, 2, .bool d10), (w11.heap.size, 3, .slice q10 m10 f10)] [(w11.heap.size, 0), (w11.heap.size, 1), (w11.heap.size, 2), (w11.heap.size, 3)] (w11.alloc (.cells #[.bool b10, .slice p10 n10 c10, .bool d10, .slice q10 m10 f10] 46)) := S.made (w11.heap.size) [.bool b10, .slice p10 n10 c10, .bool d10, .slice q10 m10 f10] 46 (by simp)
  replace N10 := Lib.hid (N10.out.kp (Kp.of (grown_alloc w11 (.cells #[.bool b10, .slice p10 n10 c10, .bool d10, .slice q10 m10 f10] 46) none)))
  have sz12 : (w11.alloc (.cells #[.bool b10, .slice p10 n10 c10, .bool d10, .slice q10 m10 f10] 46)).heap.size = w11.heap.size + 1 := by simp
  generalize (w11.alloc (.cells #[.bool b10, .slice p10 n10 c10, .bool d10, .slice q10 m10 f10] 46)) = W12 at *
  obtain ⟨z13, ez13⟩ : ∃ t : Rat, Rat.divInt 6 4 = t := ⟨_, rfl⟩
  have E13 := Lib.hid ez13
  clear ez13
  go_at_call 35
  with_reducible refine (Parse_64z _ E13.out).mono ?_
  rintro e w14 ⟨b13, p13, n13, c13, d13, q13, m13, f13, rfl, h, g⟩
  replace N10 := Lib.hid (N10.out.kp (Kp.of g))
  have N13 := Lib.hid (h)
  replace S := S.step g
  have lg14 := g.size
  clear g h
  clear lS
  have l0 := S.ltc (g := w11.heap.size) (o := 0) (x := .bool b10) (by simp)
  have lS := S.size
  obtain ⟨e0, e1, e2, e3, h0, i0, h1, i1, h2, i2, h3, i3, G⟩ := id S
  go_wp2_with fail
  clear e0 e1 e2 e3 h0 i0 h1 i1 h2 i2 h3 i3 G
  replace S : St w [(w14.heap.size, 0, .bool b13), (w14.heap.size, 1, .slice p13 n13 c13), (w14.heap.size, 2, .bool d13), (w14.heap.size, 3, .slice q13 m13 f13), (w11.heap.size, 0, .bool b10), (w11.heap.size, 1, .slice p10 n10 c10), (w11.heap.size, 2, .bool d10), (w11.heap.size, 3, .slice q10 m10 f10)] [(w14.heap.size, 0), (w14.heap.size, 1), (w14.heap.size, 2), (w14.heap.size, 3), (w11.heap.size, 0), (w11.heap.size, 1), (w11.heap.size, 2), (w11.heap.size, 3)] (w14.alloc (.cells #[.bool b13, .slice p13 n13 c13, .bool d13, .slice q13 m13 f13] 46)) := S.made (w14.heap.size) [.bool b13, .slice p13 n13 c13, .bool d13, .slice q13 m13 f13] 46 (by simp)
  replace N10 := Lib.hid (N10.out.kp (Kp.of (grown_alloc w14 (.cells #[.bool b13, .slice p13 n13 c13, .bool d13, .slice q13 m13 f13] 46) none)))
  replace N13 := Lib.hid (N13.out.kp (Kp.of (grown_alloc w14 (.cells #[.bool b13, .slice p13 n13 c13, .bool d13, .slice q13 m13 f13] 46) none)))
  have sz15 : (w14.alloc (.cells #[.bool b13, .slice p13 n13 c13, .bool d13, .slice q13 m13 f13] 46)).heap.size = w14.heap.size + 1 := by simp
  generalize (w14.alloc (.cells #[.bool b13, .slice p13 n13 c13, .bool d13, .slice q13 m13 f13] 46)) = W15 at *
  have T0 : Cl [(w11.heap.size, 0, .bool b10), (w11.heap.size, 1, .slice p10 n10 c10), (w11.heap.size, 2, .bool d10), (w11.heap.size, 3, .slice q10 m10 f10), (w14.heap.size, 0, .bool b13), (w14.heap.size, 1, .slice p13 n13 c13), (w14.heap.size, 2, .bool d13), (w14.heap.size, 3, .slice q13 m13 f13)] W15 := S.cl (by simp)
  refine wp_region_noPanic ?_
  refine wp_region_held_drew (S := fun w' => w'.cell? ⟨w11.heap.size, 0, none⟩ = some (.bool b10) ∧ w'.cell? ⟨w11.heap.size, 1, none⟩ = some (.slice p10 n10 c10) ∧ w'.cell? ⟨w11.heap.size, 2, none⟩ = some (.bool d10) ∧ w'.cell? ⟨w11.heap.size, 3, none⟩ = some (.slice q10 m10 f10) ∧ w'.cell? ⟨w14.heap.size, 0, none⟩ = some (.bool b13) ∧ w'.cell? ⟨w14.heap.size, 1, none⟩ = some (.slice p13 n13 c13) ∧ w'.cell? ⟨w14.heap.size, 2, none⟩ = some (.bool d13) ∧ w'.cell? ⟨w14.heap.size, 3, none⟩ = some (.slice q13 m13 f13) ∧ True) (by kernel_rfl) (by exact Cl.step (cs := [(w11.heap.size, 0, .bool b10), (w11.heap.size, 1, .slice p10 n10 c10), (w11.heap.size, 2, .bool d10), (w11.heap.size, 3, .slice q10 m10 f10), (w14.heap.size, 0, .bool b13), (w14.heap.size, 1, .slice p13 n13 c13), (w14.heap.size, 2, .bool d13), (w14.heap.size, 3, .slice q13 m13 f13)]) (grown_drew _ _) T0) (fun hHeld => ?_)
  change wpAnyH _ _ _ _ _ 17 #[false, false, false, false, false, false, false, false, false, false, false, false, false, false, false, false, false] _ _
  replace S := S.step (grown_drew W15 none)
  replace N10 := Lib.hid (N10.out.kp (Kp.of (grown_drew W15 none)))
  replace N13 := Lib.hid (N13.out.kp (Kp.of (grown_drew W15 none)))
  have lg16 := (grown_drew W15 none).size
  clear T0
  generalize W15.drew = wr16 at *
  clear l0 lS
  have l0 := S.ltc (g := w11.heap.size) (o := 0) (x := .bool b10) (by simp)
  have l1 := S.ltc (g := w14.heap.size) (o := 0) (x := .bool b13) (by simp)
  have lS := S.size
  refine wpAnyH_take (i := 0) (oi := _) (v := ?vq17) rfl (by kernel_rfl) (by kernel_rfl) (by kernel_rfl) (fun _ _ _ h => h) (Or.inl ⟨by rfl, ?hyq17⟩) (by assumption) ?restq17
  case hyq17 => (intro w hSw; (try dsimp only at hSw); go_simp; try with_reducible rfl)
  try simp only [Act.put, List.getElem_toArray, List.getElem_cons_zero, List.setIfInBounds_toArray, List.set_cons_zero, List.set_cons_succ]
  refine wpAnyH_take (i := 1) (oi := _) (v := ?vq18) rfl (by kernel_rfl) (by kernel_rfl) (by kernel_rfl) (fun _ _ _ h => h) (Or.inl ⟨by rfl, ?hyq18⟩) (by assumption) ?restq18
  case hyq18 => (intro w hSw; (try dsimp only at hSw); go_simp; try with_reducible rfl)
  try simp only [Act.put, List.getElem_toArray, List.getElem_cons_zero, List.getElem_cons_succ, List.setIfInBounds_toArray, List.set_cons_zero, List.set_cons_succ]
  refine wpAnyH_take (i := 2) (oi := _) (v := ?vq19) rfl (by kernel_rfl) (by kernel_rfl) (by kernel_rfl) (fun _ _ _ h => h) (Or.inl ⟨by rfl, ?hyq19⟩) (by assumption) ?restq19
  case hyq19 => (intro w hSw; (try dsimp only at hSw); go_simp; try with_reducible rfl)
  try simp only [Act.put, List.getElem_toArray, List.getElem_cons_zero, List.getElem_cons_succ, List.setIfInBounds_toArray, List.set_cons_zero, List.set_cons_succ]
  refine wpAnyH_take (i := 3) (oi := _) (v := ?vq20) rfl (by kernel_rfl) (by kernel_rfl) (by kernel_rfl) (fun _ _ _ h => h) (Or.inl ⟨by rfl, ?hyq20⟩) (by assumption) ?restq20
  case hyq20 => (intro w hSw; (try dsimp only at hSw); go_simp; try with_reducible rfl)
  try simp only [Act.put, List.getElem_toArray, List.getElem_cons_zero, List.getElem_cons_succ, List.setIfInBounds_toArray, List.set_cons_zero, List.set_cons_succ]
  refine wpAnyH_take (i := 4) (oi := _) (v := ?vq21) rfl (by kernel_rfl) (by kernel_rfl) (by kernel_rfl) (fun _ _ _ h => h) (Or.inl ⟨by rfl, ?hyq21⟩) (by assumption) ?restq21
  case hyq21 => (intro w hSw; (try dsimp only at hSw); go_simp; try with_reducible rfl)
  try simp only [Act.put, List.getElem_toArray, List.getElem_cons_zero, List.getElem_cons_succ, List.setIfInBounds_toArray, List.set_cons_zero, List.set_cons_succ]
  refine wpAnyH_take (i := 5) (oi := _) (v := ?vq22) rfl (by kernel_rfl) (by kernel_rfl) (by kernel_rfl) (fun _ _ _ h => h) (Or.inl ⟨by rfl, ?hyq22⟩) (by assumption) ?restq22
  case hyq22 => (intro w hSw; (try dsimp only at hSw); go_simp; try with_reducible rfl)
  try simp only [Act.put, List.getElem_toArray, List.getElem_cons_zero, List.getElem_cons_succ, List.setIfInBounds_toArray, List.set_cons_zero, List.set_cons_succ]
  refine wpAnyH_take (i := 6) (oi := _) (v := ?vq23) rfl (by kernel_rfl) (by kernel_rfl) (by kernel_rfl) (fun _ _ _ h => h) (Or.inl ⟨by rfl, ?hyq23⟩) (by assumption) ?restq23
  case hyq23 => (intro w hSw; (try dsimp only at hSw); go_simp; try with_reducible rfl)
  try simp only [Act.put, List.getElem_toArray, List.getElem_cons_zero, List.getElem_cons_succ, List.setIfInBounds_toArray, List.set_cons_zero, List.set_cons_succ]
  refine wpAnyH_take (i := 8) (oi := _) (v := ?vq24) rfl (by kernel_rfl) (by kernel_rfl) (by kernel_rfl) (fun _ _ _ h => h) (Or.inl ⟨by rfl, ?hyq24⟩) (by assumption) ?restq24
  case hyq24 => (intro w hSw; (try dsimp only at hSw); go_simp; try with_reducible rfl)
  try simp only [Act.put, List.getElem_toArray, List.getElem_cons_zero, List.getElem_cons_succ, List.setIfInBounds_toArray, List.set_cons_zero, List.set_cons_succ]
  obtain ⟨z26, ez26⟩ : ∃ t : Rat, qOf (-1) 2 = t := ⟨_, rfl⟩
  have E26 := Lib.hid ez26
  clear ez26
  refine wpAnyH_ready (rs := [7]) (by kernel_rfl) (by simp) ?_
  refine AllReadyH.cons (o := _) rfl (fun K hK => ?_) AllReadyH.nil
  go_simp
  go_at_call 28
  with_reducible refine (OfR_g (-1) 2 (by decide) (by decide) (by decide) (by decide) E26.out).mono ?_
  rintro e w27 ⟨p26, n26, c26, b26, q26, m26, f26, d26, rfl, h, g⟩
  replace N10 := Lib.hid (N10.out.kp (Kp.of g))
  replace N13 := Lib.hid (N13.out.kp (Kp.of g))
  have N26 := Lib.hid (h)
  replace S := S.step g
  have lg27 := g.size
  clear l0 l1 lS
  have l0 := S.ltc (g := w11.heap.size) (o := 0) (x := .bool b10) (by simp)
  have l1 := S.ltc (g := w14.heap.size) (o := 0) (x := .bool b13) (by simp)
  have lS := S.size
  go_wp2_with fail
  refine hK.out _ _ ?hSq25 (fun hHeld => ?_)
  case hSq25 => exact Cl.step (cs := [(w11.heap.size, 0, .bool b10), (w11.heap.size, 1, .slice p10 n10 c10), (w11.heap.size, 2, .bool d10), (w11.heap.size, 3, .slice q10 m10 f10), (w14.heap.size, 0, .bool b13), (w14.heap.size, 1, .slice p13 n13 c13), (w14.heap.size, 2, .bool d13), (w14.heap.size, 3, .slice q13 m13 f13)]) g (by assumption)
  clear hK K g h
  try simp only [List.setIfInBounds_toArray, List.set_cons_zero, List.set_cons_succ]
  refine wpAnyH_ready (rs := [9]) (by kernel_rfl) (by simp) ?_
  refine AllReadyH.cons (o := _) rfl (fun K hK => ?_) AllReadyH.nil
  go_simp
  go_at_call 31
  with_reducible refine (Is_q N26.out N10.out (by omega) (by rw [← E26.out, ← E10.out]; decide +kernel)).mono ?_
  rintro e w29 ⟨rfl, g⟩
  replace N10 := Lib.hid (N10.out.kp (Kp.of g))
  replace N13 := Lib.hid (N13.out.kp (Kp.of g))
  replace N26 := Lib.hid (N26.out.kp (Kp.of g))
  replace S := S.step g
  have lg29 := g.size
  clear l0 l1 lS
  have l0 := S.ltc (g := w11.heap.size) (o := 0) (x := .bool b10) (by simp)
  have l1 := S.ltc (g := w14.heap.size) (o := 0) (x := .bool b13) (by simp)
  have lS := S.size
  go_wp2_with fail
  refine hK.out _ _ ?hSq28 (fun hHeld => ?_)
  case hSq28 => exact Cl.step (cs := [(w11.heap.size, 0, .bool b10), (w11.heap.size, 1, .slice p10 n10 c10), (w11.heap.size, 2, .bool d10), (w11.heap.size, 3, .slice q10 m10 f10), (w14.heap.size, 0, .bool b13), (w14.heap.size, 1, .slice p13 n13 c13), (w14.heap.size, 2, .bool d13), (w14.heap.size, 3, .slice q13 m13 f13)]) g (by assumption)
  clear hK K g
  try simp only [List.setIfInBounds_toArray, List.set_cons_zero, List.set_cons_succ]
  refine wpAnyH_take (i := 10) (oi := _) (v := ?vq30) rfl (by kernel_rfl) (by kernel_rfl) (by kernel_rfl) (fun _ _ _ h => h) (Or.inl ⟨by rfl, ?hyq30⟩) (by assumption) ?restq30
  case hyq30 => (intro w hSw; (try dsimp only at hSw); go_simp; try with_reducible rfl)
  try simp only [Act.put, List.getElem_toArray, List.getElem_cons_zero, List.getElem_cons_succ, List.setIfInBounds_toArray, List.set_cons_zero, List.set_cons_succ]
  refine wpAnyH_take (i := 11) (oi := _) (v := ?vq31) rfl (by kernel_rfl) (by kernel_rfl) (by kernel_rfl) (fun _ _ _ h => h) (Or.inl ⟨by rfl, ?hyq31⟩) (by assumption) ?restq31
  case hyq31 => (intro w hSw; (try dsimp only at hSw); go_simp; try with_reducible rfl)
  try simp only [Act.put, List.getElem_toArray, List.getElem_cons_zero, List.getElem_cons_succ, List.setIfInBounds_toArray, List.set_cons_zero, List.set_cons_succ]
  refine wpAnyH_take (i := 13) (oi := _) (v := ?vq32) rfl (by kernel_rfl) (by kernel_rfl) (by kernel_rfl) (fun _ _ _ h => h) (Or.inl ⟨by rfl, ?hyq32⟩) (by assumption) ?restq32
  case hyq32 => (intro w hSw; (try dsimp only at hSw); go_simp; try with_reducible rfl)
  try simp only [Act.put, List.getElem_toArray, List.getElem_cons_zero, List.getElem_cons_succ, List.setIfInBounds_toArray, List.set_cons_zero, List.set_cons_succ]
  obtain ⟨z34, ez34⟩ : ∃ t : Rat, qOf 3 2 = t := ⟨_, rfl⟩
  have E34 := Lib.hid ez34
  clear ez34
  refine wpAnyH_ready (rs := [12]) (by kernel_rfl) (by simp) ?_
  refine AllReadyH.cons (o := _) rfl (fun K hK => ?_) AllReadyH.nil
  go_simp
  go_at_call 28
  with_reducible refine (OfR_g 3 2 (by decide) (by decide) (by decide) (by decide) E34.out).mono ?_
  rintro e w35 ⟨p34, n34, c34, b34, q34, m34, f34, d34, rfl, h, g⟩
  replace N10 := Lib.hid (N10.out.kp (Kp.of g))
  replace N13 := Lib.hid (N13.out.kp (Kp.of g))
  replace N26 := Lib.hid (N26.out.kp (Kp.of g))
  have N34 := Lib.hid (h)
  replace S := S.step g
  have lg35 := g.size
  clear l0 l1 lS
  have l0 := S.ltc (g := w11.heap.size) (o := 0) (x := .bool b10) (by simp)
  have l1 := S.ltc (g := w14.heap.size) (o := 0) (x := .bool b13) (by simp)
  have lS := S.size
  go_wp2_with fail
  refine hK.out _ _ ?hSq33 (fun hHeld => ?_)
  case hSq33 => exact Cl.step (cs := [(w11.heap.size, 0, .bool b10), (w11.heap.size, 1, .slice p10 n10 c10), (w11.heap.size, 2, .bool d10), (w11.heap.size, 3, .slice q10 m10 f10), (w14.heap.size, 0, .bool b13), (w14.heap.size, 1, .slice p13 n13 c13), (w14.heap.size, 2, .bool d13), (w14.heap.size, 3, .slice q13 m13 f13)]) g (by assumption)
  clear hK K g h
  try simp only [List.setIfInBounds_toArray, List.set_cons_zero, List.set_cons_succ]
  refine wpAnyH_ready (rs := [14]) (by kernel_rfl) (by simp) ?_
  refine AllReadyH.cons (o := _) rfl (fun K hK => ?_) AllReadyH.nil
  go_simp
  go_at_call 31
  with_reducible refine (Is_q N34.out N13.out (by omega) (by rw [← E34.out, ← E13.out]; decide +kernel)).mono ?_
  rintro e w37 ⟨rfl, g⟩
  replace N10 := Lib.hid (N10.out.kp (Kp.of g))
  replace N13 := Lib.hid (N13.out.kp (Kp.of g))
  replace N26 := Lib.hid (N26.out.kp (Kp.of g))
  replace N34 := Lib.hid (N34.out.kp (Kp.of g))
  replace S := S.step g
  have lg37 := g.size
  clear l0 l1 lS
  have l0 := S.ltc (g := w11.heap.size) (o := 0) (x := .bool b10) (by simp)
  have l1 := S.ltc (g := w14.heap.size) (o := 0) (x := .bool b13) (by simp)
  have lS := S.size
  go_wp2_with fail
  refine hK.out _ _ ?hSq36 (fun hHeld => ?_)
  case hSq36 => exact Cl.step (cs := [(w11.heap.size, 0, .bool b10), (w11.heap.size, 1, .slice p10 n10 c10), (w11.heap.size, 2, .bool d10), (w11.heap.size, 3, .slice q10 m10 f10), (w14.heap.size, 0, .bool b13), (w14.heap.size, 1, .slice p13 n13 c13), (w14.heap.size, 2, .bool d13), (w14.heap.size, 3, .slice q13 m13 f13)]) g (by assumption)
  clear hK K g
  try simp only [List.setIfInBounds_toArray, List.set_cons_zero, List.set_cons_succ]
  refine wpAnyH_take (i := 15) (oi := _) (v := ?vq38) rfl (by kernel_rfl) (by kernel_rfl) (by kernel_rfl) (fun _ _ _ h => h) (Or.inl ⟨by rfl, ?hyq38⟩) (by assumption) ?restq38
  case hyq38 => (intro w hSw; (try dsimp only at hSw); go_simp; try with_reducible rfl)
  try simp only [Act.put, List.getElem_toArray, List.getElem_cons_zero, List.getElem_cons_succ, List.setIfInBounds_toArray, List.set_cons_zero, List.set_cons_succ]
  refine wpAnyH_take (i := 16) (oi := _) (v := ?vq39) rfl (by kernel_rfl) (by kernel_rfl) (by kernel_rfl) (fun _ _ _ h => h) (Or.inl ⟨by rfl, ?hyq39⟩) (by assumption) ?restq39
  case hyq39 => (intro w hSw; (try dsimp only at hSw); go_simp; try with_reducible rfl)
  try simp only [Act.put, List.getElem_toArray, List.getElem_cons_zero, List.getElem_cons_succ, List.setIfInBounds_toArray, List.set_cons_zero, List.set_cons_succ]
  refine wpAnyH_done (by kernel_rfl) ?_ _
  refine NoPanic.normal ?_
  obtain ⟨e0, e1, e2, e3, e4, e5, e6, e7, h0, i0, h1, i1, h2, i2, h3, i3, h4, i4, h5, i5, h6, i6, h7, i7, G⟩ := id S
  go_wp2_with fail
  clear e0 e1 e2 e3 e4 e5 e6 e7 h0 i0 h1 i1 h2 i2 h3 i3 h4 i4 h5 i5 h6 i6 h7 i7 G
  go_ret
  exact ⟨rfl, S.all⟩

end Go.Proofs.YtjakllpnbeagjaaGreatDoor
