/- The reference's rationals, one contract a function. -/
import Derived.Test.YtmkplojojaopmaaGreatDoorRefR
import Derived.Test.YtmkplojojaopmaaGreatDoorRatB
namespace Go.Proofs.YtmkplojojaopmaaGreatDoor
open Go.RowKit

set_option maxHeartbeats 4000000 in
set_option maxRecDepth 100000 in
theorem FromR_g {v : Value} {q : Rat} {i : Nat} {w : World} (hx : RatV w v q i) (hk : i ≤ 50000) :
    Calls Tryz.prog 28 #[v] w (GotS w q (2 * i + 2)) := by
  obtain ⟨b0, p0, n0, c0, b1, p1, n1, c1, z, y, rfl, hz, hy, rfl⟩ := hx
  have Hz := Lib.hid hz
  have Hy := Lib.hid hy
  clear hz hy
  have S : St w [] [] w := St.start w
  go_enter Tryz.func28, Tryz.ntmps28
  have G := S
  go_wp2_with fail
  clear G
  replace S : St w [(w.heap.size, 0, .bool b0), (w.heap.size, 1, .slice p0 n0 c0), (w.heap.size, 2, .bool b1), (w.heap.size, 3, .slice p1 n1 c1)] [] (w.alloc (.cells #[.bool b0, .slice p0 n0 c0, .bool b1, .slice p1 n1 c1] 46)) := S.box (w.heap.size) [.bool b0, .slice p0 n0 c0, .bool b1, .slice p1 n1 c1] 46 (by simp)
  replace S : St w [(w.heap.size + 1, 0, .slice none 0 0), (w.heap.size + 1, 1, .bool false), (w.heap.size + 1, 2, .slice none 0 0), (w.heap.size + 1, 3, .bool false), (w.heap.size, 0, .bool b0), (w.heap.size, 1, .slice p0 n0 c0), (w.heap.size, 2, .bool b1), (w.heap.size, 3, .slice p1 n1 c1)] [(w.heap.size + 1, 0), (w.heap.size + 1, 1), (w.heap.size + 1, 2), (w.heap.size + 1, 3)] ((w.alloc (.cells #[.bool b0, .slice p0 n0 c0, .bool b1, .slice p1 n1 c1] 46)).alloc (.cells #[.slice none 0 0, .bool false, .slice none 0 0, .bool false] 49)) := S.made (w.heap.size + 1) [.slice none 0 0, .bool false, .slice none 0 0, .bool false] 49 (by simp)
  replace Hz := Lib.hid (Hz.out.kp ((Kp.of (grown_alloc w (.cells #[.bool b0, .slice p0 n0 c0, .bool b1, .slice p1 n1 c1] 46) none)).trans (Kp.of (grown_alloc ((w.alloc (.cells #[.bool b0, .slice p0 n0 c0, .bool b1, .slice p1 n1 c1] 46))) (.cells #[.slice none 0 0, .bool false, .slice none 0 0, .bool false] 49) none))))
  replace Hy := Lib.hid (Hy.out.kp ((Kp.of (grown_alloc w (.cells #[.bool b0, .slice p0 n0 c0, .bool b1, .slice p1 n1 c1] 46) none)).trans (Kp.of (grown_alloc ((w.alloc (.cells #[.bool b0, .slice p0 n0 c0, .bool b1, .slice p1 n1 c1] 46))) (.cells #[.slice none 0 0, .bool false, .slice none 0 0, .bool false] 49) none))))
  have sz10 : ((w.alloc (.cells #[.bool b0, .slice p0 n0 c0, .bool b1, .slice p1 n1 c1] 46)).alloc (.cells #[.slice none 0 0, .bool false, .slice none 0 0, .bool false] 49)).heap.size = w.heap.size + 2 := by simp
  generalize ((w.alloc (.cells #[.bool b0, .slice p0 n0 c0, .bool b1, .slice p1 n1 c1] 46)).alloc (.cells #[.slice none 0 0, .bool false, .slice none 0 0, .bool false] 49)) = W10 at *
  have T0 : Cl [(w.heap.size, 0, .bool b0), (w.heap.size, 1, .slice p0 n0 c0), (w.heap.size, 2, .bool b1), (w.heap.size, 3, .slice p1 n1 c1)] W10 := S.cl (by simp)
  refine wp_region_noPanic ?_
  refine wp_region_held_drew (S := fun w' => w'.cell? ⟨w.heap.size, 0, none⟩ = some (.bool b0) ∧ w'.cell? ⟨w.heap.size, 1, none⟩ = some (.slice p0 n0 c0) ∧ w'.cell? ⟨w.heap.size, 2, none⟩ = some (.bool b1) ∧ w'.cell? ⟨w.heap.size, 3, none⟩ = some (.slice p1 n1 c1) ∧ True) (by kernel_rfl) (by exact Cl.step (cs := [(w.heap.size, 0, .bool b0), (w.heap.size, 1, .slice p0 n0 c0), (w.heap.size, 2, .bool b1), (w.heap.size, 3, .slice p1 n1 c1)]) (grown_drew _ _) T0) (fun hHeld => ?_)
  change wpAnyH _ _ _ _ _ 8 #[false, false, false, false, false, false, false, false] _ _
  replace S := S.step (grown_drew W10 none)
  replace Hz := Lib.hid (Hz.out.kp (Kp.of (grown_drew W10 none)))
  replace Hy := Lib.hid (Hy.out.kp (Kp.of (grown_drew W10 none)))
  have lg11 := (grown_drew W10 none).size
  clear T0
  generalize W10.drew = wr11 at *
  have l0 := S.ltc (g := w.heap.size) (o := 0) (x := .bool b0) (by simp)
  have l1 := S.ltc (g := w.heap.size + 1) (o := 0) (x := .slice none 0 0) (by simp)
  have lS := S.size
  refine wpAnyH_take (i := 0) (oi := _) (v := ?vq12) rfl (by kernel_rfl) (by kernel_rfl) (by kernel_rfl) (fun _ _ _ h => h) (Or.inl ⟨by rfl, ?hyq12⟩) (by assumption) ?restq12
  case hyq12 => (intro w hSw; (try dsimp only at hSw); go_simp; try with_reducible rfl)
  try simp only [Act.put, List.getElem_toArray, List.getElem_cons_zero, List.setIfInBounds_toArray, List.set_cons_zero, List.set_cons_succ]
  refine wpAnyH_take (i := 1) (oi := _) (v := ?vq13) rfl (by kernel_rfl) (by kernel_rfl) (by kernel_rfl) (fun _ _ _ h => h) (Or.inl ⟨by rfl, ?hyq13⟩) (by assumption) ?restq13
  case hyq13 => (intro w hSw; (try dsimp only at hSw); go_simp; try with_reducible rfl)
  try simp only [Act.put, List.getElem_toArray, List.getElem_cons_zero, List.getElem_cons_succ, List.setIfInBounds_toArray, List.set_cons_zero, List.set_cons_succ]
  refine wpAnyH_take (i := 3) (oi := _) (v := ?vq14) rfl (by kernel_rfl) (by kernel_rfl) (by kernel_rfl) (fun _ _ _ h => h) (Or.inl ⟨by rfl, ?hyq14⟩) (by assumption) ?restq14
  case hyq14 => (intro w hSw; (try dsimp only at hSw); go_simp; try with_reducible rfl)
  try simp only [Act.put, List.getElem_toArray, List.getElem_cons_zero, List.getElem_cons_succ, List.setIfInBounds_toArray, List.set_cons_zero, List.set_cons_succ]
  refine wpAnyH_take (i := 4) (oi := _) (v := ?vq15) rfl (by kernel_rfl) (by kernel_rfl) (by kernel_rfl) (fun _ _ _ h => h) (Or.inl ⟨by rfl, ?hyq15⟩) (by assumption) ?restq15
  case hyq15 => (intro w hSw; (try dsimp only at hSw); go_simp; try with_reducible rfl)
  try simp only [Act.put, List.getElem_toArray, List.getElem_cons_zero, List.getElem_cons_succ, List.setIfInBounds_toArray, List.set_cons_zero, List.set_cons_succ]
  refine wpAnyH_ready (rs := [2]) (by kernel_rfl) (by simp) ?_
  refine AllReadyH.cons (o := _) rfl (fun K hK => ?_) AllReadyH.nil
  go_simp
  go_at_call 19
  with_reducible refine (From_h Hz.out (by omega)).mono ?_
  rintro e w18 ⟨p17, n17, c17, b17, rfl, h, g⟩
  clear Hz
  replace Hy := Lib.hid (Hy.out.kp (Kp.of g))
  have N17 := Lib.hid (h)
  replace S := S.step g
  have lg18 := g.size
  clear l0 l1 lS
  have l0 := S.ltc (g := w.heap.size) (o := 0) (x := .bool b0) (by simp)
  have l1 := S.ltc (g := w.heap.size + 1) (o := 0) (x := .slice none 0 0) (by simp)
  have lS := S.size
  go_wp2_with fail
  refine hK.out _ _ ?hSq16 (fun hHeld => ?_)
  case hSq16 => exact Cl.step (cs := [(w.heap.size, 0, .bool b0), (w.heap.size, 1, .slice p0 n0 c0), (w.heap.size, 2, .bool b1), (w.heap.size, 3, .slice p1 n1 c1)]) g (by assumption)
  clear hK K g h
  try simp only [List.setIfInBounds_toArray, List.set_cons_zero, List.set_cons_succ]
  refine wpAnyH_ready (rs := [5]) (by kernel_rfl) (by simp) ?_
  refine AllReadyH.cons (o := _) rfl (fun K hK => ?_) AllReadyH.nil
  go_simp
  go_at_call 19
  with_reducible refine (From_h Hy.out (by omega)).mono ?_
  rintro e w21 ⟨p20, n20, c20, b20, rfl, h, g⟩
  clear Hy
  replace N17 := Lib.hid (N17.out.kp (Kp.of g))
  have N20 := Lib.hid (h)
  replace S := S.step g
  have lg21 := g.size
  clear l0 l1 lS
  have l0 := S.ltc (g := w.heap.size) (o := 0) (x := .bool b0) (by simp)
  have l1 := S.ltc (g := w.heap.size + 1) (o := 0) (x := .slice none 0 0) (by simp)
  have lS := S.size
  go_wp2_with fail
  refine hK.out _ _ ?hSq19 (fun hHeld => ?_)
  case hSq19 => exact Cl.step (cs := [(w.heap.size, 0, .bool b0), (w.heap.size, 1, .slice p0 n0 c0), (w.heap.size, 2, .bool b1), (w.heap.size, 3, .slice p1 n1 c1)]) g (by assumption)
  clear hK K g h
  try simp only [List.setIfInBounds_toArray, List.set_cons_zero, List.set_cons_succ]
  obtain ⟨z23, ez23⟩ : ∃ t : Rat, qOf z y = t := ⟨_, rfl⟩
  have E23 := Lib.hid ez23
  clear ez23
  refine wpAnyH_ready (rs := [6]) (by kernel_rfl) (by simp) ?_
  refine AllReadyH.cons (o := _) rfl (fun K hK => ?_) AllReadyH.nil
  go_simp
  go_at_call 35
  with_reducible refine (Make_h N17.out N20.out (by omega) E23.out).mono ?_
  rintro e w24 ⟨p23, n23, c23, b23, q23, m23, f23, d23, rfl, h, g⟩
  clear N17 N20
  have N23 := Lib.hid (h)
  replace S := S.step g
  have lg24 := g.size
  clear l0 l1 lS
  have l0 := S.ltc (g := w.heap.size) (o := 0) (x := .bool b0) (by simp)
  have l1 := S.ltc (g := w.heap.size + 1) (o := 0) (x := .slice none 0 0) (by simp)
  have lS := S.size
  go_wp2_with fail
  refine hK.out _ _ ?hSq22 (fun hHeld => ?_)
  case hSq22 => exact Cl.step (cs := [(w.heap.size, 0, .bool b0), (w.heap.size, 1, .slice p0 n0 c0), (w.heap.size, 2, .bool b1), (w.heap.size, 3, .slice p1 n1 c1)]) g (by assumption)
  clear hK K g h
  try simp only [List.setIfInBounds_toArray, List.set_cons_zero, List.set_cons_succ]
  obtain ⟨e0, e1, e2, e3, e4, e5, e6, e7, h0, i0, h1, i1, h2, i2, h3, i3, G⟩ := id S
  refine wpAnyH_ready (rs := [7]) (by kernel_rfl) (by simp) ?_
  refine AllReadyH.cons (o := _) rfl (fun K hK => ?_) AllReadyH.nil
  go_simp
  refine hK.out _ _ ?hSq25 (fun hHeld => ?_)
  case hSq25 => exact (Cl.set (cs := [(w.heap.size, 0, .bool b0), (w.heap.size, 1, .slice p0 n0 c0), (w.heap.size, 2, .bool b1), (w.heap.size, 3, .slice p1 n1 c1)]) (g := w.heap.size + 1) (o := 3) (u := .bool d23) (Cl.set (cs := [(w.heap.size, 0, .bool b0), (w.heap.size, 1, .slice p0 n0 c0), (w.heap.size, 2, .bool b1), (w.heap.size, 3, .slice p1 n1 c1)]) (g := w.heap.size + 1) (o := 2) (u := .slice q23 m23 f23) (Cl.set (cs := [(w.heap.size, 0, .bool b0), (w.heap.size, 1, .slice p0 n0 c0), (w.heap.size, 2, .bool b1), (w.heap.size, 3, .slice p1 n1 c1)]) (g := w.heap.size + 1) (o := 1) (u := .bool b23) (Cl.set (cs := [(w.heap.size, 0, .bool b0), (w.heap.size, 1, .slice p0 n0 c0), (w.heap.size, 2, .bool b1), (w.heap.size, 3, .slice p1 n1 c1)]) (g := w.heap.size + 1) (o := 0) (u := .slice p23 n23 c23) (by assumption) (by simp <;> omega)) (by simp <;> omega)) (by simp <;> omega)) (by simp <;> omega))
  clear hK K
  try simp only [List.setIfInBounds_toArray, List.set_cons_zero, List.set_cons_succ]
  clear e0 e1 e2 e3 e4 e5 e6 e7 h0 i0 h1 i1 h2 i2 h3 i3 G
  have K26 : Kp w24 (w24.setCell ⟨w.heap.size + 1, 0, none⟩ (.slice p23 n23 c23)) := S.kp (g := w.heap.size + 1) (o := 0) (x := .slice none 0 0) (.slice p23 n23 c23) (by simp) (by simp)
  replace S : St w [(w.heap.size + 1, 0, .slice p23 n23 c23), (w.heap.size + 1, 1, .bool false), (w.heap.size + 1, 2, .slice none 0 0), (w.heap.size + 1, 3, .bool false), (w.heap.size, 0, .bool b0), (w.heap.size, 1, .slice p0 n0 c0), (w.heap.size, 2, .bool b1), (w.heap.size, 3, .slice p1 n1 c1)] [(w.heap.size + 1, 0), (w.heap.size + 1, 1), (w.heap.size + 1, 2), (w.heap.size + 1, 3)] (w24.setCell ⟨w.heap.size + 1, 0, none⟩ (.slice p23 n23 c23)) := S.set (g := w.heap.size + 1) (o := 0) (.slice p23 n23 c23) (by simp) (by simp <;> omega) (by omega)
  have K27 : Kp (w24.setCell ⟨w.heap.size + 1, 0, none⟩ (.slice p23 n23 c23)) ((w24.setCell ⟨w.heap.size + 1, 0, none⟩ (.slice p23 n23 c23)).setCell ⟨w.heap.size + 1, 1, none⟩ (.bool b23)) := S.kp (g := w.heap.size + 1) (o := 1) (x := .bool false) (.bool b23) (by simp) (by simp)
  replace S : St w [(w.heap.size + 1, 1, .bool b23), (w.heap.size + 1, 0, .slice p23 n23 c23), (w.heap.size + 1, 2, .slice none 0 0), (w.heap.size + 1, 3, .bool false), (w.heap.size, 0, .bool b0), (w.heap.size, 1, .slice p0 n0 c0), (w.heap.size, 2, .bool b1), (w.heap.size, 3, .slice p1 n1 c1)] [(w.heap.size + 1, 0), (w.heap.size + 1, 1), (w.heap.size + 1, 2), (w.heap.size + 1, 3)] ((w24.setCell ⟨w.heap.size + 1, 0, none⟩ (.slice p23 n23 c23)).setCell ⟨w.heap.size + 1, 1, none⟩ (.bool b23)) := S.set (g := w.heap.size + 1) (o := 1) (.bool b23) (by simp) (by simp <;> omega) (by omega)
  have K28 : Kp ((w24.setCell ⟨w.heap.size + 1, 0, none⟩ (.slice p23 n23 c23)).setCell ⟨w.heap.size + 1, 1, none⟩ (.bool b23)) (((w24.setCell ⟨w.heap.size + 1, 0, none⟩ (.slice p23 n23 c23)).setCell ⟨w.heap.size + 1, 1, none⟩ (.bool b23)).setCell ⟨w.heap.size + 1, 2, none⟩ (.slice q23 m23 f23)) := S.kp (g := w.heap.size + 1) (o := 2) (x := .slice none 0 0) (.slice q23 m23 f23) (by simp) (by simp)
  replace S : St w [(w.heap.size + 1, 2, .slice q23 m23 f23), (w.heap.size + 1, 0, .slice p23 n23 c23), (w.heap.size + 1, 1, .bool b23), (w.heap.size + 1, 3, .bool false), (w.heap.size, 0, .bool b0), (w.heap.size, 1, .slice p0 n0 c0), (w.heap.size, 2, .bool b1), (w.heap.size, 3, .slice p1 n1 c1)] [(w.heap.size + 1, 0), (w.heap.size + 1, 1), (w.heap.size + 1, 2), (w.heap.size + 1, 3)] (((w24.setCell ⟨w.heap.size + 1, 0, none⟩ (.slice p23 n23 c23)).setCell ⟨w.heap.size + 1, 1, none⟩ (.bool b23)).setCell ⟨w.heap.size + 1, 2, none⟩ (.slice q23 m23 f23)) := S.set (g := w.heap.size + 1) (o := 2) (.slice q23 m23 f23) (by simp) (by simp <;> omega) (by omega)
  have K29 : Kp (((w24.setCell ⟨w.heap.size + 1, 0, none⟩ (.slice p23 n23 c23)).setCell ⟨w.heap.size + 1, 1, none⟩ (.bool b23)).setCell ⟨w.heap.size + 1, 2, none⟩ (.slice q23 m23 f23)) ((((w24.setCell ⟨w.heap.size + 1, 0, none⟩ (.slice p23 n23 c23)).setCell ⟨w.heap.size + 1, 1, none⟩ (.bool b23)).setCell ⟨w.heap.size + 1, 2, none⟩ (.slice q23 m23 f23)).setCell ⟨w.heap.size + 1, 3, none⟩ (.bool d23)) := S.kp (g := w.heap.size + 1) (o := 3) (x := .bool false) (.bool d23) (by simp) (by simp)
  replace S : St w [(w.heap.size + 1, 3, .bool d23), (w.heap.size + 1, 0, .slice p23 n23 c23), (w.heap.size + 1, 1, .bool b23), (w.heap.size + 1, 2, .slice q23 m23 f23), (w.heap.size, 0, .bool b0), (w.heap.size, 1, .slice p0 n0 c0), (w.heap.size, 2, .bool b1), (w.heap.size, 3, .slice p1 n1 c1)] [(w.heap.size + 1, 0), (w.heap.size + 1, 1), (w.heap.size + 1, 2), (w.heap.size + 1, 3)] ((((w24.setCell ⟨w.heap.size + 1, 0, none⟩ (.slice p23 n23 c23)).setCell ⟨w.heap.size + 1, 1, none⟩ (.bool b23)).setCell ⟨w.heap.size + 1, 2, none⟩ (.slice q23 m23 f23)).setCell ⟨w.heap.size + 1, 3, none⟩ (.bool d23)) := S.set (g := w.heap.size + 1) (o := 3) (.bool d23) (by simp) (by simp <;> omega) (by omega)
  replace S : St w [(w.heap.size + 1, 0, .slice p23 n23 c23), (w.heap.size + 1, 1, .bool b23), (w.heap.size + 1, 2, .slice q23 m23 f23), (w.heap.size + 1, 3, .bool d23), (w.heap.size, 0, .bool b0), (w.heap.size, 1, .slice p0 n0 c0), (w.heap.size, 2, .bool b1), (w.heap.size, 3, .slice p1 n1 c1)] [(w.heap.size + 1, 0), (w.heap.size + 1, 1), (w.heap.size + 1, 2), (w.heap.size + 1, 3)] ((((w24.setCell ⟨w.heap.size + 1, 0, none⟩ (.slice p23 n23 c23)).setCell ⟨w.heap.size + 1, 1, none⟩ (.bool b23)).setCell ⟨w.heap.size + 1, 2, none⟩ (.slice q23 m23 f23)).setCell ⟨w.heap.size + 1, 3, none⟩ (.bool d23)) := S.sub (by simp) (by simp)
  replace N23 := Lib.hid (N23.out.kp (((K26.trans K27).trans K28).trans K29))
  clear K26 K27 K28 K29
  have sz30 : ((((w24.setCell ⟨w.heap.size + 1, 0, none⟩ (.slice p23 n23 c23)).setCell ⟨w.heap.size + 1, 1, none⟩ (.bool b23)).setCell ⟨w.heap.size + 1, 2, none⟩ (.slice q23 m23 f23)).setCell ⟨w.heap.size + 1, 3, none⟩ (.bool d23)).heap.size = w24.heap.size := by simp
  generalize ((((w24.setCell ⟨w.heap.size + 1, 0, none⟩ (.slice p23 n23 c23)).setCell ⟨w.heap.size + 1, 1, none⟩ (.bool b23)).setCell ⟨w.heap.size + 1, 2, none⟩ (.slice q23 m23 f23)).setCell ⟨w.heap.size + 1, 3, none⟩ (.bool d23)) = W30 at *
  clear l0 l1 lS
  have l0 := S.ltc (g := w.heap.size) (o := 0) (x := .bool b0) (by simp)
  have l1 := S.ltc (g := w.heap.size + 1) (o := 0) (x := .slice p23 n23 c23) (by simp)
  have lS := S.size
  refine wpAnyH_done (by kernel_rfl) ?_ _
  refine NoPanic.normal ?_
  obtain ⟨e0, e1, e2, e3, e4, e5, e6, e7, h0, i0, h1, i1, h2, i2, h3, i3, G⟩ := id S
  go_wp2_with fail
  clear e0 e1 e2 e3 e4 e5 e6 e7 h0 i0 h1 i1 h2 i2 h3 i3 G
  refine post_S Tryz.results28 rfl rfl (S.cell (g := w.heap.size + 1) (o := 0) (x := .slice p23 n23 c23) (by simp)) (S.cell (g := w.heap.size + 1) (o := 1) (x := .bool b23) (by simp)) (S.cell (g := w.heap.size + 1) (o := 2) (x := .slice q23 m23 f23) (by simp)) (S.cell (g := w.heap.size + 1) (o := 3) (x := .bool d23) (by simp)) ⟨_, _, _, _, _, _, _, _, rfl, (N23.out.more (by omega) : DecQ _ _ _ _).eq (by rw [← E23.out]), S.all⟩

set_option maxHeartbeats 4000000 in
set_option maxRecDepth 100000 in
theorem OfR_g (x y : Int) {t : Rat} {w : World} (x1 : -9223372036854775808 ≤ x) (x2 : x ≤ 9223372036854775807) (y1 : -9223372036854775808 ≤ y) (y2 : y ≤ 9223372036854775807) (ht : qOf x y = t) :
    Calls Tryz.prog 59 #[.int .i64 x, .int .i64 y] w (GotS w t 6) := by
  subst ht
  have S : St w [] [] w := St.start w
  go_enter Tryz.func59, Tryz.ntmps59
  have G := S
  go_wp2_with fail
  clear G
  replace S : St w [(w.heap.size, 0, .slice none 0 0), (w.heap.size, 1, .bool false), (w.heap.size, 2, .slice none 0 0), (w.heap.size, 3, .bool false)] [(w.heap.size, 0), (w.heap.size, 1), (w.heap.size, 2), (w.heap.size, 3)] (w.alloc (.cells #[.slice none 0 0, .bool false, .slice none 0 0, .bool false] 49)) := S.made (w.heap.size) [.slice none 0 0, .bool false, .slice none 0 0, .bool false] 49 (by simp)
  have sz10 : (w.alloc (.cells #[.slice none 0 0, .bool false, .slice none 0 0, .bool false] 49)).heap.size = w.heap.size + 1 := by simp
  generalize (w.alloc (.cells #[.slice none 0 0, .bool false, .slice none 0 0, .bool false] 49)) = W10 at *
  obtain ⟨z11, ez11⟩ : ∃ t : Int, (x : Int) = t := ⟨_, rfl⟩
  have E11 := Lib.hid ez11
  clear ez11
  go_at_call 38
  with_reducible refine (Of_h x x1 x2 E11.out).mono ?_
  rintro e w12 ⟨p11, n11, c11, b11, rfl, h, g⟩
  have N11 := Lib.hid (h)
  replace S := S.step g
  have lg12 := g.size
  clear g h
  have l0 := S.ltc (g := w.heap.size) (o := 0) (x := .slice none 0 0) (by simp)
  have lS := S.size
  obtain ⟨e0, e1, e2, e3, h0, i0, h1, i1, h2, i2, h3, i3, G⟩ := id S
  go_wp2_with fail
  clear e0 e1 e2 e3 h0 i0 h1 i1 h2 i2 h3 i3 G
  obtain ⟨z13, ez13⟩ : ∃ t : Int, (y : Int) = t := ⟨_, rfl⟩
  have E13 := Lib.hid ez13
  clear ez13
  go_at_call 38
  with_reducible refine (Of_h y y1 y2 E13.out).mono ?_
  rintro e w14 ⟨p13, n13, c13, b13, rfl, h, g⟩
  replace N11 := Lib.hid (N11.out.kp (Kp.of g))
  have N13 := Lib.hid (h)
  replace S := S.step g
  have lg14 := g.size
  clear g h l0 lS
  have l0 := S.ltc (g := w.heap.size) (o := 0) (x := .slice none 0 0) (by simp)
  have lS := S.size
  obtain ⟨e0, e1, e2, e3, h0, i0, h1, i1, h2, i2, h3, i3, G⟩ := id S
  go_wp2_with fail
  clear e0 e1 e2 e3 h0 i0 h1 i1 h2 i2 h3 i3 G
  obtain ⟨z15, ez15⟩ : ∃ t : Rat, qOf z11 z13 = t := ⟨_, rfl⟩
  have E15 := Lib.hid ez15
  clear ez15
  go_at_call 35
  with_reducible refine (Make_h N11.out N13.out (by omega) E15.out).mono ?_
  rintro e w16 ⟨p15, n15, c15, b15, q15, m15, f15, d15, rfl, h, g⟩
  clear N11 N13
  have N15 := Lib.hid (h)
  replace S := S.step g
  have lg16 := g.size
  clear g h l0 lS
  have l0 := S.ltc (g := w.heap.size) (o := 0) (x := .slice none 0 0) (by simp)
  have lS := S.size
  obtain ⟨e0, e1, e2, e3, h0, i0, h1, i1, h2, i2, h3, i3, G⟩ := id S
  go_wp2_with fail
  clear e0 e1 e2 e3 h0 i0 h1 i1 h2 i2 h3 i3 G
  have K17 : Kp w16 (w16.setCell ⟨w.heap.size, 0, none⟩ (.slice p15 n15 c15)) := S.kp (g := w.heap.size) (o := 0) (x := .slice none 0 0) (.slice p15 n15 c15) (by simp) (by simp)
  replace S : St w [(w.heap.size, 0, .slice p15 n15 c15), (w.heap.size, 1, .bool false), (w.heap.size, 2, .slice none 0 0), (w.heap.size, 3, .bool false)] [(w.heap.size, 0), (w.heap.size, 1), (w.heap.size, 2), (w.heap.size, 3)] (w16.setCell ⟨w.heap.size, 0, none⟩ (.slice p15 n15 c15)) := S.set (g := w.heap.size) (o := 0) (.slice p15 n15 c15) (by simp) (by simp <;> omega) (by omega)
  have K18 : Kp (w16.setCell ⟨w.heap.size, 0, none⟩ (.slice p15 n15 c15)) ((w16.setCell ⟨w.heap.size, 0, none⟩ (.slice p15 n15 c15)).setCell ⟨w.heap.size, 1, none⟩ (.bool b15)) := S.kp (g := w.heap.size) (o := 1) (x := .bool false) (.bool b15) (by simp) (by simp)
  replace S : St w [(w.heap.size, 1, .bool b15), (w.heap.size, 0, .slice p15 n15 c15), (w.heap.size, 2, .slice none 0 0), (w.heap.size, 3, .bool false)] [(w.heap.size, 0), (w.heap.size, 1), (w.heap.size, 2), (w.heap.size, 3)] ((w16.setCell ⟨w.heap.size, 0, none⟩ (.slice p15 n15 c15)).setCell ⟨w.heap.size, 1, none⟩ (.bool b15)) := S.set (g := w.heap.size) (o := 1) (.bool b15) (by simp) (by simp <;> omega) (by omega)
  have K19 : Kp ((w16.setCell ⟨w.heap.size, 0, none⟩ (.slice p15 n15 c15)).setCell ⟨w.heap.size, 1, none⟩ (.bool b15)) (((w16.setCell ⟨w.heap.size, 0, none⟩ (.slice p15 n15 c15)).setCell ⟨w.heap.size, 1, none⟩ (.bool b15)).setCell ⟨w.heap.size, 2, none⟩ (.slice q15 m15 f15)) := S.kp (g := w.heap.size) (o := 2) (x := .slice none 0 0) (.slice q15 m15 f15) (by simp) (by simp)
  replace S : St w [(w.heap.size, 2, .slice q15 m15 f15), (w.heap.size, 0, .slice p15 n15 c15), (w.heap.size, 1, .bool b15), (w.heap.size, 3, .bool false)] [(w.heap.size, 0), (w.heap.size, 1), (w.heap.size, 2), (w.heap.size, 3)] (((w16.setCell ⟨w.heap.size, 0, none⟩ (.slice p15 n15 c15)).setCell ⟨w.heap.size, 1, none⟩ (.bool b15)).setCell ⟨w.heap.size, 2, none⟩ (.slice q15 m15 f15)) := S.set (g := w.heap.size) (o := 2) (.slice q15 m15 f15) (by simp) (by simp <;> omega) (by omega)
  have K20 : Kp (((w16.setCell ⟨w.heap.size, 0, none⟩ (.slice p15 n15 c15)).setCell ⟨w.heap.size, 1, none⟩ (.bool b15)).setCell ⟨w.heap.size, 2, none⟩ (.slice q15 m15 f15)) ((((w16.setCell ⟨w.heap.size, 0, none⟩ (.slice p15 n15 c15)).setCell ⟨w.heap.size, 1, none⟩ (.bool b15)).setCell ⟨w.heap.size, 2, none⟩ (.slice q15 m15 f15)).setCell ⟨w.heap.size, 3, none⟩ (.bool d15)) := S.kp (g := w.heap.size) (o := 3) (x := .bool false) (.bool d15) (by simp) (by simp)
  replace S : St w [(w.heap.size, 3, .bool d15), (w.heap.size, 0, .slice p15 n15 c15), (w.heap.size, 1, .bool b15), (w.heap.size, 2, .slice q15 m15 f15)] [(w.heap.size, 0), (w.heap.size, 1), (w.heap.size, 2), (w.heap.size, 3)] ((((w16.setCell ⟨w.heap.size, 0, none⟩ (.slice p15 n15 c15)).setCell ⟨w.heap.size, 1, none⟩ (.bool b15)).setCell ⟨w.heap.size, 2, none⟩ (.slice q15 m15 f15)).setCell ⟨w.heap.size, 3, none⟩ (.bool d15)) := S.set (g := w.heap.size) (o := 3) (.bool d15) (by simp) (by simp <;> omega) (by omega)
  replace S : St w [(w.heap.size, 0, .slice p15 n15 c15), (w.heap.size, 1, .bool b15), (w.heap.size, 2, .slice q15 m15 f15), (w.heap.size, 3, .bool d15)] [(w.heap.size, 0), (w.heap.size, 1), (w.heap.size, 2), (w.heap.size, 3)] ((((w16.setCell ⟨w.heap.size, 0, none⟩ (.slice p15 n15 c15)).setCell ⟨w.heap.size, 1, none⟩ (.bool b15)).setCell ⟨w.heap.size, 2, none⟩ (.slice q15 m15 f15)).setCell ⟨w.heap.size, 3, none⟩ (.bool d15)) := S.sub (by simp) (by simp)
  replace N15 := Lib.hid (N15.out.kp (((K17.trans K18).trans K19).trans K20))
  clear K17 K18 K19 K20
  have sz21 : ((((w16.setCell ⟨w.heap.size, 0, none⟩ (.slice p15 n15 c15)).setCell ⟨w.heap.size, 1, none⟩ (.bool b15)).setCell ⟨w.heap.size, 2, none⟩ (.slice q15 m15 f15)).setCell ⟨w.heap.size, 3, none⟩ (.bool d15)).heap.size = w16.heap.size := by simp
  generalize ((((w16.setCell ⟨w.heap.size, 0, none⟩ (.slice p15 n15 c15)).setCell ⟨w.heap.size, 1, none⟩ (.bool b15)).setCell ⟨w.heap.size, 2, none⟩ (.slice q15 m15 f15)).setCell ⟨w.heap.size, 3, none⟩ (.bool d15)) = W21 at *
  refine post_S Tryz.results59 rfl rfl (S.cell (g := w.heap.size) (o := 0) (x := .slice p15 n15 c15) (by simp)) (S.cell (g := w.heap.size) (o := 1) (x := .bool b15) (by simp)) (S.cell (g := w.heap.size) (o := 2) (x := .slice q15 m15 f15) (by simp)) (S.cell (g := w.heap.size) (o := 3) (x := .bool d15) (by simp)) ⟨_, _, _, _, _, _, _, _, rfl, (N15.out.more (by omega) : DecQ _ _ _ _).eq (by rw [← E15.out, ← E11.out, ← E13.out]), S.all⟩

end Go.Proofs.YtmkplojojaopmaaGreatDoor
