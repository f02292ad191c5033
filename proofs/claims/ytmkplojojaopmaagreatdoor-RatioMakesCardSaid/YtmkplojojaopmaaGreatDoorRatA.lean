/- Package ratio: numerator and denominator; lowest terms. -/
import Derived.Test.YtmkplojojaopmaaGreatDoorRats
namespace Go.Proofs.YtmkplojojaopmaaGreatDoor
open Go.RowKit

set_option maxHeartbeats 4000000 in
set_option maxRecDepth 100000 in
theorem Parts_0 {b0 b1 : Bool} {p0 p1 : Option Addr} {n0 c0 n1 c1 : Nat} {z y : Int} {k : Nat} {w : World} (hz : IntV w (.agg #[.bool b0, .slice p0 n0 c0]) z k) (hy : IntV w (.agg #[.bool b1, .slice p1 n1 c1]) y k) (hk : k ≤ 900000) (h0 : y = 0) :
    Calls Tryz.prog 95 #[.agg #[.bool b0, .slice p0 n0 c0, .bool b1, .slice p1 n1 c1]] w (GotParts w (qOf z y) (k + 2)) := by
  have Hz := Lib.hid hz
  have Hy := Lib.hid hy
  clear hz hy
  have Y0 := Lib.hid (decide_eq_true h0)
  clear h0
  have S : St w [] [] w := St.start w
  go_enter Tryz.func95, Tryz.ntmps95
  have G := S
  go_wp2_with fail
  clear G
  replace S : St w [(w.heap.size, 0, .bool b0), (w.heap.size, 1, .slice p0 n0 c0), (w.heap.size, 2, .bool b1), (w.heap.size, 3, .slice p1 n1 c1)] [] (w.alloc (.cells #[.bool b0, .slice p0 n0 c0, .bool b1, .slice p1 n1 c1] 46)) := S.box (w.heap.size) [.bool b0, .slice p0 n0 c0, .bool b1, .slice p1 n1 c1] 46 (by simp)
  replace S : St w [(w.heap.size + 1, 0, .bool false), (w.heap.size + 1, 1, .slice none 0 0), (w.heap.size, 0, .bool b0), (w.heap.size, 1, .slice p0 n0 c0), (w.heap.size, 2, .bool b1), (w.heap.size, 3, .slice p1 n1 c1)] [(w.heap.size + 1, 0), (w.heap.size + 1, 1)] ((w.alloc (.cells #[.bool b0, .slice p0 n0 c0, .bool b1, .slice p1 n1 c1] 46)).alloc (.cells #[.bool false, .slice none 0 0] 24)) := S.made (w.heap.size + 1) [.bool false, .slice none 0 0] 24 (by simp)
  replace S : St w [(w.heap.size + 1 + 1, 0, .bool false), (w.heap.size + 1 + 1, 1, .slice none 0 0), (w.heap.size + 1, 0, .bool false), (w.heap.size + 1, 1, .slice none 0 0), (w.heap.size, 0, .bool b0), (w.heap.size, 1, .slice p0 n0 c0), (w.heap.size, 2, .bool b1), (w.heap.size, 3, .slice p1 n1 c1)] [(w.heap.size + 1 + 1, 0), (w.heap.size + 1 + 1, 1), (w.heap.size + 1, 0), (w.heap.size + 1, 1)] (((w.alloc (.cells #[.bool b0, .slice p0 n0 c0, .bool b1, .slice p1 n1 c1] 46)).alloc (.cells #[.bool false, .slice none 0 0] 24)).alloc (.cells #[.bool false, .slice none 0 0] 24)) := S.made (w.heap.size + 1 + 1) [.bool false, .slice none 0 0] 24 (by simp)
  replace Hz := Lib.hid (Hz.out.kp (((Kp.of (grown_alloc w (.cells #[.bool b0, .slice p0 n0 c0, .bool b1, .slice p1 n1 c1] 46) none)).trans (Kp.of (grown_alloc ((w.alloc (.cells #[.bool b0, .slice p0 n0 c0, .bool b1, .slice p1 n1 c1] 46))) (.cells #[.bool false, .slice none 0 0] 24) none))).trans (Kp.of (grown_alloc (((w.alloc (.cells #[.bool b0, .slice p0 n0 c0, .bool b1, .slice p1 n1 c1] 46)).alloc (.cells #[.bool false, .slice none 0 0] 24))) (.cells #[.bool false, .slice none 0 0] 24) none))))
  replace Hy := Lib.hid (Hy.out.kp (((Kp.of (grown_alloc w (.cells #[.bool b0, .slice p0 n0 c0, .bool b1, .slice p1 n1 c1] 46) none)).trans (Kp.of (grown_alloc ((w.alloc (.cells #[.bool b0, .slice p0 n0 c0, .bool b1, .slice p1 n1 c1] 46))) (.cells #[.bool false, .slice none 0 0] 24) none))).trans (Kp.of (grown_alloc (((w.alloc (.cells #[.bool b0, .slice p0 n0 c0, .bool b1, .slice p1 n1 c1] 46)).alloc (.cells #[.bool false, .slice none 0 0] 24))) (.cells #[.bool false, .slice none 0 0] 24) none))))
  have sz10 : (((w.alloc (.cells #[.bool b0, .slice p0 n0 c0, .bool b1, .slice p1 n1 c1] 46)).alloc (.cells #[.bool false, .slice none 0 0] 24)).alloc (.cells #[.bool false, .slice none 0 0] 24)).heap.size = w.heap.size + 3 := by simp
  generalize (((w.alloc (.cells #[.bool b0, .slice p0 n0 c0, .bool b1, .slice p1 n1 c1] 46)).alloc (.cells #[.bool false, .slice none 0 0] 24)).alloc (.cells #[.bool false, .slice none 0 0] 24)) = W10 at *
  go_at_call 83
  with_reducible refine (zero_g Hy.out (by omega) Y0.out).mono ?_
  rintro e w11 ⟨rfl, g⟩
  replace Hz := Lib.hid (Hz.out.kp (Kp.of g))
  clear Hy
  replace S := S.step g
  have lg11 := g.size
  clear g
  have l0 := S.ltc (g := w.heap.size) (o := 0) (x := .bool b0) (by simp)
  have l1 := S.ltc (g := w.heap.size + 1) (o := 0) (x := .bool false) (by simp)
  have l2 := S.ltc (g := w.heap.size + 1 + 1) (o := 0) (x := .bool false) (by simp)
  have lS := S.size
  obtain ⟨e0, e1, e2, e3, e4, e5, e6, e7, h0, i0, h1, i1, h2, i2, h3, i3, G⟩ := id S
  go_wp2_with fail
  clear e0 e1 e2 e3 e4 e5 e6 e7 h0 i0 h1 i1 h2 i2 h3 i3 G
  have T0 : Cl [(w.heap.size, 0, .bool b0), (w.heap.size, 1, .slice p0 n0 c0), (w.heap.size, 2, .bool b1), (w.heap.size, 3, .slice p1 n1 c1)] w11 := S.cl (by simp)
  refine wp_region_noPanic ?_
  refine wp_region_held_drew (S := fun w' => w'.cell? ⟨w.heap.size, 0, none⟩ = some (.bool b0) ∧ w'.cell? ⟨w.heap.size, 1, none⟩ = some (.slice p0 n0 c0) ∧ w'.cell? ⟨w.heap.size, 2, none⟩ = some (.bool b1) ∧ w'.cell? ⟨w.heap.size, 3, none⟩ = some (.slice p1 n1 c1) ∧ True) (by kernel_rfl) (by exact Cl.step (cs := [(w.heap.size, 0, .bool b0), (w.heap.size, 1, .slice p0 n0 c0), (w.heap.size, 2, .bool b1), (w.heap.size, 3, .slice p1 n1 c1)]) (grown_drew _ _) T0) (fun hHeld => ?_)
  change wpAnyH _ _ _ _ _ 5 #[false, false, false, false, false] _ _
  replace S := S.step (grown_drew w11 none)
  replace Hz := Lib.hid (Hz.out.kp (Kp.of (grown_drew w11 none)))
  have lg12 := (grown_drew w11 none).size
  clear T0
  generalize w11.drew = wr12 at *
  clear l0 l1 l2 lS
  have l0 := S.ltc (g := w.heap.size) (o := 0) (x := .bool b0) (by simp)
  have l1 := S.ltc (g := w.heap.size + 1) (o := 0) (x := .bool false) (by simp)
  have l2 := S.ltc (g := w.heap.size + 1 + 1) (o := 0) (x := .bool false) (by simp)
  have lS := S.size
  refine wpAnyH_take (i := 0) (oi := _) (v := ?vq13) rfl (by kernel_rfl) (by kernel_rfl) (by kernel_rfl) (fun _ _ _ h => h) (Or.inl ⟨by rfl, ?hyq13⟩) (by assumption) ?restq13
  case hyq13 => (intro w hSw; (try dsimp only at hSw); go_simp; try with_reducible rfl)
  try simp only [Act.put, List.getElem_toArray, List.getElem_cons_zero, List.setIfInBounds_toArray, List.set_cons_zero, List.set_cons_succ]
  refine wpAnyH_take (i := 1) (oi := _) (v := ?vq14) rfl (by kernel_rfl) (by kernel_rfl) (by kernel_rfl) (fun _ _ _ h => h) (Or.inl ⟨by rfl, ?hyq14⟩) (by assumption) ?restq14
  case hyq14 => (intro w hSw; (try dsimp only at hSw); go_simp; try with_reducible rfl)
  try simp only [Act.put, List.getElem_toArray, List.getElem_cons_zero, List.getElem_cons_succ, List.setIfInBounds_toArray, List.set_cons_zero, List.set_cons_succ]
  obtain ⟨z16, ez16⟩ : ∃ t : Int, (1 : Int) = t := ⟨_, rfl⟩
  have E16 := Lib.hid ez16
  clear ez16
  refine wpAnyH_ready (rs := [2]) (by kernel_rfl) (by simp) ?_
  refine AllReadyH.cons (o := _) rfl (fun K hK => ?_) AllReadyH.nil
  go_simp
  go_at_call 69
  with_reducible refine (Of_g 1 (by decide) (by decide) E16.out).mono ?_
  rintro e w17 ⟨b16, p16, n16, c16, rfl, h, g⟩
  replace Hz := Lib.hid (Hz.out.kp (Kp.of g))
  have N16 := Lib.hid (h)
  replace S := S.step g
  have lg17 := g.size
  clear l0 l1 l2 lS
  have l0 := S.ltc (g := w.heap.size) (o := 0) (x := .bool b0) (by simp)
  have l1 := S.ltc (g := w.heap.size + 1) (o := 0) (x := .bool false) (by simp)
  have l2 := S.ltc (g := w.heap.size + 1 + 1) (o := 0) (x := .bool false) (by simp)
  have lS := S.size
  go_wp2_with fail
  refine hK.out _ _ ?hSq15 (fun hHeld => ?_)
  case hSq15 => exact Cl.step (cs := [(w.heap.size, 0, .bool b0), (w.heap.size, 1, .slice p0 n0 c0), (w.heap.size, 2, .bool b1), (w.heap.size, 3, .slice p1 n1 c1)]) g (by assumption)
  clear hK K g h
  try simp only [List.setIfInBounds_toArray, List.set_cons_zero, List.set_cons_succ]
  obtain ⟨e0, e1, e2, e3, e4, e5, e6, e7, h0, i0, h1, i1, h2, i2, h3, i3, G⟩ := id S
  refine wpAnyH_ready (rs := [3]) (by kernel_rfl) (by simp) ?_
  refine AllReadyH.cons (o := _) rfl (fun K hK => ?_) AllReadyH.nil
  go_simp
  refine hK.out _ _ ?hSq18 (fun hHeld => ?_)
  case hSq18 => exact (Cl.set (cs := [(w.heap.size, 0, .bool b0), (w.heap.size, 1, .slice p0 n0 c0), (w.heap.size, 2, .bool b1), (w.heap.size, 3, .slice p1 n1 c1)]) (g := w.heap.size + 1) (o := 1) (u := .slice p0 n0 c0) (Cl.set (cs := [(w.heap.size, 0, .bool b0), (w.heap.size, 1, .slice p0 n0 c0), (w.heap.size, 2, .bool b1), (w.heap.size, 3, .slice p1 n1 c1)]) (g := w.heap.size + 1) (o := 0) (u := .bool b0) (by assumption) (by simp <;> omega)) (by simp <;> omega))
  clear hK K
  try simp only [List.setIfInBounds_toArray, List.set_cons_zero, List.set_cons_succ]
  clear e0 e1 e2 e3 e4 e5 e6 e7 h0 i0 h1 i1 h2 i2 h3 i3 G
  have K19 : Kp w17 (w17.setCell ⟨w.heap.size + 1, 0, none⟩ (.bool b0)) := S.kp (g := w.heap.size + 1) (o := 0) (x := .bool false) (.bool b0) (by simp) (by simp)
  replace S : St w [(w.heap.size + 1, 0, .bool b0), (w.heap.size + 1 + 1, 0, .bool false), (w.heap.size + 1 + 1, 1, .slice none 0 0), (w.heap.size + 1, 1, .slice none 0 0), (w.heap.size, 0, .bool b0), (w.heap.size, 1, .slice p0 n0 c0), (w.heap.size, 2, .bool b1), (w.heap.size, 3, .slice p1 n1 c1)] [(w.heap.size + 1 + 1, 0), (w.heap.size + 1 + 1, 1), (w.heap.size + 1, 0), (w.heap.size + 1, 1)] (w17.setCell ⟨w.heap.size + 1, 0, none⟩ (.bool b0)) := S.set (g := w.heap.size + 1) (o := 0) (.bool b0) (by simp) (by simp <;> omega) (by omega)
  have K20 : Kp (w17.setCell ⟨w.heap.size + 1, 0, none⟩ (.bool b0)) ((w17.setCell ⟨w.heap.size + 1, 0, none⟩ (.bool b0)).setCell ⟨w.heap.size + 1, 1, none⟩ (.slice p0 n0 c0)) := S.kp (g := w.heap.size + 1) (o := 1) (x := .slice none 0 0) (.slice p0 n0 c0) (by simp) (by simp)
  replace S : St w [(w.heap.size + 1, 1, .slice p0 n0 c0), (w.heap.size + 1 + 1, 0, .bool false), (w.heap.size + 1 + 1, 1, .slice none 0 0), (w.heap.size + 1, 0, .bool b0), (w.heap.size, 0, .bool b0), (w.heap.size, 1, .slice p0 n0 c0), (w.heap.size, 2, .bool b1), (w.heap.size, 3, .slice p1 n1 c1)] [(w.heap.size + 1 + 1, 0), (w.heap.size + 1 + 1, 1), (w.heap.size + 1, 0), (w.heap.size + 1, 1)] ((w17.setCell ⟨w.heap.size + 1, 0, none⟩ (.bool b0)).setCell ⟨w.heap.size + 1, 1, none⟩ (.slice p0 n0 c0)) := S.set (g := w.heap.size + 1) (o := 1) (.slice p0 n0 c0) (by simp) (by simp <;> omega) (by omega)
  replace S : St w [(w.heap.size + 1 + 1, 0, .bool false), (w.heap.size + 1 + 1, 1, .slice none 0 0), (w.heap.size + 1, 0, .bool b0), (w.heap.size + 1, 1, .slice p0 n0 c0), (w.heap.size, 0, .bool b0), (w.heap.size, 1, .slice p0 n0 c0), (w.heap.size, 2, .bool b1), (w.heap.size, 3, .slice p1 n1 c1)] [(w.heap.size + 1 + 1, 0), (w.heap.size + 1 + 1, 1), (w.heap.size + 1, 0), (w.heap.size + 1, 1)] ((w17.setCell ⟨w.heap.size + 1, 0, none⟩ (.bool b0)).setCell ⟨w.heap.size + 1, 1, none⟩ (.slice p0 n0 c0)) := S.sub (by simp) (by simp)
  replace Hz := Lib.hid (Hz.out.kp (K19.trans K20))
  replace N16 := Lib.hid (N16.out.kp (K19.trans K20))
  clear K19 K20
  have sz21 : ((w17.setCell ⟨w.heap.size + 1, 0, none⟩ (.bool b0)).setCell ⟨w.heap.size + 1, 1, none⟩ (.slice p0 n0 c0)).heap.size = w17.heap.size := by simp
  generalize ((w17.setCell ⟨w.heap.size + 1, 0, none⟩ (.bool b0)).setCell ⟨w.heap.size + 1, 1, none⟩ (.slice p0 n0 c0)) = W21 at *
  clear l0 l1 l2 lS
  have l0 := S.ltc (g := w.heap.size) (o := 0) (x := .bool b0) (by simp)
  have l1 := S.ltc (g := w.heap.size + 1) (o := 0) (x := .bool b0) (by simp)
  have l2 := S.ltc (g := w.heap.size + 1 + 1) (o := 0) (x := .bool false) (by simp)
  have lS := S.size
  obtain ⟨e0, e1, e2, e3, e4, e5, e6, e7, h0, i0, h1, i1, h2, i2, h3, i3, G⟩ := id S
  refine wpAnyH_ready (rs := [4]) (by kernel_rfl) (by simp) ?_
  refine AllReadyH.cons (o := _) rfl (fun K hK => ?_) AllReadyH.nil
  go_simp
  refine hK.out _ _ ?hSq22 (fun hHeld => ?_)
  case hSq22 => exact (Cl.set (cs := [(w.heap.size, 0, .bool b0), (w.heap.size, 1, .slice p0 n0 c0), (w.heap.size, 2, .bool b1), (w.heap.size, 3, .slice p1 n1 c1)]) (g := w.heap.size + 1 + 1) (o := 1) (u := .slice p16 n16 c16) (Cl.set (cs := [(w.heap.size, 0, .bool b0), (w.heap.size, 1, .slice p0 n0 c0), (w.heap.size, 2, .bool b1), (w.heap.size, 3, .slice p1 n1 c1)]) (g := w.heap.size + 1 + 1) (o := 0) (u := .bool b16) (by assumption) (by simp <;> omega)) (by simp <;> omega))
  clear hK K
  try simp only [List.setIfInBounds_toArray, List.set_cons_zero, List.set_cons_succ]
  clear e0 e1 e2 e3 e4 e5 e6 e7 h0 i0 h1 i1 h2 i2 h3 i3 G
  have K23 : Kp W21 (W21.setCell ⟨w.heap.size + 1 + 1, 0, none⟩ (.bool b16)) := S.kp (g := w.heap.size + 1 + 1) (o := 0) (x := .bool false) (.bool b16) (by simp) (by simp)
  replace S : St w [(w.heap.size + 1 + 1, 0, .bool b16), (w.heap.size + 1 + 1, 1, .slice none 0 0), (w.heap.size + 1, 0, .bool b0), (w.heap.size + 1, 1, .slice p0 n0 c0), (w.heap.size, 0, .bool b0), (w.heap.size, 1, .slice p0 n0 c0), (w.heap.size, 2, .bool b1), (w.heap.size, 3, .slice p1 n1 c1)] [(w.heap.size + 1 + 1, 0), (w.heap.size + 1 + 1, 1), (w.heap.size + 1, 0), (w.heap.size + 1, 1)] (W21.setCell ⟨w.heap.size + 1 + 1, 0, none⟩ (.bool b16)) := S.set (g := w.heap.size + 1 + 1) (o := 0) (.bool b16) (by simp) (by simp <;> omega) (by omega)
  have K24 : Kp (W21.setCell ⟨w.heap.size + 1 + 1, 0, none⟩ (.bool b16)) ((W21.setCell ⟨w.heap.size + 1 + 1, 0, none⟩ (.bool b16)).setCell ⟨w.heap.size + 1 + 1, 1, none⟩ (.slice p16 n16 c16)) := S.kp (g := w.heap.size + 1 + 1) (o := 1) (x := .slice none 0 0) (.slice p16 n16 c16) (by simp) (by simp)
  replace S : St w [(w.heap.size + 1 + 1, 1, .slice p16 n16 c16), (w.heap.size + 1 + 1, 0, .bool b16), (w.heap.size + 1, 0, .bool b0), (w.heap.size + 1, 1, .slice p0 n0 c0), (w.heap.size, 0, .bool b0), (w.heap.size, 1, .slice p0 n0 c0), (w.heap.size, 2, .bool b1), (w.heap.size, 3, .slice p1 n1 c1)] [(w.heap.size + 1 + 1, 0), (w.heap.size + 1 + 1, 1), (w.heap.size + 1, 0), (w.heap.size + 1, 1)] ((W21.setCell ⟨w.heap.size + 1 + 1, 0, none⟩ (.bool b16)).setCell ⟨w.heap.size + 1 + 1, 1, none⟩ (.slice p16 n16 c16)) := S.set (g := w.heap.size + 1 + 1) (o := 1) (.slice p16 n16 c16) (by simp) (by simp <;> omega) (by omega)
  replace S : St w [(w.heap.size + 1 + 1, 0, .bool b16), (w.heap.size + 1 + 1, 1, .slice p16 n16 c16), (w.heap.size + 1, 0, .bool b0), (w.heap.size + 1, 1, .slice p0 n0 c0), (w.heap.size, 0, .bool b0), (w.heap.size, 1, .slice p0 n0 c0), (w.heap.size, 2, .bool b1), (w.heap.size, 3, .slice p1 n1 c1)] [(w.heap.size + 1 + 1, 0), (w.heap.size + 1 + 1, 1), (w.heap.size + 1, 0), (w.heap.size + 1, 1)] ((W21.setCell ⟨w.heap.size + 1 + 1, 0, none⟩ (.bool b16)).setCell ⟨w.heap.size + 1 + 1, 1, none⟩ (.slice p16 n16 c16)) := S.sub (by simp) (by simp)
  replace Hz := Lib.hid (Hz.out.kp (K23.trans K24))
  replace N16 := Lib.hid (N16.out.kp (K23.trans K24))
  clear K23 K24
  have sz25 : ((W21.setCell ⟨w.heap.size + 1 + 1, 0, none⟩ (.bool b16)).setCell ⟨w.heap.size + 1 + 1, 1, none⟩ (.slice p16 n16 c16)).heap.size = W21.heap.size := by simp
  generalize ((W21.setCell ⟨w.heap.size + 1 + 1, 0, none⟩ (.bool b16)).setCell ⟨w.heap.size + 1 + 1, 1, none⟩ (.slice p16 n16 c16)) = W25 at *
  clear l0 l1 l2 lS
  have l0 := S.ltc (g := w.heap.size) (o := 0) (x := .bool b0) (by simp)
  have l1 := S.ltc (g := w.heap.size + 1) (o := 0) (x := .bool b0) (by simp)
  have l2 := S.ltc (g := w.heap.size + 1 + 1) (o := 0) (x := .bool b16) (by simp)
  have lS := S.size
  refine wpAnyH_done (by kernel_rfl) ?_ _
  refine NoPanic.normal ?_
  obtain ⟨e0, e1, e2, e3, e4, e5, e6, e7, h0, i0, h1, i1, h2, i2, h3, i3, G⟩ := id S
  go_wp2_with fail
  clear e0 e1 e2 e3 e4 e5 e6 e7 h0 i0 h1 i1 h2 i2 h3 i3 G
  refine post_II Tryz.results95 rfl rfl rfl (S.cell (g := w.heap.size + 1) (o := 0) (x := .bool b0) (by simp)) (S.cell (g := w.heap.size + 1) (o := 1) (x := .slice p0 n0 c0) (by simp)) (S.cell (g := w.heap.size + 1 + 1) (o := 0) (x := .bool b16) (by simp)) (S.cell (g := w.heap.size + 1 + 1) (o := 1) (x := .slice p16 n16 c16) (by simp)) ⟨_, _, _, _, _, _, _, _, z, z16, rfl, Hz.out.more (by omega), N16.out.i.more (by omega), by rw [← E16.out]; decide, by rw [← E16.out, qOf, if_pos (of_decide_eq_true Y0.out)], S.all⟩

set_option maxHeartbeats 4000000 in
set_option maxRecDepth 100000 in
theorem Parts_neg {b0 : Bool} {p0 p1 : Option Addr} {n0 c0 n1 c1 : Nat} {z y : Int} {k : Nat} {w : World} (hz : IntV w (.agg #[.bool b0, .slice p0 n0 c0]) z k) (hy : IntV w (.agg #[.bool true, .slice p1 n1 c1]) y k) (hk : k ≤ 900000) (h0 : y < 0) :
    Calls Tryz.prog 95 #[.agg #[.bool b0, .slice p0 n0 c0, .bool true, .slice p1 n1 c1]] w (GotParts w (qOf z y) (k + 2)) := by
  have Hz := Lib.hid hz
  have Hy := Lib.hid hy
  clear hz hy
  have Y0 := Lib.hid (show decide (y = 0) = false from decide_eq_false (by omega))
  have S : St w [] [] w := St.start w
  go_enter Tryz.func95, Tryz.ntmps95
  have G := S
  go_wp2_with fail
  clear G
  replace S : St w [(w.heap.size, 0, .bool b0), (w.heap.size, 1, .slice p0 n0 c0), (w.heap.size, 2, .bool true), (w.heap.size, 3, .slice p1 n1 c1)] [] (w.alloc (.cells #[.bool b0, .slice p0 n0 c0, .bool true, .slice p1 n1 c1] 46)) := S.box (w.heap.size) [.bool b0, .slice p0 n0 c0, .bool true, .slice p1 n1 c1] 46 (by simp)
  replace S : St w [(w.heap.size + 1, 0, .bool false), (w.heap.size + 1, 1, .slice none 0 0), (w.heap.size, 0, .bool b0), (w.heap.size, 1, .slice p0 n0 c0), (w.heap.size, 2, .bool true), (w.heap.size, 3, .slice p1 n1 c1)] [(w.heap.size + 1, 0), (w.heap.size + 1, 1)] ((w.alloc (.cells #[.bool b0, .slice p0 n0 c0, .bool true, .slice p1 n1 c1] 46)).alloc (.cells #[.bool false, .slice none 0 0] 24)) := S.made (w.heap.size + 1) [.bool false, .slice none 0 0] 24 (by simp)
  replace S : St w [(w.heap.size + 1 + 1, 0, .bool false), (w.heap.size + 1 + 1, 1, .slice none 0 0), (w.heap.size + 1, 0, .bool false), (w.heap.size + 1, 1, .slice none 0 0), (w.heap.size, 0, .bool b0), (w.heap.size, 1, .slice p0 n0 c0), (w.heap.size, 2, .bool true), (w.heap.size, 3, .slice p1 n1 c1)] [(w.heap.size + 1 + 1, 0), (w.heap.size + 1 + 1, 1), (w.heap.size + 1, 0), (w.heap.size + 1, 1)] (((w.alloc (.cells #[.bool b0, .slice p0 n0 c0, .bool true, .slice p1 n1 c1] 46)).alloc (.cells #[.bool false, .slice none 0 0] 24)).alloc (.cells #[.bool false, .slice none 0 0] 24)) := S.made (w.heap.size + 1 + 1) [.bool false, .slice none 0 0] 24 (by simp)
  replace Hz := Lib.hid (Hz.out.kp (((Kp.of (grown_alloc w (.cells #[.bool b0, .slice p0 n0 c0, .bool true, .slice p1 n1 c1] 46) none)).trans (Kp.of (grown_alloc ((w.alloc (.cells #[.bool b0, .slice p0 n0 c0, .bool true, .slice p1 n1 c1] 46))) (.cells #[.bool false, .slice none 0 0] 24) none))).trans (Kp.of (grown_alloc (((w.alloc (.cells #[.bool b0, .slice p0 n0 c0, .bool true, .slice p1 n1 c1] 46)).alloc (.cells #[.bool false, .slice none 0 0] 24))) (.cells #[.bool false, .slice none 0 0] 24) none))))
  replace Hy := Lib.hid (Hy.out.kp (((Kp.of (grown_alloc w (.cells #[.bool b0, .slice p0 n0 c0, .bool true, .slice p1 n1 c1] 46) none)).trans (Kp.of (grown_alloc ((w.alloc (.cells #[.bool b0, .slice p0 n0 c0, .bool true, .slice p1 n1 c1] 46))) (.cells #[.bool false, .slice none 0 0] 24) none))).trans (Kp.of (grown_alloc (((w.alloc (.cells #[.bool b0, .slice p0 n0 c0, .bool true, .slice p1 n1 c1] 46)).alloc (.cells #[.bool false, .slice none 0 0] 24))) (.cells #[.bool false, .slice none 0 0] 24) none))))
  have sz10 : (((w.alloc (.cells #[.bool b0, .slice p0 n0 c0, .bool true, .slice p1 n1 c1] 46)).alloc (.cells #[.bool false, .slice none 0 0] 24)).alloc (.cells #[.bool false, .slice none 0 0] 24)).heap.size = w.heap.size + 3 := by simp
  generalize (((w.alloc (.cells #[.bool b0, .slice p0 n0 c0, .bool true, .slice p1 n1 c1] 46)).alloc (.cells #[.bool false, .slice none 0 0] 24)).alloc (.cells #[.bool false, .slice none 0 0] 24)) = W10 at *
  go_at_call 83
  with_reducible refine (zero_g Hy.out (by omega) Y0.out).mono ?_
  rintro e w11 ⟨rfl, g⟩
  replace Hz := Lib.hid (Hz.out.kp (Kp.of g))
  replace Hy := Lib.hid (Hy.out.kp (Kp.of g))
  replace S := S.step g
  have lg11 := g.size
  clear g
  have l0 := S.ltc (g := w.heap.size) (o := 0) (x := .bool b0) (by simp)
  have l1 := S.ltc (g := w.heap.size + 1) (o := 0) (x := .bool false) (by simp)
  have l2 := S.ltc (g := w.heap.size + 1 + 1) (o := 0) (x := .bool false) (by simp)
  have lS := S.size
  obtain ⟨e0, e1, e2, e3, e4, e5, e6, e7, h0, i0, h1, i1, h2, i2, h3, i3, G⟩ := id S
  go_wp2_with fail
  clear e0 e1 e2 e3 e4 e5 e6 e7 h0 i0 h1 i1 h2 i2 h3 i3 G
  have T0 : Cl [(w.heap.size, 0, .bool b0), (w.heap.size, 1, .slice p0 n0 c0), (w.heap.size, 2, .bool true), (w.heap.size, 3, .slice p1 n1 c1)] w11 := S.cl (by simp)
  refine wp_region_noPanic ?_
  refine wp_region_held_drew (S := fun w' => w'.cell? ⟨w.heap.size, 0, none⟩ = some (.bool b0) ∧ w'.cell? ⟨w.heap.size, 1, none⟩ = some (.slice p0 n0 c0) ∧ w'.cell? ⟨w.heap.size, 2, none⟩ = some (.bool true) ∧ w'.cell? ⟨w.heap.size, 3, none⟩ = some (.slice p1 n1 c1) ∧ True) (by kernel_rfl) (by exact Cl.step (cs := [(w.heap.size, 0, .bool b0), (w.heap.size, 1, .slice p0 n0 c0), (w.heap.size, 2, .bool true), (w.heap.size, 3, .slice p1 n1 c1)]) (grown_drew _ _) T0) (fun hHeld => ?_)
  change wpAnyH _ _ _ _ _ 8 #[false, false, false, false, false, false, false, false] _ _
  replace S := S.step (grown_drew w11 none)
  replace Hz := Lib.hid (Hz.out.kp (Kp.of (grown_drew w11 none)))
  replace Hy := Lib.hid (Hy.out.kp (Kp.of (grown_drew w11 none)))
  have lg12 := (grown_drew w11 none).size
  clear T0
  generalize w11.drew = wr12 at *
  clear l0 l1 l2 lS
  have l0 := S.ltc (g := w.heap.size) (o := 0) (x := .bool b0) (by simp)
  have l1 := S.ltc (g := w.heap.size + 1) (o := 0) (x := .bool false) (by simp)
  have l2 := S.ltc (g := w.heap.size + 1 + 1) (o := 0) (x := .bool false) (by simp)
  have lS := S.size
  refine wpAnyH_take (i := 0) (oi := _) (v := ?vq13) rfl (by kernel_rfl) (by kernel_rfl) (by kernel_rfl) (fun _ _ _ h => h) (Or.inl ⟨by rfl, ?hyq13⟩) (by assumption) ?restq13
  case hyq13 => (intro w hSw; (try dsimp only at hSw); go_simp; try with_reducible rfl)
  try simp only [Act.put, List.getElem_toArray, List.getElem_cons_zero, List.setIfInBounds_toArray, List.set_cons_zero, List.set_cons_succ]
  refine wpAnyH_take (i := 1) (oi := _) (v := ?vq14) rfl (by kernel_rfl) (by kernel_rfl) (by kernel_rfl) (fun _ _ _ h => h) (Or.inl ⟨by rfl, ?hyq14⟩) (by assumption) ?restq14
  case hyq14 => (intro w hSw; (try dsimp only at hSw); go_simp; try with_reducible rfl)
  try simp only [Act.put, List.getElem_toArray, List.getElem_cons_zero, List.getElem_cons_succ, List.setIfInBounds_toArray, List.set_cons_zero, List.set_cons_succ]
  refine wpAnyH_take (i := 3) (oi := _) (v := ?vq15) rfl (by kernel_rfl) (by kernel_rfl) (by kernel_rfl) (fun _ _ _ h => h) (Or.inl ⟨by rfl, ?hyq15⟩) (by assumption) ?restq15
  case hyq15 => (intro w hSw; (try dsimp only at hSw); go_simp; try with_reducible rfl)
  try simp only [Act.put, List.getElem_toArray, List.getElem_cons_zero, List.getElem_cons_succ, List.setIfInBounds_toArray, List.set_cons_zero, List.set_cons_succ]
  refine wpAnyH_take (i := 4) (oi := _) (v := ?vq16) rfl (by kernel_rfl) (by kernel_rfl) (by kernel_rfl) (fun _ _ _ h => h) (Or.inl ⟨by rfl, ?hyq16⟩) (by assumption) ?restq16
  case hyq16 => (intro w hSw; (try dsimp only at hSw); go_simp; try with_reducible rfl)
  try simp only [Act.put, List.getElem_toArray, List.getElem_cons_zero, List.getElem_cons_succ, List.setIfInBounds_toArray, List.set_cons_zero, List.set_cons_succ]
  obtain ⟨z18, ez18⟩ : ∃ t : Int, -z = t := ⟨_, rfl⟩
  have E18 := Lib.hid ez18
  clear ez18
  refine wpAnyH_ready (rs := [2]) (by kernel_rfl) (by simp) ?_
  refine AllReadyH.cons (o := _) rfl (fun K hK => ?_) AllReadyH.nil
  go_simp
  go_at_call 77
  with_reducible refine (Neg_g Hz.out (by omega) E18.out).mono ?_
  rintro e w19 ⟨b18, p18, n18, c18, rfl, h, g⟩
  clear Hz
  replace Hy := Lib.hid (Hy.out.kp (Kp.of g))
  have N18 := Lib.hid (h)
  replace S := S.step g
  have lg19 := g.size
  clear l0 l1 l2 lS
  have l0 := S.ltc (g := w.heap.size) (o := 0) (x := .bool b0) (by simp)
  have l1 := S.ltc (g := w.heap.size + 1) (o := 0) (x := .bool false) (by simp)
  have l2 := S.ltc (g := w.heap.size + 1 + 1) (o := 0) (x := .bool false) (by simp)
  have lS := S.size
  go_wp2_with fail
  refine hK.out _ _ ?hSq17 (fun hHeld => ?_)
  case hSq17 => exact Cl.step (cs := [(w.heap.size, 0, .bool b0), (w.heap.size, 1, .slice p0 n0 c0), (w.heap.size, 2, .bool true), (w.heap.size, 3, .slice p1 n1 c1)]) g (by assumption)
  clear hK K g h
  try simp only [List.setIfInBounds_toArray, List.set_cons_zero, List.set_cons_succ]
  obtain ⟨z21, ez21⟩ : ∃ t : Int, -y = t := ⟨_, rfl⟩
  have E21 := Lib.hid ez21
  clear ez21
  refine wpAnyH_ready (rs := [5]) (by kernel_rfl) (by simp) ?_
  refine AllReadyH.cons (o := _) rfl (fun K hK => ?_) AllReadyH.nil
  go_simp
  go_at_call 77
  with_reducible refine (Neg_g Hy.out (by omega) E21.out).mono ?_
  rintro e w22 ⟨b21, p21, n21, c21, rfl, h, g⟩
  clear Hy
  replace N18 := Lib.hid (N18.out.kp (Kp.of g))
  have N21 := Lib.hid (h)
  replace S := S.step g
  have lg22 := g.size
  clear l0 l1 l2 lS
  have l0 := S.ltc (g := w.heap.size) (o := 0) (x := .bool b0) (by simp)
  have l1 := S.ltc (g := w.heap.size + 1) (o := 0) (x := .bool false) (by simp)
  have l2 := S.ltc (g := w.heap.size + 1 + 1) (o := 0) (x := .bool false) (by simp)
  have lS := S.size
  go_wp2_with fail
  refine hK.out _ _ ?hSq20 (fun hHeld => ?_)
  case hSq20 => exact Cl.step (cs := [(w.heap.size, 0, .bool b0), (w.heap.size, 1, .slice p0 n0 c0), (w.heap.size, 2, .bool true), (w.heap.size, 3, .slice p1 n1 c1)]) g (by assumption)
  clear hK K g h
  try simp only [List.setIfInBounds_toArray, List.set_cons_zero, List.set_cons_succ]
  obtain ⟨e0, e1, e2, e3, e4, e5, e6, e7, h0, i0, h1, i1, h2, i2, h3, i3, G⟩ := id S
  refine wpAnyH_ready (rs := [6]) (by kernel_rfl) (by simp) ?_
  refine AllReadyH.cons (o := _) rfl (fun K hK => ?_) AllReadyH.nil
  go_simp
  refine hK.out _ _ ?hSq23 (fun hHeld => ?_)
  case hSq23 => exact (Cl.set (cs := [(w.heap.size, 0, .bool b0), (w.heap.size, 1, .slice p0 n0 c0), (w.heap.size, 2, .bool true), (w.heap.size, 3, .slice p1 n1 c1)]) (g := w.heap.size + 1) (o := 1) (u := .slice p18 n18 c18) (Cl.set (cs := [(w.heap.size, 0, .bool b0), (w.heap.size, 1, .slice p0 n0 c0), (w.heap.size, 2, .bool true), (w.heap.size, 3, .slice p1 n1 c1)]) (g := w.heap.size + 1) (o := 0) (u := .bool b18) (by assumption) (by simp <;> omega)) (by simp <;> omega))
  clear hK K
  try simp only [List.setIfInBounds_toArray, List.set_cons_zero, List.set_cons_succ]
  clear e0 e1 e2 e3 e4 e5 e6 e7 h0 i0 h1 i1 h2 i2 h3 i3 G
  have K24 : Kp w22 (w22.setCell ⟨w.heap.size + 1, 0, none⟩ (.bool b18)) := S.kp (g := w.heap.size + 1) (o := 0) (x := .bool false) (.bool b18) (by simp) (by simp)
  replace S : St w [(w.heap.size + 1, 0, .bool b18), (w.heap.size + 1 + 1, 0, .bool false), (w.heap.size + 1 + 1, 1, .slice none 0 0), (w.heap.size + 1, 1, .slice none 0 0), (w.heap.size, 0, .bool b0), (w.heap.size, 1, .slice p0 n0 c0), (w.heap.size, 2, .bool true), (w.heap.size, 3, .slice p1 n1 c1)] [(w.heap.size + 1 + 1, 0), (w.heap.size + 1 + 1, 1), (w.heap.size + 1, 0), (w.heap.size + 1, 1)] (w22.setCell ⟨w.heap.size + 1, 0, none⟩ (.bool b18)) := S.set (g := w.heap.size + 1) (o := 0) (.bool b18) (by simp) (by simp <;> omega) (by omega)
  have K25 : Kp (w22.setCell ⟨w.heap.size + 1, 0, none⟩ (.bool b18)) ((w22.setCell ⟨w.heap.size + 1, 0, none⟩ (.bool b18)).setCell ⟨w.heap.size + 1, 1, none⟩ (.slice p18 n18 c18)) := S.kp (g := w.heap.size + 1) (o := 1) (x := .slice none 0 0) (.slice p18 n18 c18) (by simp) (by simp)
  replace S : St w [(w.heap.size + 1, 1, .slice p18 n18 c18), (w.heap.size + 1 + 1, 0, .bool false), (w.heap.size + 1 + 1, 1, .slice none 0 0), (w.heap.size + 1, 0, .bool b18), (w.heap.size, 0, .bool b0), (w.heap.size, 1, .slice p0 n0 c0), (w.heap.size, 2, .bool true), (w.heap.size, 3, .slice p1 n1 c1)] [(w.heap.size + 1 + 1, 0), (w.heap.size + 1 + 1, 1), (w.heap.size + 1, 0), (w.heap.size + 1, 1)] ((w22.setCell ⟨w.heap.size + 1, 0, none⟩ (.bool b18)).setCell ⟨w.heap.size + 1, 1, none⟩ (.slice p18 n18 c18)) := S.set (g := w.heap.size + 1) (o := 1) (.slice p18 n18 c18) (by simp) (by simp <;> omega) (by omega)
  replace S : St w [(w.heap.size + 1 + 1, 0, .bool false), (w.heap.size + 1 + 1, 1, .slice none 0 0), (w.heap.size + 1, 0, .bool b18), (w.heap.size + 1, 1, .slice p18 n18 c18), (w.heap.size, 0, .bool b0), (w.heap.size, 1, .slice p0 n0 c0), (w.heap.size, 2, .bool true), (w.heap.size, 3, .slice p1 n1 c1)] [(w.heap.size + 1 + 1, 0), (w.heap.size + 1 + 1, 1), (w.heap.size + 1, 0), (w.heap.size + 1, 1)] ((w22.setCell ⟨w.heap.size + 1, 0, none⟩ (.bool b18)).setCell ⟨w.heap.size + 1, 1, none⟩ (.slice p18 n18 c18)) := S.sub (by simp) (by simp)
  replace N18 := Lib.hid (N18.out.kp (K24.trans K25))
  replace N21 := Lib.hid (N21.out.kp (K24.trans K25))
  clear K24 K25
  have sz26 : ((w22.setCell ⟨w.heap.size + 1, 0, none⟩ (.bool b18)).setCell ⟨w.heap.size + 1, 1, none⟩ (.slice p18 n18 c18)).heap.size = w22.heap.size := by simp
  generalize ((w22.setCell ⟨w.heap.size + 1, 0, none⟩ (.bool b18)).setCell ⟨w.heap.size + 1, 1, none⟩ (.slice p18 n18 c18)) = W26 at *
  clear l0 l1 l2 lS
  have l0 := S.ltc (g := w.heap.size) (o := 0) (x := .bool b0) (by simp)
  have l1 := S.ltc (g := w.heap.size + 1) (o := 0) (x := .bool b18) (by simp)
  have l2 := S.ltc (g := w.heap.size + 1 + 1) (o := 0) (x := .bool false) (by simp)
  have lS := S.size
  obtain ⟨e0, e1, e2, e3, e4, e5, e6, e7, h0, i0, h1, i1, h2, i2, h3, i3, G⟩ := id S
  refine wpAnyH_ready (rs := [7]) (by kernel_rfl) (by simp) ?_
  refine AllReadyH.cons (o := _) rfl (fun K hK => ?_) AllReadyH.nil
  go_simp
  refine hK.out _ _ ?hSq27 (fun hHeld => ?_)
  case hSq27 => exact (Cl.set (cs := [(w.heap.size, 0, .bool b0), (w.heap.size, 1, .slice p0 n0 c0), (w.heap.size, 2, .bool true), (w.heap.size, 3, .slice p1 n1 c1)]) (g := w.heap.size + 1 + 1) (o := 1) (u := .slice p21 n21 c21) (Cl.set (cs := [(w.heap.size, 0, .bool b0), (w.heap.size, 1, .slice p0 n0 c0), (w.heap.size, 2, .bool true), (w.heap.size, 3, .slice p1 n1 c1)]) (g := w.heap.size + 1 + 1) (o := 0) (u := .bool b21) (by assumption) (by simp <;> omega)) (by simp <;> omega))
  clear hK K
  try simp only [List.setIfInBounds_toArray, List.set_cons_zero, List.set_cons_succ]
  clear e0 e1 e2 e3 e4 e5 e6 e7 h0 i0 h1 i1 h2 i2 h3 i3 G
  have K28 : Kp W26 (W26.setCell ⟨w.heap.size + 1 + 1, 0, none⟩ (.bool b21)) := S.kp (g := w.heap.size + 1 + 1) (o := 0) (x := .bool false) (.bool b21) (by simp) (by simp)
  replace S : St w [(w.heap.size + 1 + 1, 0, .bool b21), (w.heap.size + 1 + 1, 1, .slice none 0 0), (w.heap.size + 1, 0, .bool b18), (w.heap.size + 1, 1, .slice p18 n18 c18), (w.heap.size, 0, .bool b0), (w.heap.size, 1, .slice p0 n0 c0), (w.heap.size, 2, .bool true), (w.heap.size, 3, .slice p1 n1 c1)] [(w.heap.size + 1 + 1, 0), (w.heap.size + 1 + 1, 1), (w.heap.size + 1, 0), (w.heap.size + 1, 1)] (W26.setCell ⟨w.heap.size + 1 + 1, 0, none⟩ (.bool b21)) := S.set (g := w.heap.size + 1 + 1) (o := 0) (.bool b21) (by simp) (by simp <;> omega) (by omega)
  have K29 : Kp (W26.setCell ⟨w.heap.size + 1 + 1, 0, none⟩ (.bool b21)) ((W26.setCell ⟨w.heap.size + 1 + 1, 0, none⟩ (.bool b21)).setCell ⟨w.heap.size + 1 + 1, 1, none⟩ (.slice p21 n21 c21)) := S.kp (g := w.heap.size + 1 + 1) (o := 1) (x := .slice none 0 0) (.slice p21 n21 c21) (by simp) (by simp)
  replace S : St w [(w.heap.size + 1 + 1, 1, .slice p21 n21 c21), (w.heap.size + 1 + 1, 0, .bool b21), (w.heap.size + 1, 0, .bool b18), (w.heap.size + 1, 1, .slice p18 n18 c18), (w.heap.size, 0, .bool b0), (w.heap.size, 1, .slice p0 n0 c0), (w.heap.size, 2, .bool true), (w.heap.size, 3, .slice p1 n1 c1)] [(w.heap.size + 1 + 1, 0), (w.heap.size + 1 + 1, 1), (w.heap.size + 1, 0), (w.heap.size + 1, 1)] ((W26.setCell ⟨w.heap.size + 1 + 1, 0, none⟩ (.bool b21)).setCell ⟨w.heap.size + 1 + 1, 1, none⟩ (.slice p21 n21 c21)) := S.set (g := w.heap.size + 1 + 1) (o := 1) (.slice p21 n21 c21) (by simp) (by simp <;> omega) (by omega)
  replace S : St w [(w.heap.size + 1 + 1, 0, .bool b21), (w.heap.size + 1 + 1, 1, .slice p21 n21 c21), (w.heap.size + 1, 0, .bool b18), (w.heap.size + 1, 1, .slice p18 n18 c18), (w.heap.size, 0, .bool b0), (w.heap.size, 1, .slice p0 n0 c0), (w.heap.size, 2, .bool true), (w.heap.size, 3, .slice p1 n1 c1)] [(w.heap.size + 1 + 1, 0), (w.heap.size + 1 + 1, 1), (w.heap.size + 1, 0), (w.heap.size + 1, 1)] ((W26.setCell ⟨w.heap.size + 1 + 1, 0, none⟩ (.bool b21)).setCell ⟨w.heap.size + 1 + 1, 1, none⟩ (.slice p21 n21 c21)) := S.sub (by simp) (by simp)
  replace N18 := Lib.hid (N18.out.kp (K28.trans K29))
  replace N21 := Lib.hid (N21.out.kp (K28.trans K29))
  clear K28 K29
  have sz30 : ((W26.setCell ⟨w.heap.size + 1 + 1, 0, none⟩ (.bool b21)).setCell ⟨w.heap.size + 1 + 1, 1, none⟩ (.slice p21 n21 c21)).heap.size = W26.heap.size := by simp
  generalize ((W26.setCell ⟨w.heap.size + 1 + 1, 0, none⟩ (.bool b21)).setCell ⟨w.heap.size + 1 + 1, 1, none⟩ (.slice p21 n21 c21)) = W30 at *
  clear l0 l1 l2 lS
  have l0 := S.ltc (g := w.heap.size) (o := 0) (x := .bool b0) (by simp)
  have l1 := S.ltc (g := w.heap.size + 1) (o := 0) (x := .bool b18) (by simp)
  have l2 := S.ltc (g := w.heap.size + 1 + 1) (o := 0) (x := .bool b21) (by simp)
  have lS := S.size
  refine wpAnyH_done (by kernel_rfl) ?_ _
  refine NoPanic.normal ?_
  obtain ⟨e0, e1, e2, e3, e4, e5, e6, e7, h0, i0, h1, i1, h2, i2, h3, i3, G⟩ := id S
  go_wp2_with fail
  clear e0 e1 e2 e3 e4 e5 e6 e7 h0 i0 h1 i1 h2 i2 h3 i3 G
  refine post_II Tryz.results95 rfl rfl rfl (S.cell (g := w.heap.size + 1) (o := 0) (x := .bool b18) (by simp)) (S.cell (g := w.heap.size + 1) (o := 1) (x := .slice p18 n18 c18) (by simp)) (S.cell (g := w.heap.size + 1 + 1) (o := 0) (x := .bool b21) (by simp)) (S.cell (g := w.heap.size + 1 + 1) (o := 1) (x := .slice p21 n21 c21) (by simp)) ⟨_, _, _, _, _, _, _, _, z18, z21, rfl, N18.out.i.more (by omega), N21.out.i.more (by omega), by rw [← E21.out]; omega, by rw [← E18.out, ← E21.out, Rat.neg_divInt_neg, qOf_ne (by omega)], S.all⟩

set_option maxHeartbeats 4000000 in
set_option maxRecDepth 100000 in
theorem Parts_pos {b0 : Bool} {p0 p1 : Option Addr} {n0 c0 n1 c1 : Nat} {z y : Int} {k : Nat} {w : World} (hz : IntV w (.agg #[.bool b0, .slice p0 n0 c0]) z k) (hy : IntV w (.agg #[.bool false, .slice p1 n1 c1]) y k) (hk : k ≤ 900000) (h0 : 0 < y) :
    Calls Tryz.prog 95 #[.agg #[.bool b0, .slice p0 n0 c0, .bool false, .slice p1 n1 c1]] w (GotParts w (qOf z y) (k + 2)) := by
  have Hz := Lib.hid hz
  have Hy := Lib.hid hy
  clear hz hy
  have Y0 := Lib.hid (show decide (y = 0) = false from decide_eq_false (by omega))
  have S : St w [] [] w := St.start w
  go_enter Tryz.func95, Tryz.ntmps95
  have G := S
  go_wp2_with fail
  clear G
  replace S : St w [(w.heap.size, 0, .bool b0), (w.heap.size, 1, .slice p0 n0 c0), (w.heap.size, 2, .bool false), (w.heap.size, 3, .slice p1 n1 c1)] [] (w.alloc (.cells #[.bool b0, .slice p0 n0 c0, .bool false, .slice p1 n1 c1] 46)) := S.box (w.heap.size) [.bool b0, .slice p0 n0 c0, .bool false, .slice p1 n1 c1] 46 (by simp)
  replace S : St w [(w.heap.size + 1, 0, .bool false), (w.heap.size + 1, 1, .slice none 0 0), (w.heap.size, 0, .bool b0), (w.heap.size, 1, .slice p0 n0 c0), (w.heap.size, 2, .bool false), (w.heap.size, 3, .slice p1 n1 c1)] [(w.heap.size + 1, 0), (w.heap.size + 1, 1)] ((w.alloc (.cells #[.bool b0, .slice p0 n0 c0, .bool false, .slice p1 n1 c1] 46)).alloc (.cells #[.bool false, .slice none 0 0] 24)) := S.made (w.heap.size + 1) [.bool false, .slice none 0 0] 24 (by simp)
  replace S : St w [(w.heap.size + 1 + 1, 0, .bool false), (w.heap.size + 1 + 1, 1, .slice none 0 0), (w.heap.size + 1, 0, .bool false), (w.heap.size + 1, 1, .slice none 0 0), (w.heap.size, 0, .bool b0), (w.heap.size, 1, .slice p0 n0 c0), (w.heap.size, 2, .bool false), (w.heap.size, 3, .slice p1 n1 c1)] [(w.heap.size + 1 + 1, 0), (w.heap.size + 1 + 1, 1), (w.heap.size + 1, 0), (w.heap.size + 1, 1)] (((w.alloc (.cells #[.bool b0, .slice p0 n0 c0, .bool false, .slice p1 n1 c1] 46)).alloc (.cells #[.bool false, .slice none 0 0] 24)).alloc (.cells #[.bool false, .slice none 0 0] 24)) := S.made (w.heap.size + 1 + 1) [.bool false, .slice none 0 0] 24 (by simp)
  replace Hz := Lib.hid (Hz.out.kp (((Kp.of (grown_alloc w (.cells #[.bool b0, .slice p0 n0 c0, .bool false, .slice p1 n1 c1] 46) none)).trans (Kp.of (grown_alloc ((w.alloc (.cells #[.bool b0, .slice p0 n0 c0, .bool false, .slice p1 n1 c1] 46))) (.cells #[.bool false, .slice none 0 0] 24) none))).trans (Kp.of (grown_alloc (((w.alloc (.cells #[.bool b0, .slice p0 n0 c0, .bool false, .slice p1 n1 c1] 46)).alloc (.cells #[.bool false, .slice none 0 0] 24))) (.cells #[.bool false, .slice none 0 0] 24) none))))
  replace Hy := Lib.hid (Hy.out.kp (((Kp.of (grown_alloc w (.cells #[.bool b0, .slice p0 n0 c0, .bool false, .slice p1 n1 c1] 46) none)).trans (Kp.of (grown_alloc ((w.alloc (.cells #[.bool b0, .slice p0 n0 c0, .bool false, .slice p1 n1 c1] 46))) (.cells #[.bool false, .slice none 0 0] 24) none))).trans (Kp.of (grown_alloc (((w.alloc (.cells #[.bool b0, .slice p0 n0 c0, .bool false, .slice p1 n1 c1] 46)).alloc (.cells #[.bool false, .slice none 0 0] 24))) (.cells #[.bool false, .slice none 0 0] 24) none))))
  have sz10 : (((w.alloc (.cells #[.bool b0, .slice p0 n0 c0, .bool false, .slice p1 n1 c1] 46)).alloc (.cells #[.bool false, .slice none 0 0] 24)).alloc (.cells #[.bool false, .slice none 0 0] 24)).heap.size = w.heap.size + 3 := by simp
  generalize (((w.alloc (.cells #[.bool b0, .slice p0 n0 c0, .bool false, .slice p1 n1 c1] 46)).alloc (.cells #[.bool false, .slice none 0 0] 24)).alloc (.cells #[.bool false, .slice none 0 0] 24)) = W10 at *
  go_at_call 83
  with_reducible refine (zero_g Hy.out (by omega) Y0.out).mono ?_
  rintro e w11 ⟨rfl, g⟩
  replace Hz := Lib.hid (Hz.out.kp (Kp.of g))
  replace Hy := Lib.hid (Hy.out.kp (Kp.of g))
  replace S := S.step g
  have lg11 := g.size
  clear g
  have l0 := S.ltc (g := w.heap.size) (o := 0) (x := .bool b0) (by simp)
  have l1 := S.ltc (g := w.heap.size + 1) (o := 0) (x := .bool false) (by simp)
  have l2 := S.ltc (g := w.heap.size + 1 + 1) (o := 0) (x := .bool false) (by simp)
  have lS := S.size
  obtain ⟨e0, e1, e2, e3, e4, e5, e6, e7, h0, i0, h1, i1, h2, i2, h3, i3, G⟩ := id S
  go_wp2_with fail
  clear e0 e1 e2 e3 e4 e5 e6 e7 h0 i0 h1 i1 h2 i2 h3 i3 G
  have T0 : Cl [(w.heap.size, 0, .bool b0), (w.heap.size, 1, .slice p0 n0 c0), (w.heap.size, 2, .bool false), (w.heap.size, 3, .slice p1 n1 c1)] w11 := S.cl (by simp)
  refine wp_region_noPanic ?_
  refine wp_region_held_drew (S := fun w' => w'.cell? ⟨w.heap.size, 0, none⟩ = some (.bool b0) ∧ w'.cell? ⟨w.heap.size, 1, none⟩ = some (.slice p0 n0 c0) ∧ w'.cell? ⟨w.heap.size, 2, none⟩ = some (.bool false) ∧ w'.cell? ⟨w.heap.size, 3, none⟩ = some (.slice p1 n1 c1) ∧ True) (by kernel_rfl) (by exact Cl.step (cs := [(w.heap.size, 0, .bool b0), (w.heap.size, 1, .slice p0 n0 c0), (w.heap.size, 2, .bool false), (w.heap.size, 3, .slice p1 n1 c1)]) (grown_drew _ _) T0) (fun hHeld => ?_)
  change wpAnyH _ _ _ _ _ 6 #[false, false, false, false, false, false] _ _
  replace S := S.step (grown_drew w11 none)
  replace Hz := Lib.hid (Hz.out.kp (Kp.of (grown_drew w11 none)))
  replace Hy := Lib.hid (Hy.out.kp (Kp.of (grown_drew w11 none)))
  have lg12 := (grown_drew w11 none).size
  clear T0
  generalize w11.drew = wr12 at *
  clear l0 l1 l2 lS
  have l0 := S.ltc (g := w.heap.size) (o := 0) (x := .bool b0) (by simp)
  have l1 := S.ltc (g := w.heap.size + 1) (o := 0) (x := .bool false) (by simp)
  have l2 := S.ltc (g := w.heap.size + 1 + 1) (o := 0) (x := .bool false) (by simp)
  have lS := S.size
  refine wpAnyH_take (i := 0) (oi := _) (v := ?vq13) rfl (by kernel_rfl) (by kernel_rfl) (by kernel_rfl) (fun _ _ _ h => h) (Or.inl ⟨by rfl, ?hyq13⟩) (by assumption) ?restq13
  case hyq13 => (intro w hSw; (try dsimp only at hSw); go_simp; try with_reducible rfl)
  try simp only [Act.put, List.getElem_toArray, List.getElem_cons_zero, List.setIfInBounds_toArray, List.set_cons_zero, List.set_cons_succ]
  refine wpAnyH_take (i := 1) (oi := _) (v := ?vq14) rfl (by kernel_rfl) (by kernel_rfl) (by kernel_rfl) (fun _ _ _ h => h) (Or.inl ⟨by rfl, ?hyq14⟩) (by assumption) ?restq14
  case hyq14 => (intro w hSw; (try dsimp only at hSw); go_simp; try with_reducible rfl)
  try simp only [Act.put, List.getElem_toArray, List.getElem_cons_zero, List.getElem_cons_succ, List.setIfInBounds_toArray, List.set_cons_zero, List.set_cons_succ]
  refine wpAnyH_take (i := 2) (oi := _) (v := ?vq15) rfl (by kernel_rfl) (by kernel_rfl) (by kernel_rfl) (fun _ _ _ h => h) (Or.inl ⟨by rfl, ?hyq15⟩) (by assumption) ?restq15
  case hyq15 => (intro w hSw; (try dsimp only at hSw); go_simp; try with_reducible rfl)
  try simp only [Act.put, List.getElem_toArray, List.getElem_cons_zero, List.getElem_cons_succ, List.setIfInBounds_toArray, List.set_cons_zero, List.set_cons_succ]
  refine wpAnyH_take (i := 3) (oi := _) (v := ?vq16) rfl (by kernel_rfl) (by kernel_rfl) (by kernel_rfl) (fun _ _ _ h => h) (Or.inl ⟨by rfl, ?hyq16⟩) (by assumption) ?restq16
  case hyq16 => (intro w hSw; (try dsimp only at hSw); go_simp; try with_reducible rfl)
  try simp only [Act.put, List.getElem_toArray, List.getElem_cons_zero, List.getElem_cons_succ, List.setIfInBounds_toArray, List.set_cons_zero, List.set_cons_succ]
  obtain ⟨e0, e1, e2, e3, e4, e5, e6, e7, h0, i0, h1, i1, h2, i2, h3, i3, G⟩ := id S
  refine wpAnyH_ready (rs := [4]) (by kernel_rfl) (by simp) ?_
  refine AllReadyH.cons (o := _) rfl (fun K hK => ?_) AllReadyH.nil
  go_simp
  refine hK.out _ _ ?hSq17 (fun hHeld => ?_)
  case hSq17 => exact (Cl.set (cs := [(w.heap.size, 0, .bool b0), (w.heap.size, 1, .slice p0 n0 c0), (w.heap.size, 2, .bool false), (w.heap.size, 3, .slice p1 n1 c1)]) (g := w.heap.size + 1) (o := 1) (u := .slice p0 n0 c0) (Cl.set (cs := [(w.heap.size, 0, .bool b0), (w.heap.size, 1, .slice p0 n0 c0), (w.heap.size, 2, .bool false), (w.heap.size, 3, .slice p1 n1 c1)]) (g := w.heap.size + 1) (o := 0) (u := .bool b0) (by assumption) (by simp <;> omega)) (by simp <;> omega))
  clear hK K
  try simp only [List.setIfInBounds_toArray, List.set_cons_zero, List.set_cons_succ]
  clear e0 e1 e2 e3 e4 e5 e6 e7 h0 i0 h1 i1 h2 i2 h3 i3 G
  have K18 : Kp wr12 (wr12.setCell ⟨w.heap.size + 1, 0, none⟩ (.bool b0)) := S.kp (g := w.heap.size + 1) (o := 0) (x := .bool false) (.bool b0) (by simp) (by simp)
  replace S : St w [(w.heap.size + 1, 0, .bool b0), (w.heap.size + 1 + 1, 0, .bool false), (w.heap.size + 1 + 1, 1, .slice none 0 0), (w.heap.size + 1, 1, .slice none 0 0), (w.heap.size, 0, .bool b0), (w.heap.size, 1, .slice p0 n0 c0), (w.heap.size, 2, .bool false), (w.heap.size, 3, .slice p1 n1 c1)] [(w.heap.size + 1 + 1, 0), (w.heap.size + 1 + 1, 1), (w.heap.size + 1, 0), (w.heap.size + 1, 1)] (wr12.setCell ⟨w.heap.size + 1, 0, none⟩ (.bool b0)) := S.set (g := w.heap.size + 1) (o := 0) (.bool b0) (by simp) (by simp <;> omega) (by omega)
  have K19 : Kp (wr12.setCell ⟨w.heap.size + 1, 0, none⟩ (.bool b0)) ((wr12.setCell ⟨w.heap.size + 1, 0, none⟩ (.bool b0)).setCell ⟨w.heap.size + 1, 1, none⟩ (.slice p0 n0 c0)) := S.kp (g := w.heap.size + 1) (o := 1) (x := .slice none 0 0) (.slice p0 n0 c0) (by simp) (by simp)
  replace S : St w [(w.heap.size + 1, 1, .slice p0 n0 c0), (w.heap.size + 1 + 1, 0, .bool false), (w.heap.size + 1 + 1, 1, .slice none 0 0), (w.heap.size + 1, 0, .bool b0), (w.heap.size, 0, .bool b0), (w.heap.size, 1, .slice p0 n0 c0), (w.heap.size, 2, .bool false), (w.heap.size, 3, .slice p1 n1 c1)] [(w.heap.size + 1 + 1, 0), (w.heap.size + 1 + 1, 1), (w.heap.size + 1, 0), (w.heap.size + 1, 1)] ((wr12.setCell ⟨w.heap.size + 1, 0, none⟩ (.bool b0)).setCell ⟨w.heap.size + 1, 1, none⟩ (.slice p0 n0 c0)) := S.set (g := w.heap.size + 1) (o := 1) (.slice p0 n0 c0) (by simp) (by simp <;> omega) (by omega)
  replace S : St w [(w.heap.size + 1 + 1, 0, .bool false), (w.heap.size + 1 + 1, 1, .slice none 0 0), (w.heap.size + 1, 0, .bool b0), (w.heap.size + 1, 1, .slice p0 n0 c0), (w.heap.size, 0, .bool b0), (w.heap.size, 1, .slice p0 n0 c0), (w.heap.size, 2, .bool false), (w.heap.size, 3, .slice p1 n1 c1)] [(w.heap.size + 1 + 1, 0), (w.heap.size + 1 + 1, 1), (w.heap.size + 1, 0), (w.heap.size + 1, 1)] ((wr12.setCell ⟨w.heap.size + 1, 0, none⟩ (.bool b0)).setCell ⟨w.heap.size + 1, 1, none⟩ (.slice p0 n0 c0)) := S.sub (by simp) (by simp)
  replace Hz := Lib.hid (Hz.out.kp (K18.trans K19))
  replace Hy := Lib.hid (Hy.out.kp (K18.trans K19))
  clear K18 K19
  have sz20 : ((wr12.setCell ⟨w.heap.size + 1, 0, none⟩ (.bool b0)).setCell ⟨w.heap.size + 1, 1, none⟩ (.slice p0 n0 c0)).heap.size = wr12.heap.size := by simp
  generalize ((wr12.setCell ⟨w.heap.size + 1, 0, none⟩ (.bool b0)).setCell ⟨w.heap.size + 1, 1, none⟩ (.slice p0 n0 c0)) = W20 at *
  clear l0 l1 l2 lS
  have l0 := S.ltc (g := w.heap.size) (o := 0) (x := .bool b0) (by simp)
  have l1 := S.ltc (g := w.heap.size + 1) (o := 0) (x := .bool b0) (by simp)
  have l2 := S.ltc (g := w.heap.size + 1 + 1) (o := 0) (x := .bool false) (by simp)
  have lS := S.size
  obtain ⟨e0, e1, e2, e3, e4, e5, e6, e7, h0, i0, h1, i1, h2, i2, h3, i3, G⟩ := id S
  refine wpAnyH_ready (rs := [5]) (by kernel_rfl) (by simp) ?_
  refine AllReadyH.cons (o := _) rfl (fun K hK => ?_) AllReadyH.nil
  go_simp
  refine hK.out _ _ ?hSq21 (fun hHeld => ?_)
  case hSq21 => exact (Cl.set (cs := [(w.heap.size, 0, .bool b0), (w.heap.size, 1, .slice p0 n0 c0), (w.heap.size, 2, .bool false), (w.heap.size, 3, .slice p1 n1 c1)]) (g := w.heap.size + 1 + 1) (o := 1) (u := .slice p1 n1 c1) (Cl.set (cs := [(w.heap.size, 0, .bool b0), (w.heap.size, 1, .slice p0 n0 c0), (w.heap.size, 2, .bool false), (w.heap.size, 3, .slice p1 n1 c1)]) (g := w.heap.size + 1 + 1) (o := 0) (u := .bool false) (by assumption) (by simp <;> omega)) (by simp <;> omega))
  clear hK K
  try simp only [List.setIfInBounds_toArray, List.set_cons_zero, List.set_cons_succ]
  clear e0 e1 e2 e3 e4 e5 e6 e7 h0 i0 h1 i1 h2 i2 h3 i3 G
  have K22 : Kp W20 (W20.setCell ⟨w.heap.size + 1 + 1, 0, none⟩ (.bool false)) := S.kp (g := w.heap.size + 1 + 1) (o := 0) (x := .bool false) (.bool false) (by simp) (by simp)
  replace S : St w [(w.heap.size + 1 + 1, 0, .bool false), (w.heap.size + 1 + 1, 1, .slice none 0 0), (w.heap.size + 1, 0, .bool b0), (w.heap.size + 1, 1, .slice p0 n0 c0), (w.heap.size, 0, .bool b0), (w.heap.size, 1, .slice p0 n0 c0), (w.heap.size, 2, .bool false), (w.heap.size, 3, .slice p1 n1 c1)] [(w.heap.size + 1 + 1, 0), (w.heap.size + 1 + 1, 1), (w.heap.size + 1, 0), (w.heap.size + 1, 1)] (W20.setCell ⟨w.heap.size + 1 + 1, 0, none⟩ (.bool false)) := S.set (g := w.heap.size + 1 + 1) (o := 0) (.bool false) (by simp) (by simp <;> omega) (by omega)
  have K23 : Kp (W20.setCell ⟨w.heap.size + 1 + 1, 0, none⟩ (.bool false)) ((W20.setCell ⟨w.heap.size + 1 + 1, 0, none⟩ (.bool false)).setCell ⟨w.heap.size + 1 + 1, 1, none⟩ (.slice p1 n1 c1)) := S.kp (g := w.heap.size + 1 + 1) (o := 1) (x := .slice none 0 0) (.slice p1 n1 c1) (by simp) (by simp)
  replace S : St w [(w.heap.size + 1 + 1, 1, .slice p1 n1 c1), (w.heap.size + 1 + 1, 0, .bool false), (w.heap.size + 1, 0, .bool b0), (w.heap.size + 1, 1, .slice p0 n0 c0), (w.heap.size, 0, .bool b0), (w.heap.size, 1, .slice p0 n0 c0), (w.heap.size, 2, .bool false), (w.heap.size, 3, .slice p1 n1 c1)] [(w.heap.size + 1 + 1, 0), (w.heap.size + 1 + 1, 1), (w.heap.size + 1, 0), (w.heap.size + 1, 1)] ((W20.setCell ⟨w.heap.size + 1 + 1, 0, none⟩ (.bool false)).setCell ⟨w.heap.size + 1 + 1, 1, none⟩ (.slice p1 n1 c1)) := S.set (g := w.heap.size + 1 + 1) (o := 1) (.slice p1 n1 c1) (by simp) (by simp <;> omega) (by omega)
  replace S : St w [(w.heap.size + 1 + 1, 0, .bool false), (w.heap.size + 1 + 1, 1, .slice p1 n1 c1), (w.heap.size + 1, 0, .bool b0), (w.heap.size + 1, 1, .slice p0 n0 c0), (w.heap.size, 0, .bool b0), (w.heap.size, 1, .slice p0 n0 c0), (w.heap.size, 2, .bool false), (w.heap.size, 3, .slice p1 n1 c1)] [(w.heap.size + 1 + 1, 0), (w.heap.size + 1 + 1, 1), (w.heap.size + 1, 0), (w.heap.size + 1, 1)] ((W20.setCell ⟨w.heap.size + 1 + 1, 0, none⟩ (.bool false)).setCell ⟨w.heap.size + 1 + 1, 1, none⟩ (.slice p1 n1 c1)) := S.sub (by simp) (by simp)
  replace Hz := Lib.hid (Hz.out.kp (K22.trans K23))
  replace Hy := Lib.hid (Hy.out.kp (K22.trans K23))
  clear K22 K23
  have sz24 : ((W20.setCell ⟨w.heap.size + 1 + 1, 0, none⟩ (.bool false)).setCell ⟨w.heap.size + 1 + 1, 1, none⟩ (.slice p1 n1 c1)).heap.size = W20.heap.size := by simp
  generalize ((W20.setCell ⟨w.heap.size + 1 + 1, 0, none⟩ (.bool false)).setCell ⟨w.heap.size + 1 + 1, 1, none⟩ (.slice p1 n1 c1)) = W24 at *
  clear l0 l1 l2 lS
  have l0 := S.ltc (g := w.heap.size) (o := 0) (x := .bool b0) (by simp)
  have l1 := S.ltc (g := w.heap.size + 1) (o := 0) (x := .bool b0) (by simp)
  have l2 := S.ltc (g := w.heap.size + 1 + 1) (o := 0) (x := .bool false) (by simp)
  have lS := S.size
  refine wpAnyH_done (by kernel_rfl) ?_ _
  refine NoPanic.normal ?_
  obtain ⟨e0, e1, e2, e3, e4, e5, e6, e7, h0, i0, h1, i1, h2, i2, h3, i3, G⟩ := id S
  go_wp2_with fail
  clear e0 e1 e2 e3 e4 e5 e6 e7 h0 i0 h1 i1 h2 i2 h3 i3 G
  refine post_II Tryz.results95 rfl rfl rfl (S.cell (g := w.heap.size + 1) (o := 0) (x := .bool b0) (by simp)) (S.cell (g := w.heap.size + 1) (o := 1) (x := .slice p0 n0 c0) (by simp)) (S.cell (g := w.heap.size + 1 + 1) (o := 0) (x := .bool false) (by simp)) (S.cell (g := w.heap.size + 1 + 1) (o := 1) (x := .slice p1 n1 c1) (by simp)) ⟨_, _, _, _, _, _, _, _, z, y, rfl, Hz.out.more (by omega), Hy.out.more (by omega), h0, by rw [qOf_ne (by omega)], S.all⟩

theorem Parts_g {v : Value} {q : Rat} {k : Nat} {w : World} (hx : RatV w v q k) (hk : k ≤ 900000) : Calls Tryz.prog 95 #[v] w (GotParts w q (k + 2)) := by
  obtain ⟨b, p, n, c, b', p', n', c', z, y, rfl, h2, h3, rfl⟩ := hx
  rcases Int.lt_trichotomy y 0 with h0 | h0 | h0
  · have hb : b' = true := by
      obtain ⟨b2, s, X, e, h4, h5⟩ := h3
      simp only [Value.agg.injEq, Array.mk.injEq, List.cons.injEq, Value.bool.injEq, and_true] at e
      obtain ⟨rfl, -⟩ := e
      cases b'
      · rw [h5] at h0; simp [sg] at h0; omega
      · rfl
    subst hb
    exact Parts_neg h2 h3 hk h0
  · exact Parts_0 h2 h3 hk h0
  · have hb : b' = false := by
      obtain ⟨b2, s, X, e, h4, h5⟩ := h3
      simp only [Value.agg.injEq, Array.mk.injEq, List.cons.injEq, Value.bool.injEq, and_true] at e
      obtain ⟨rfl, -⟩ := e
      cases b'
      · rfl
      · rw [h5] at h0; simp [sg] at h0; omega
    subst hb
    exact Parts_pos h2 h3 hk h0

set_option maxHeartbeats 4000000 in
set_option maxRecDepth 100000 in
theorem Lowest_neg {b0 : Bool} {p0 p1 : Option Addr} {n0 c0 n1 c1 : Nat} {z y : Int} {k : Nat} {w : World} (hz : IntV w (.agg #[.bool b0, .slice p0 n0 c0]) z k) (hy : IntV w (.agg #[.bool true, .slice p1 n1 c1]) y k) (hk : k ≤ 400000) (h0 : y < 0) :
    Calls Tryz.prog 84 #[.agg #[.bool b0, .slice p0 n0 c0], .agg #[.bool true, .slice p1 n1 c1]] w (GotQ w (Rat.divInt z y) k) := by
  have Hz := Lib.hid hz
  have Hy := Lib.hid hy
  clear hz hy
  have S : St w [] [] w := St.start w
  go_enter Tryz.func84, Tryz.ntmps84
  have G := S
  go_wp2_with fail
  clear G
  replace S : St w [(w.heap.size, 0, .bool b0), (w.heap.size, 1, .slice p0 n0 c0)] [] (w.alloc (.cells #[.bool b0, .slice p0 n0 c0] 24)) := S.box (w.heap.size) [.bool b0, .slice p0 n0 c0] 24 (by simp)
  replace S : St w [(w.heap.size + 1, 0, .bool true), (w.heap.size + 1, 1, .slice p1 n1 c1), (w.heap.size, 0, .bool b0), (w.heap.size, 1, .slice p0 n0 c0)] [] ((w.alloc (.cells #[.bool b0, .slice p0 n0 c0] 24)).alloc (.cells #[.bool true, .slice p1 n1 c1] 24)) := S.box (w.heap.size + 1) [.bool true, .slice p1 n1 c1] 24 (by simp)
  replace S : St w [(w.heap.size + 1 + 1, 0, .bool false), (w.heap.size + 1 + 1, 1, .slice none 0 0), (w.heap.size + 1 + 1, 2, .bool false), (w.heap.size + 1 + 1, 3, .slice none 0 0), (w.heap.size + 1, 0, .bool true), (w.heap.size + 1, 1, .slice p1 n1 c1), (w.heap.size, 0, .bool b0), (w.heap.size, 1, .slice p0 n0 c0)] [(w.heap.size + 1 + 1, 0), (w.heap.size + 1 + 1, 1), (w.heap.size + 1 + 1, 2), (w.heap.size + 1 + 1, 3)] (((w.alloc (.cells #[.bool b0, .slice p0 n0 c0] 24)).alloc (.cells #[.bool true, .slice p1 n1 c1] 24)).alloc (.cells #[.bool false, .slice none 0 0, .bool false, .slice none 0 0] 46)) := S.made (w.heap.size + 1 + 1) [.bool false, .slice none 0 0, .bool false, .slice none 0 0] 46 (by simp)
  replace S : St w [(w.heap.size + 1 + 1 + 1, 0, .bool b0), (w.heap.size + 1 + 1 + 1, 1, .slice p0 n0 c0), (w.heap.size + 1 + 1 + 1, 2, .bool true), (w.heap.size + 1 + 1 + 1, 3, .slice p1 n1 c1), (w.heap.size + 1 + 1, 0, .bool false), (w.heap.size + 1 + 1, 1, .slice none 0 0), (w.heap.size + 1 + 1, 2, .bool false), (w.heap.size + 1 + 1, 3, .slice none 0 0), (w.heap.size + 1, 0, .bool true), (w.heap.size + 1, 1, .slice p1 n1 c1), (w.heap.size, 0, .bool b0), (w.heap.size, 1, .slice p0 n0 c0)] [(w.heap.size + 1 + 1, 0), (w.heap.size + 1 + 1, 1), (w.heap.size + 1 + 1, 2), (w.heap.size + 1 + 1, 3)] ((((w.alloc (.cells #[.bool b0, .slice p0 n0 c0] 24)).alloc (.cells #[.bool true, .slice p1 n1 c1] 24)).alloc (.cells #[.bool false, .slice none 0 0, .bool false, .slice none 0 0] 46)).alloc (.cells #[.bool b0, .slice p0 n0 c0, .bool true, .slice p1 n1 c1] 24)) := S.box (w.heap.size + 1 + 1 + 1) [.bool b0, .slice p0 n0 c0, .bool true, .slice p1 n1 c1] 24 (by simp)
  replace Hz := Lib.hid (Hz.out.kp ((((Kp.of (grown_alloc w (.cells #[.bool b0, .slice p0 n0 c0] 24) none)).trans (Kp.of (grown_alloc ((w.alloc (.cells #[.bool b0, .slice p0 n0 c0] 24))) (.cells #[.bool true, .slice p1 n1 c1] 24) none))).trans (Kp.of (grown_alloc (((w.alloc (.cells #[.bool b0, .slice p0 n0 c0] 24)).alloc (.cells #[.bool true, .slice p1 n1 c1] 24))) (.cells #[.bool false, .slice none 0 0, .bool false, .slice none 0 0] 46) none))).trans (Kp.of (grown_alloc ((((w.alloc (.cells #[.bool b0, .slice p0 n0 c0] 24)).alloc (.cells #[.bool true, .slice p1 n1 c1] 24)).alloc (.cells #[.bool false, .slice none 0 0, .bool false, .slice none 0 0] 46))) (.cells #[.bool b0, .slice p0 n0 c0, .bool true, .slice p1 n1 c1] 24) none))))
  replace Hy := Lib.hid (Hy.out.kp ((((Kp.of (grown_alloc w (.cells #[.bool b0, .slice p0 n0 c0] 24) none)).trans (Kp.of (grown_alloc ((w.alloc (.cells #[.bool b0, .slice p0 n0 c0] 24))) (.cells #[.bool true, .slice p1 n1 c1] 24) none))).trans (Kp.of (grown_alloc (((w.alloc (.cells #[.bool b0, .slice p0 n0 c0] 24)).alloc (.cells #[.bool true, .slice p1 n1 c1] 24))) (.cells #[.bool false, .slice none 0 0, .bool false, .slice none 0 0] 46) none))).trans (Kp.of (grown_alloc ((((w.alloc (.cells #[.bool b0, .slice p0 n0 c0] 24)).alloc (.cells #[.bool true, .slice p1 n1 c1] 24)).alloc (.cells #[.bool false, .slice none 0 0, .bool false, .slice none 0 0] 46))) (.cells #[.bool b0, .slice p0 n0 c0, .bool true, .slice p1 n1 c1] 24) none))))
  have sz10 : ((((w.alloc (.cells #[.bool b0, .slice p0 n0 c0] 24)).alloc (.cells #[.bool true, .slice p1 n1 c1] 24)).alloc (.cells #[.bool false, .slice none 0 0, .bool false, .slice none 0 0] 46)).alloc (.cells #[.bool b0, .slice p0 n0 c0, .bool true, .slice p1 n1 c1] 24)).heap.size = w.heap.size + 4 := by simp
  generalize ((((w.alloc (.cells #[.bool b0, .slice p0 n0 c0] 24)).alloc (.cells #[.bool true, .slice p1 n1 c1] 24)).alloc (.cells #[.bool false, .slice none 0 0, .bool false, .slice none 0 0] 46)).alloc (.cells #[.bool b0, .slice p0 n0 c0, .bool true, .slice p1 n1 c1] 24)) = W10 at *
  obtain ⟨z11, ez11⟩ : ∃ t : Int, (Int.gcd z y : Int) = t := ⟨_, rfl⟩
  have E11 := Lib.hid ez11
  clear ez11
  go_at_call 68
  with_reducible refine (Gcd_g (k) Hz.out Hy.out (by omega) (by omega) (by omega) E11.out (S.cell (by simp)) (S.cell (by simp)) (S.cell (by simp)) (S.cell (by simp))).mono ?_
  rintro e w12 ⟨b11, p11, n11, c11, rfl, h, g⟩
  replace Hz := Lib.hid (Hz.out.kp (Kp.of g))
  replace Hy := Lib.hid (Hy.out.kp (Kp.of g))
  have N11 := Lib.hid (h)
  replace S := S.step g
  have lg12 := g.size
  clear g h
  have l0 := S.ltc (g := w.heap.size) (o := 0) (x := .bool b0) (by simp)
  have l1 := S.ltc (g := w.heap.size + 1) (o := 0) (x := .bool true) (by simp)
  have l2 := S.ltc (g := w.heap.size + 1 + 1) (o := 0) (x := .bool false) (by simp)
  have l3 := S.ltc (g := w.heap.size + 1 + 1 + 1) (o := 0) (x := .bool b0) (by simp)
  have lS := S.size
  obtain ⟨e0, e1, e2, e3, e4, e5, e6, e7, e8, e9, e10, e11, h0, i0, h1, i1, h2, i2, h3, i3, G⟩ := id S
  go_wp2_with fail
  clear e0 e1 e2 e3 e4 e5 e6 e7 e8 e9 e10 e11 h0 i0 h1 i1 h2 i2 h3 i3 G
  replace S : St w [(w12.heap.size, 0, .bool b11), (w12.heap.size, 1, .slice p11 n11 c11), (w.heap.size + 1 + 1 + 1, 0, .bool b0), (w.heap.size + 1 + 1 + 1, 1, .slice p0 n0 c0), (w.heap.size + 1 + 1 + 1, 2, .bool true), (w.heap.size + 1 + 1 + 1, 3, .slice p1 n1 c1), (w.heap.size + 1 + 1, 0, .bool false), (w.heap.size + 1 + 1, 1, .slice none 0 0), (w.heap.size + 1 + 1, 2, .bool false), (w.heap.size + 1 + 1, 3, .slice none 0 0), (w.heap.size + 1, 0, .bool true), (w.heap.size + 1, 1, .slice p1 n1 c1), (w.heap.size, 0, .bool b0), (w.heap.size, 1, .slice p0 n0 c0)] [(w12.heap.size, 0), (w12.heap.size, 1), (w.heap.size + 1 + 1, 0), (w.heap.size + 1 + 1, 1), (w.heap.size + 1 + 1, 2), (w.heap.size + 1 + 1, 3)] (w12.alloc (.cells #[.bool b11, .slice p11 n11 c11] 24)) := S.made (w12.heap.size) [.bool b11, .slice p11 n11 c11] 24 (by simp)
  replace Hz := Lib.hid (Hz.out.kp (Kp.of (grown_alloc w12 (.cells #[.bool b11, .slice p11 n11 c11] 24) none)))
  replace Hy := Lib.hid (Hy.out.kp (Kp.of (grown_alloc w12 (.cells #[.bool b11, .slice p11 n11 c11] 24) none)))
  replace N11 := Lib.hid (N11.out.kp (Kp.of (grown_alloc w12 (.cells #[.bool b11, .slice p11 n11 c11] 24) none)))
  have sz13 : (w12.alloc (.cells #[.bool b11, .slice p11 n11 c11] 24)).heap.size = w12.heap.size + 1 := by simp
  generalize (w12.alloc (.cells #[.bool b11, .slice p11 n11 c11] 24)) = W13 at *
  obtain ⟨z14, ez14⟩ : ∃ t : Int, -z11 = t := ⟨_, rfl⟩
  have E14 := Lib.hid ez14
  clear ez14
  go_at_call 77
  with_reducible refine (Neg_g N11.out.i (by omega) E14.out).mono ?_
  rintro e w15 ⟨b14, p14, n14, c14, rfl, h, g⟩
  replace Hz := Lib.hid (Hz.out.kp (Kp.of g))
  replace Hy := Lib.hid (Hy.out.kp (Kp.of g))
  clear N11
  have N14 := Lib.hid (h)
  replace S := S.step g
  have lg15 := g.size
  clear g h l0 l1 l2 l3 lS
  have l0 := S.ltc (g := w.heap.size) (o := 0) (x := .bool b0) (by simp)
  have l1 := S.ltc (g := w.heap.size + 1) (o := 0) (x := .bool true) (by simp)
  have l2 := S.ltc (g := w.heap.size + 1 + 1) (o := 0) (x := .bool false) (by simp)
  have l3 := S.ltc (g := w.heap.size + 1 + 1 + 1) (o := 0) (x := .bool b0) (by simp)
  have l4 := S.ltc (g := w12.heap.size) (o := 0) (x := .bool b11) (by simp)
  have lS := S.size
  obtain ⟨e0, e1, e2, e3, e4, e5, e6, e7, e8, e9, e10, e11, e12, e13, h0, i0, h1, i1, h2, i2, h3, i3, h4, i4, h5, i5, G⟩ := id S
  go_wp2_with fail
  clear e0 e1 e2 e3 e4 e5 e6 e7 e8 e9 e10 e11 e12 e13 h0 i0 h1 i1 h2 i2 h3 i3 h4 i4 h5 i5 G
  have K16 : Kp w15 (w15.setCell ⟨w12.heap.size, 0, none⟩ (.bool b14)) := S.kp (g := w12.heap.size) (o := 0) (x := .bool b11) (.bool b14) (by simp) (by simp)
  replace S : St w [(w12.heap.size, 0, .bool b14), (w12.heap.size, 1, .slice p11 n11 c11), (w.heap.size + 1 + 1 + 1, 0, .bool b0), (w.heap.size + 1 + 1 + 1, 1, .slice p0 n0 c0), (w.heap.size + 1 + 1 + 1, 2, .bool true), (w.heap.size + 1 + 1 + 1, 3, .slice p1 n1 c1), (w.heap.size + 1 + 1, 0, .bool false), (w.heap.size + 1 + 1, 1, .slice none 0 0), (w.heap.size + 1 + 1, 2, .bool false), (w.heap.size + 1 + 1, 3, .slice none 0 0), (w.heap.size + 1, 0, .bool true), (w.heap.size + 1, 1, .slice p1 n1 c1), (w.heap.size, 0, .bool b0), (w.heap.size, 1, .slice p0 n0 c0)] [(w12.heap.size, 0), (w12.heap.size, 1), (w.heap.size + 1 + 1, 0), (w.heap.size + 1 + 1, 1), (w.heap.size + 1 + 1, 2), (w.heap.size + 1 + 1, 3)] (w15.setCell ⟨w12.heap.size, 0, none⟩ (.bool b14)) := S.set (g := w12.heap.size) (o := 0) (.bool b14) (by simp) (by simp <;> omega) (by omega)
  have K17 : Kp (w15.setCell ⟨w12.heap.size, 0, none⟩ (.bool b14)) ((w15.setCell ⟨w12.heap.size, 0, none⟩ (.bool b14)).setCell ⟨w12.heap.size, 1, none⟩ (.slice p14 n14 c14)) := S.kp (g := w12.heap.size) (o := 1) (x := .slice p11 n11 c11) (.slice p14 n14 c14) (by simp) (by simp)
  replace S : St w [(w12.heap.size, 1, .slice p14 n14 c14), (w12.heap.size, 0, .bool b14), (w.heap.size + 1 + 1 + 1, 0, .bool b0), (w.heap.size + 1 + 1 + 1, 1, .slice p0 n0 c0), (w.heap.size + 1 + 1 + 1, 2, .bool true), (w.heap.size + 1 + 1 + 1, 3, .slice p1 n1 c1), (w.heap.size + 1 + 1, 0, .bool false), (w.heap.size + 1 + 1, 1, .slice none 0 0), (w.heap.size + 1 + 1, 2, .bool false), (w.heap.size + 1 + 1, 3, .slice none 0 0), (w.heap.size + 1, 0, .bool true), (w.heap.size + 1, 1, .slice p1 n1 c1), (w.heap.size, 0, .bool b0), (w.heap.size, 1, .slice p0 n0 c0)] [(w12.heap.size, 0), (w12.heap.size, 1), (w.heap.size + 1 + 1, 0), (w.heap.size + 1 + 1, 1), (w.heap.size + 1 + 1, 2), (w.heap.size + 1 + 1, 3)] ((w15.setCell ⟨w12.heap.size, 0, none⟩ (.bool b14)).setCell ⟨w12.heap.size, 1, none⟩ (.slice p14 n14 c14)) := S.set (g := w12.heap.size) (o := 1) (.slice p14 n14 c14) (by simp) (by simp <;> omega) (by omega)
  replace S : St w [(w12.heap.size, 0, .bool b14), (w12.heap.size, 1, .slice p14 n14 c14), (w.heap.size + 1 + 1 + 1, 0, .bool b0), (w.heap.size + 1 + 1 + 1, 1, .slice p0 n0 c0), (w.heap.size + 1 + 1 + 1, 2, .bool true), (w.heap.size + 1 + 1 + 1, 3, .slice p1 n1 c1), (w.heap.size + 1 + 1, 0, .bool false), (w.heap.size + 1 + 1, 1, .slice none 0 0), (w.heap.size + 1 + 1, 2, .bool false), (w.heap.size + 1 + 1, 3, .slice none 0 0), (w.heap.size + 1, 0, .bool true), (w.heap.size + 1, 1, .slice p1 n1 c1), (w.heap.size, 0, .bool b0), (w.heap.size, 1, .slice p0 n0 c0)] [(w12.heap.size, 0), (w12.heap.size, 1), (w.heap.size + 1 + 1, 0), (w.heap.size + 1 + 1, 1), (w.heap.size + 1 + 1, 2), (w.heap.size + 1 + 1, 3)] ((w15.setCell ⟨w12.heap.size, 0, none⟩ (.bool b14)).setCell ⟨w12.heap.size, 1, none⟩ (.slice p14 n14 c14)) := S.sub (by simp) (by simp)
  replace Hz := Lib.hid (Hz.out.kp (K16.trans K17))
  replace Hy := Lib.hid (Hy.out.kp (K16.trans K17))
  replace N14 := Lib.hid (N14.out.kp (K16.trans K17))
  clear K16 K17
  have sz18 : ((w15.setCell ⟨w12.heap.size, 0, none⟩ (.bool b14)).setCell ⟨w12.heap.size, 1, none⟩ (.slice p14 n14 c14)).heap.size = w15.heap.size := by simp
  generalize ((w15.setCell ⟨w12.heap.size, 0, none⟩ (.bool b14)).setCell ⟨w12.heap.size, 1, none⟩ (.slice p14 n14 c14)) = W18 at *
  have BY := Lib.hid (show z14 = byOf z y by rw [byOf, if_pos h0, E11.out, E14.out])
  have NE := Lib.hid (BY.out ▸ byOf_ne (n := z) (d := y) (by omega))
  have DZ := Lib.hid (BY.out ▸ byOf_dvd_n z y)
  have DY := Lib.hid (BY.out ▸ byOf_dvd_d z y)
  obtain ⟨z19, ez19⟩ : ∃ t : Int, z / z14 = t := ⟨_, rfl⟩
  have E19 := Lib.hid ez19
  clear ez19
  go_at_call 118
  with_reducible refine (Exact_g Hz.out N14.out.i (by omega) NE.out DZ.out E19.out).mono ?_
  rintro e w20 ⟨b19, p19, n19, c19, rfl, h, g⟩
  clear Hz
  replace Hy := Lib.hid (Hy.out.kp (Kp.of g))
  replace N14 := Lib.hid (N14.out.kp (Kp.of g))
  have N19 := Lib.hid (h)
  replace S := S.step g
  have lg20 := g.size
  clear g h l0 l1 l2 l3 l4 lS
  have l0 := S.ltc (g := w.heap.size) (o := 0) (x := .bool b0) (by simp)
  have l1 := S.ltc (g := w.heap.size + 1) (o := 0) (x := .bool true) (by simp)
  have l2 := S.ltc (g := w.heap.size + 1 + 1) (o := 0) (x := .bool false) (by simp)
  have l3 := S.ltc (g := w.heap.size + 1 + 1 + 1) (o := 0) (x := .bool b0) (by simp)
  have l4 := S.ltc (g := w12.heap.size) (o := 0) (x := .bool b14) (by simp)
  have lS := S.size
  obtain ⟨e0, e1, e2, e3, e4, e5, e6, e7, e8, e9, e10, e11, e12, e13, h0, i0, h1, i1, h2, i2, h3, i3, h4, i4, h5, i5, G⟩ := id S
  go_wp2_with fail
  clear e0 e1 e2 e3 e4 e5 e6 e7 e8 e9 e10 e11 e12 e13 h0 i0 h1 i1 h2 i2 h3 i3 h4 i4 h5 i5 G
  replace S : St w [(w20.heap.size, 0, .bool b19), (w20.heap.size, 1, .slice p19 n19 c19), (w12.heap.size, 0, .bool b14), (w12.heap.size, 1, .slice p14 n14 c14), (w.heap.size + 1 + 1 + 1, 0, .bool b0), (w.heap.size + 1 + 1 + 1, 1, .slice p0 n0 c0), (w.heap.size + 1 + 1 + 1, 2, .bool true), (w.heap.size + 1 + 1 + 1, 3, .slice p1 n1 c1), (w.heap.size + 1 + 1, 0, .bool false), (w.heap.size + 1 + 1, 1, .slice none 0 0), (w.heap.size + 1 + 1, 2, .bool false), (w.heap.size + 1 + 1, 3, .slice none 0 0), (w.heap.size + 1, 0, .bool true), (w.heap.size + 1, 1, .slice p1 n1 c1), (w.heap.size, 0, .bool b0), (w.heap.size, 1, .slice p0 n0 c0)] [(w20.heap.size, 0), (w20.heap.size, 1), (w12.heap.size, 0), (w12.heap.size, 1), (w.heap.size + 1 + 1, 0), (w.heap.size + 1 + 1, 1), (w.heap.size + 1 + 1, 2), (w.heap.size + 1 + 1, 3)] (w20.alloc (.cells #[.bool b19, .slice p19 n19 c19] 24)) := S.made (w20.heap.size) [.bool b19, .slice p19 n19 c19] 24 (by simp)
  replace Hy := Lib.hid (Hy.out.kp (Kp.of (grown_alloc w20 (.cells #[.bool b19, .slice p19 n19 c19] 24) none)))
  replace N14 := Lib.hid (N14.out.kp (Kp.of (grown_alloc w20 (.cells #[.bool b19, .slice p19 n19 c19] 24) none)))
  replace N19 := Lib.hid (N19.out.kp (Kp.of (grown_alloc w20 (.cells #[.bool b19, .slice p19 n19 c19] 24) none)))
  have sz21 : (w20.alloc (.cells #[.bool b19, .slice p19 n19 c19] 24)).heap.size = w20.heap.size + 1 := by simp
  generalize (w20.alloc (.cells #[.bool b19, .slice p19 n19 c19] 24)) = W21 at *
  obtain ⟨z22, ez22⟩ : ∃ t : Int, y / z14 = t := ⟨_, rfl⟩
  have E22 := Lib.hid ez22
  clear ez22
  go_at_call 118
  with_reducible refine (Exact_g Hy.out N14.out.i (by omega) NE.out DY.out E22.out).mono ?_
  rintro e w23 ⟨b22, p22, n22, c22, rfl, h, g⟩
  clear Hy N14
  replace N19 := Lib.hid (N19.out.kp (Kp.of g))
  have N22 := Lib.hid (h)
  replace S := S.step g
  have lg23 := g.size
  clear g h l0 l1 l2 l3 l4 lS
  have l0 := S.ltc (g := w.heap.size) (o := 0) (x := .bool b0) (by simp)
  have l1 := S.ltc (g := w.heap.size + 1) (o := 0) (x := .bool true) (by simp)
  have l2 := S.ltc (g := w.heap.size + 1 + 1) (o := 0) (x := .bool false) (by simp)
  have l3 := S.ltc (g := w.heap.size + 1 + 1 + 1) (o := 0) (x := .bool b0) (by simp)
  have l4 := S.ltc (g := w12.heap.size) (o := 0) (x := .bool b14) (by simp)
  have l5 := S.ltc (g := w20.heap.size) (o := 0) (x := .bool b19) (by simp)
  have lS := S.size
  obtain ⟨e0, e1, e2, e3, e4, e5, e6, e7, e8, e9, e10, e11, e12, e13, e14, e15, h0, i0, h1, i1, h2, i2, h3, i3, h4, i4, h5, i5, h6, i6, h7, i7, G⟩ := id S
  go_wp2_with fail
  clear e0 e1 e2 e3 e4 e5 e6 e7 e8 e9 e10 e11 e12 e13 e14 e15 h0 i0 h1 i1 h2 i2 h3 i3 h4 i4 h5 i5 h6 i6 h7 i7 G
  have K24 : Kp w23 (w23.setCell ⟨w.heap.size + 1 + 1, 0, none⟩ (.bool b19)) := S.kp (g := w.heap.size + 1 + 1) (o := 0) (x := .bool false) (.bool b19) (by simp) (by simp)
  replace S : St w [(w.heap.size + 1 + 1, 0, .bool b19), (w20.heap.size, 0, .bool b19), (w20.heap.size, 1, .slice p19 n19 c19), (w12.heap.size, 0, .bool b14), (w12.heap.size, 1, .slice p14 n14 c14), (w.heap.size + 1 + 1 + 1, 0, .bool b0), (w.heap.size + 1 + 1 + 1, 1, .slice p0 n0 c0), (w.heap.size + 1 + 1 + 1, 2, .bool true), (w.heap.size + 1 + 1 + 1, 3, .slice p1 n1 c1), (w.heap.size + 1 + 1, 1, .slice none 0 0), (w.heap.size + 1 + 1, 2, .bool false), (w.heap.size + 1 + 1, 3, .slice none 0 0), (w.heap.size + 1, 0, .bool true), (w.heap.size + 1, 1, .slice p1 n1 c1), (w.heap.size, 0, .bool b0), (w.heap.size, 1, .slice p0 n0 c0)] [(w20.heap.size, 0), (w20.heap.size, 1), (w12.heap.size, 0), (w12.heap.size, 1), (w.heap.size + 1 + 1, 0), (w.heap.size + 1 + 1, 1), (w.heap.size + 1 + 1, 2), (w.heap.size + 1 + 1, 3)] (w23.setCell ⟨w.heap.size + 1 + 1, 0, none⟩ (.bool b19)) := S.set (g := w.heap.size + 1 + 1) (o := 0) (.bool b19) (by simp) (by simp <;> omega) (by omega)
  have K25 : Kp (w23.setCell ⟨w.heap.size + 1 + 1, 0, none⟩ (.bool b19)) ((w23.setCell ⟨w.heap.size + 1 + 1, 0, none⟩ (.bool b19)).setCell ⟨w.heap.size + 1 + 1, 1, none⟩ (.slice p19 n19 c19)) := S.kp (g := w.heap.size + 1 + 1) (o := 1) (x := .slice none 0 0) (.slice p19 n19 c19) (by simp) (by simp)
  replace S : St w [(w.heap.size + 1 + 1, 1, .slice p19 n19 c19), (w20.heap.size, 0, .bool b19), (w20.heap.size, 1, .slice p19 n19 c19), (w12.heap.size, 0, .bool b14), (w12.heap.size, 1, .slice p14 n14 c14), (w.heap.size + 1 + 1 + 1, 0, .bool b0), (w.heap.size + 1 + 1 + 1, 1, .slice p0 n0 c0), (w.heap.size + 1 + 1 + 1, 2, .bool true), (w.heap.size + 1 + 1 + 1, 3, .slice p1 n1 c1), (w.heap.size + 1 + 1, 0, .bool b19), (w.heap.size + 1 + 1, 2, .bool false), (w.heap.size + 1 + 1, 3, .slice none 0 0), (w.heap.size + 1, 0, .bool true), (w.heap.size + 1, 1, .slice p1 n1 c1), (w.heap.size, 0, .bool b0), (w.heap.size, 1, .slice p0 n0 c0)] [(w20.heap.size, 0), (w20.heap.size, 1), (w12.heap.size, 0), (w12.heap.size, 1), (w.heap.size + 1 + 1, 0), (w.heap.size + 1 + 1, 1), (w.heap.size + 1 + 1, 2), (w.heap.size + 1 + 1, 3)] ((w23.setCell ⟨w.heap.size + 1 + 1, 0, none⟩ (.bool b19)).setCell ⟨w.heap.size + 1 + 1, 1, none⟩ (.slice p19 n19 c19)) := S.set (g := w.heap.size + 1 + 1) (o := 1) (.slice p19 n19 c19) (by simp) (by simp <;> omega) (by omega)
  have K26 : Kp ((w23.setCell ⟨w.heap.size + 1 + 1, 0, none⟩ (.bool b19)).setCell ⟨w.heap.size + 1 + 1, 1, none⟩ (.slice p19 n19 c19)) (((w23.setCell ⟨w.heap.size + 1 + 1, 0, none⟩ (.bool b19)).setCell ⟨w.heap.size + 1 + 1, 1, none⟩ (.slice p19 n19 c19)).setCell ⟨w.heap.size + 1 + 1, 2, none⟩ (.bool b22)) := S.kp (g := w.heap.size + 1 + 1) (o := 2) (x := .bool false) (.bool b22) (by simp) (by simp)
  replace S : St w [(w.heap.size + 1 + 1, 2, .bool b22), (w20.heap.size, 0, .bool b19), (w20.heap.size, 1, .slice p19 n19 c19), (w12.heap.size, 0, .bool b14), (w12.heap.size, 1, .slice p14 n14 c14), (w.heap.size + 1 + 1 + 1, 0, .bool b0), (w.heap.size + 1 + 1 + 1, 1, .slice p0 n0 c0), (w.heap.size + 1 + 1 + 1, 2, .bool true), (w.heap.size + 1 + 1 + 1, 3, .slice p1 n1 c1), (w.heap.size + 1 + 1, 0, .bool b19), (w.heap.size + 1 + 1, 1, .slice p19 n19 c19), (w.heap.size + 1 + 1, 3, .slice none 0 0), (w.heap.size + 1, 0, .bool true), (w.heap.size + 1, 1, .slice p1 n1 c1), (w.heap.size, 0, .bool b0), (w.heap.size, 1, .slice p0 n0 c0)] [(w20.heap.size, 0), (w20.heap.size, 1), (w12.heap.size, 0), (w12.heap.size, 1), (w.heap.size + 1 + 1, 0), (w.heap.size + 1 + 1, 1), (w.heap.size + 1 + 1, 2), (w.heap.size + 1 + 1, 3)] (((w23.setCell ⟨w.heap.size + 1 + 1, 0, none⟩ (.bool b19)).setCell ⟨w.heap.size + 1 + 1, 1, none⟩ (.slice p19 n19 c19)).setCell ⟨w.heap.size + 1 + 1, 2, none⟩ (.bool b22)) := S.set (g := w.heap.size + 1 + 1) (o := 2) (.bool b22) (by simp) (by simp <;> omega) (by omega)
  have K27 : Kp (((w23.setCell ⟨w.heap.size + 1 + 1, 0, none⟩ (.bool b19)).setCell ⟨w.heap.size + 1 + 1, 1, none⟩ (.slice p19 n19 c19)).setCell ⟨w.heap.size + 1 + 1, 2, none⟩ (.bool b22)) ((((w23.setCell ⟨w.heap.size + 1 + 1, 0, none⟩ (.bool b19)).setCell ⟨w.heap.size + 1 + 1, 1, none⟩ (.slice p19 n19 c19)).setCell ⟨w.heap.size + 1 + 1, 2, none⟩ (.bool b22)).setCell ⟨w.heap.size + 1 + 1, 3, none⟩ (.slice p22 n22 c22)) := S.kp (g := w.heap.size + 1 + 1) (o := 3) (x := .slice none 0 0) (.slice p22 n22 c22) (by simp) (by simp)
  replace S : St w [(w.heap.size + 1 + 1, 3, .slice p22 n22 c22), (w20.heap.size, 0, .bool b19), (w20.heap.size, 1, .slice p19 n19 c19), (w12.heap.size, 0, .bool b14), (w12.heap.size, 1, .slice p14 n14 c14), (w.heap.size + 1 + 1 + 1, 0, .bool b0), (w.heap.size + 1 + 1 + 1, 1, .slice p0 n0 c0), (w.heap.size + 1 + 1 + 1, 2, .bool true), (w.heap.size + 1 + 1 + 1, 3, .slice p1 n1 c1), (w.heap.size + 1 + 1, 0, .bool b19), (w.heap.size + 1 + 1, 1, .slice p19 n19 c19), (w.heap.size + 1 + 1, 2, .bool b22), (w.heap.size + 1, 0, .bool true), (w.heap.size + 1, 1, .slice p1 n1 c1), (w.heap.size, 0, .bool b0), (w.heap.size, 1, .slice p0 n0 c0)] [(w20.heap.size, 0), (w20.heap.size, 1), (w12.heap.size, 0), (w12.heap.size, 1), (w.heap.size + 1 + 1, 0), (w.heap.size + 1 + 1, 1), (w.heap.size + 1 + 1, 2), (w.heap.size + 1 + 1, 3)] ((((w23.setCell ⟨w.heap.size + 1 + 1, 0, none⟩ (.bool b19)).setCell ⟨w.heap.size + 1 + 1, 1, none⟩ (.slice p19 n19 c19)).setCell ⟨w.heap.size + 1 + 1, 2, none⟩ (.bool b22)).setCell ⟨w.heap.size + 1 + 1, 3, none⟩ (.slice p22 n22 c22)) := S.set (g := w.heap.size + 1 + 1) (o := 3) (.slice p22 n22 c22) (by simp) (by simp <;> omega) (by omega)
  replace S : St w [(w20.heap.size, 0, .bool b19), (w20.heap.size, 1, .slice p19 n19 c19), (w12.heap.size, 0, .bool b14), (w12.heap.size, 1, .slice p14 n14 c14), (w.heap.size + 1 + 1 + 1, 0, .bool b0), (w.heap.size + 1 + 1 + 1, 1, .slice p0 n0 c0), (w.heap.size + 1 + 1 + 1, 2, .bool true), (w.heap.size + 1 + 1 + 1, 3, .slice p1 n1 c1), (w.heap.size + 1 + 1, 0, .bool b19), (w.heap.size + 1 + 1, 1, .slice p19 n19 c19), (w.heap.size + 1 + 1, 2, .bool b22), (w.heap.size + 1 + 1, 3, .slice p22 n22 c22), (w.heap.size + 1, 0, .bool true), (w.heap.size + 1, 1, .slice p1 n1 c1), (w.heap.size, 0, .bool b0), (w.heap.size, 1, .slice p0 n0 c0)] [(w20.heap.size, 0), (w20.heap.size, 1), (w12.heap.size, 0), (w12.heap.size, 1), (w.heap.size + 1 + 1, 0), (w.heap.size + 1 + 1, 1), (w.heap.size + 1 + 1, 2), (w.heap.size + 1 + 1, 3)] ((((w23.setCell ⟨w.heap.size + 1 + 1, 0, none⟩ (.bool b19)).setCell ⟨w.heap.size + 1 + 1, 1, none⟩ (.slice p19 n19 c19)).setCell ⟨w.heap.size + 1 + 1, 2, none⟩ (.bool b22)).setCell ⟨w.heap.size + 1 + 1, 3, none⟩ (.slice p22 n22 c22)) := S.sub (by simp) (by simp)
  replace S : St w [(w23.heap.size, 0, .bool b22), (w23.heap.size, 1, .slice p22 n22 c22), (w20.heap.size, 0, .bool b19), (w20.heap.size, 1, .slice p19 n19 c19), (w12.heap.size, 0, .bool b14), (w12.heap.size, 1, .slice p14 n14 c14), (w.heap.size + 1 + 1 + 1, 0, .bool b0), (w.heap.size + 1 + 1 + 1, 1, .slice p0 n0 c0), (w.heap.size + 1 + 1 + 1, 2, .bool true), (w.heap.size + 1 + 1 + 1, 3, .slice p1 n1 c1), (w.heap.size + 1 + 1, 0, .bool b19), (w.heap.size + 1 + 1, 1, .slice p19 n19 c19), (w.heap.size + 1 + 1, 2, .bool b22), (w.heap.size + 1 + 1, 3, .slice p22 n22 c22), (w.heap.size + 1, 0, .bool true), (w.heap.size + 1, 1, .slice p1 n1 c1), (w.heap.size, 0, .bool b0), (w.heap.size, 1, .slice p0 n0 c0)] [(w23.heap.size, 0), (w23.heap.size, 1), (w20.heap.size, 0), (w20.heap.size, 1), (w12.heap.size, 0), (w12.heap.size, 1), (w.heap.size + 1 + 1, 0), (w.heap.size + 1 + 1, 1), (w.heap.size + 1 + 1, 2), (w.heap.size + 1 + 1, 3)] (((((w23.setCell ⟨w.heap.size + 1 + 1, 0, none⟩ (.bool b19)).setCell ⟨w.heap.size + 1 + 1, 1, none⟩ (.slice p19 n19 c19)).setCell ⟨w.heap.size + 1 + 1, 2, none⟩ (.bool b22)).setCell ⟨w.heap.size + 1 + 1, 3, none⟩ (.slice p22 n22 c22)).alloc (.cells #[.bool b22, .slice p22 n22 c22] 24)) := S.made (w23.heap.size) [.bool b22, .slice p22 n22 c22] 24 (by simp)
  replace N19 := Lib.hid (N19.out.kp ((((K24.trans K25).trans K26).trans K27).trans (Kp.of (grown_alloc (((((w23.setCell ⟨w.heap.size + 1 + 1, 0, none⟩ (.bool b19)).setCell ⟨w.heap.size + 1 + 1, 1, none⟩ (.slice p19 n19 c19)).setCell ⟨w.heap.size + 1 + 1, 2, none⟩ (.bool b22)).setCell ⟨w.heap.size + 1 + 1, 3, none⟩ (.slice p22 n22 c22))) (.cells #[.bool b22, .slice p22 n22 c22] 24) none))))
  replace N22 := Lib.hid (N22.out.kp ((((K24.trans K25).trans K26).trans K27).trans (Kp.of (grown_alloc (((((w23.setCell ⟨w.heap.size + 1 + 1, 0, none⟩ (.bool b19)).setCell ⟨w.heap.size + 1 + 1, 1, none⟩ (.slice p19 n19 c19)).setCell ⟨w.heap.size + 1 + 1, 2, none⟩ (.bool b22)).setCell ⟨w.heap.size + 1 + 1, 3, none⟩ (.slice p22 n22 c22))) (.cells #[.bool b22, .slice p22 n22 c22] 24) none))))
  clear K24 K25 K26 K27
  have sz28 : (((((w23.setCell ⟨w.heap.size + 1 + 1, 0, none⟩ (.bool b19)).setCell ⟨w.heap.size + 1 + 1, 1, none⟩ (.slice p19 n19 c19)).setCell ⟨w.heap.size + 1 + 1, 2, none⟩ (.bool b22)).setCell ⟨w.heap.size + 1 + 1, 3, none⟩ (.slice p22 n22 c22)).alloc (.cells #[.bool b22, .slice p22 n22 c22] 24)).heap.size = w23.heap.size + 1 := by simp
  generalize (((((w23.setCell ⟨w.heap.size + 1 + 1, 0, none⟩ (.bool b19)).setCell ⟨w.heap.size + 1 + 1, 1, none⟩ (.slice p19 n19 c19)).setCell ⟨w.heap.size + 1 + 1, 2, none⟩ (.bool b22)).setCell ⟨w.heap.size + 1 + 1, 3, none⟩ (.slice p22 n22 c22)).alloc (.cells #[.bool b22, .slice p22 n22 c22] 24)) = W28 at *
  refine post_Q Tryz.results84 rfl rfl (S.cell (g := w.heap.size + 1 + 1) (o := 0) (x := .bool b19) (by simp)) (S.cell (g := w.heap.size + 1 + 1) (o := 1) (x := .slice p19 n19 c19) (by simp)) (S.cell (g := w.heap.size + 1 + 1) (o := 2) (x := .bool b22) (by simp)) (S.cell (g := w.heap.size + 1 + 1) (o := 3) (x := .slice p22 n22 c22) (by simp)) ⟨_, _, _, _, _, _, _, _, rfl, ⟨_, _, _, _, _, _, _, _, rfl, N19.out.eq (by rw [← E19.out, BY.out, num_by (by omega)]), N22.out.eq (by rw [← E22.out, BY.out, den_by (by omega)])⟩, S.all⟩

set_option maxHeartbeats 4000000 in
set_option maxRecDepth 100000 in
theorem Lowest_pos {b0 : Bool} {p0 p1 : Option Addr} {n0 c0 n1 c1 : Nat} {z y : Int} {k : Nat} {w : World} (hz : IntV w (.agg #[.bool b0, .slice p0 n0 c0]) z k) (hy : IntV w (.agg #[.bool false, .slice p1 n1 c1]) y k) (hk : k ≤ 400000) (h0 : 0 < y) :
    Calls Tryz.prog 84 #[.agg #[.bool b0, .slice p0 n0 c0], .agg #[.bool false, .slice p1 n1 c1]] w (GotQ w (Rat.divInt z y) k) := by
  have Hz := Lib.hid hz
  have Hy := Lib.hid hy
  clear hz hy
  have S : St w [] [] w := St.start w
  go_enter Tryz.func84, Tryz.ntmps84
  have G := S
  go_wp2_with fail
  clear G
  replace S : St w [(w.heap.size, 0, .bool b0), (w.heap.size, 1, .slice p0 n0 c0)] [] (w.alloc (.cells #[.bool b0, .slice p0 n0 c0] 24)) := S.box (w.heap.size) [.bool b0, .slice p0 n0 c0] 24 (by simp)
  replace S : St w [(w.heap.size + 1, 0, .bool false), (w.heap.size + 1, 1, .slice p1 n1 c1), (w.heap.size, 0, .bool b0), (w.heap.size, 1, .slice p0 n0 c0)] [] ((w.alloc (.cells #[.bool b0, .slice p0 n0 c0] 24)).alloc (.cells #[.bool false, .slice p1 n1 c1] 24)) := S.box (w.heap.size + 1) [.bool false, .slice p1 n1 c1] 24 (by simp)
  replace S : St w [(w.heap.size + 1 + 1, 0, .bool false), (w.heap.size + 1 + 1, 1, .slice none 0 0), (w.heap.size + 1 + 1, 2, .bool false), (w.heap.size + 1 + 1, 3, .slice none 0 0), (w.heap.size + 1, 0, .bool false), (w.heap.size + 1, 1, .slice p1 n1 c1), (w.heap.size, 0, .bool b0), (w.heap.size, 1, .slice p0 n0 c0)] [(w.heap.size + 1 + 1, 0), (w.heap.size + 1 + 1, 1), (w.heap.size + 1 + 1, 2), (w.heap.size + 1 + 1, 3)] (((w.alloc (.cells #[.bool b0, .slice p0 n0 c0] 24)).alloc (.cells #[.bool false, .slice p1 n1 c1] 24)).alloc (.cells #[.bool false, .slice none 0 0, .bool false, .slice none 0 0] 46)) := S.made (w.heap.size + 1 + 1) [.bool false, .slice none 0 0, .bool false, .slice none 0 0] 46 (by simp)
  replace S : St w [(w.heap.size + 1 + 1 + 1, 0, .bool b0), (w.heap.size + 1 + 1 + 1, 1, .slice p0 n0 c0), (w.heap.size + 1 + 1 + 1, 2, .bool false), (w.heap.size + 1 + 1 + 1, 3, .slice p1 n1 c1), (w.heap.size + 1 + 1, 0, .bool false), (w.heap.size + 1 + 1, 1, .slice none 0 0), (w.heap.size + 1 + 1, 2, .bool false), (w.heap.size + 1 + 1, 3, .slice none 0 0), (w.heap.size + 1, 0, .bool false), (w.heap.size + 1, 1, .slice p1 n1 c1), (w.heap.size, 0, .bool b0), (w.heap.size, 1, .slice p0 n0 c0)] [(w.heap.size + 1 + 1, 0), (w.heap.size + 1 + 1, 1), (w.heap.size + 1 + 1, 2), (w.heap.size + 1 + 1, 3)] ((((w.alloc (.cells #[.bool b0, .slice p0 n0 c0] 24)).alloc (.cells #[.bool false, .slice p1 n1 c1] 24)).alloc (.cells #[.bool false, .slice none 0 0, .bool false, .slice none 0 0] 46)).alloc (.cells #[.bool b0, .slice p0 n0 c0, .bool false, .slice p1 n1 c1] 24)) := S.box (w.heap.size + 1 + 1 + 1) [.bool b0, .slice p0 n0 c0, .bool false, .slice p1 n1 c1] 24 (by simp)
  replace Hz := Lib.hid (Hz.out.kp ((((Kp.of (grown_alloc w (.cells #[.bool b0, .slice p0 n0 c0] 24) none)).trans (Kp.of (grown_alloc ((w.alloc (.cells #[.bool b0, .slice p0 n0 c0] 24))) (.cells #[.bool false, .slice p1 n1 c1] 24) none))).trans (Kp.of (grown_alloc (((w.alloc (.cells #[.bool b0, .slice p0 n0 c0] 24)).alloc (.cells #[.bool false, .slice p1 n1 c1] 24))) (.cells #[.bool false, .slice none 0 0, .bool false, .slice none 0 0] 46) none))).trans (Kp.of (grown_alloc ((((w.alloc (.cells #[.bool b0, .slice p0 n0 c0] 24)).alloc (.cells #[.bool false, .slice p1 n1 c1] 24)).alloc (.cells #[.bool false, .slice none 0 0, .bool false, .slice none 0 0] 46))) (.cells #[.bool b0, .slice p0 n0 c0, .bool false, .slice p1 n1 c1] 24) none))))
  replace Hy := Lib.hid (Hy.out.kp ((((Kp.of (grown_alloc w (.cells #[.bool b0, .slice p0 n0 c0] 24) none)).trans (Kp.of (grown_alloc ((w.alloc (.cells #[.bool b0, .slice p0 n0 c0] 24))) (.cells #[.bool false, .slice p1 n1 c1] 24) none))).trans (Kp.of (grown_alloc (((w.alloc (.cells #[.bool b0, .slice p0 n0 c0] 24)).alloc (.cells #[.bool false, .slice p1 n1 c1] 24))) (.cells #[.bool false, .slice none 0 0, .bool false, .slice none 0 0] 46) none))).trans (Kp.of (grown_alloc ((((w.alloc (.cells #[.bool b0, .slice p0 n0 c0] 24)).alloc (.cells #[.bool false, .slice p1 n1 c1] 24)).alloc (.cells #[.bool false, .slice none 0 0, .bool false, .slice none 0 0] 46))) (.cells #[.bool b0, .slice p0 n0 c0, .bool false, .slice p1 n1 c1] 24) none))))
  have sz10 : ((((w.alloc (.cells #[.bool b0, .slice p0 n0 c0] 24)).alloc (.cells #[.bool false, .slice p1 n1 c1] 24)).alloc (.cells #[.bool false, .slice none 0 0, .bool false, .slice none 0 0] 46)).alloc (.cells #[.bool b0, .slice p0 n0 c0, .bool false, .slice p1 n1 c1] 24)).heap.size = w.heap.size + 4 := by simp
  generalize ((((w.alloc (.cells #[.bool b0, .slice p0 n0 c0] 24)).alloc (.cells #[.bool false, .slice p1 n1 c1] 24)).alloc (.cells #[.bool false, .slice none 0 0, .bool false, .slice none 0 0] 46)).alloc (.cells #[.bool b0, .slice p0 n0 c0, .bool false, .slice p1 n1 c1] 24)) = W10 at *
  obtain ⟨z11, ez11⟩ : ∃ t : Int, (Int.gcd z y : Int) = t := ⟨_, rfl⟩
  have E11 := Lib.hid ez11
  clear ez11
  go_at_call 68
  with_reducible refine (Gcd_g (k) Hz.out Hy.out (by omega) (by omega) (by omega) E11.out (S.cell (by simp)) (S.cell (by simp)) (S.cell (by simp)) (S.cell (by simp))).mono ?_
  rintro e w12 ⟨b11, p11, n11, c11, rfl, h, g⟩
  replace Hz := Lib.hid (Hz.out.kp (Kp.of g))
  replace Hy := Lib.hid (Hy.out.kp (Kp.of g))
  have N11 := Lib.hid (h)
  replace S := S.step g
  have lg12 := g.size
  clear g h
  have l0 := S.ltc (g := w.heap.size) (o := 0) (x := .bool b0) (by simp)
  have l1 := S.ltc (g := w.heap.size + 1) (o := 0) (x := .bool false) (by simp)
  have l2 := S.ltc (g := w.heap.size + 1 + 1) (o := 0) (x := .bool false) (by simp)
  have l3 := S.ltc (g := w.heap.size + 1 + 1 + 1) (o := 0) (x := .bool b0) (by simp)
  have lS := S.size
  obtain ⟨e0, e1, e2, e3, e4, e5, e6, e7, e8, e9, e10, e11, h0, i0, h1, i1, h2, i2, h3, i3, G⟩ := id S
  go_wp2_with fail
  clear e0 e1 e2 e3 e4 e5 e6 e7 e8 e9 e10 e11 h0 i0 h1 i1 h2 i2 h3 i3 G
  replace S : St w [(w12.heap.size, 0, .bool b11), (w12.heap.size, 1, .slice p11 n11 c11), (w.heap.size + 1 + 1 + 1, 0, .bool b0), (w.heap.size + 1 + 1 + 1, 1, .slice p0 n0 c0), (w.heap.size + 1 + 1 + 1, 2, .bool false), (w.heap.size + 1 + 1 + 1, 3, .slice p1 n1 c1), (w.heap.size + 1 + 1, 0, .bool false), (w.heap.size + 1 + 1, 1, .slice none 0 0), (w.heap.size + 1 + 1, 2, .bool false), (w.heap.size + 1 + 1, 3, .slice none 0 0), (w.heap.size + 1, 0, .bool false), (w.heap.size + 1, 1, .slice p1 n1 c1), (w.heap.size, 0, .bool b0), (w.heap.size, 1, .slice p0 n0 c0)] [(w12.heap.size, 0), (w12.heap.size, 1), (w.heap.size + 1 + 1, 0), (w.heap.size + 1 + 1, 1), (w.heap.size + 1 + 1, 2), (w.heap.size + 1 + 1, 3)] (w12.alloc (.cells #[.bool b11, .slice p11 n11 c11] 24)) := S.made (w12.heap.size) [.bool b11, .slice p11 n11 c11] 24 (by simp)
  replace Hz := Lib.hid (Hz.out.kp (Kp.of (grown_alloc w12 (.cells #[.bool b11, .slice p11 n11 c11] 24) none)))
  replace Hy := Lib.hid (Hy.out.kp (Kp.of (grown_alloc w12 (.cells #[.bool b11, .slice p11 n11 c11] 24) none)))
  replace N11 := Lib.hid (N11.out.kp (Kp.of (grown_alloc w12 (.cells #[.bool b11, .slice p11 n11 c11] 24) none)))
  have sz13 : (w12.alloc (.cells #[.bool b11, .slice p11 n11 c11] 24)).heap.size = w12.heap.size + 1 := by simp
  generalize (w12.alloc (.cells #[.bool b11, .slice p11 n11 c11] 24)) = W13 at *
  have BY := Lib.hid (show z11 = byOf z y by rw [byOf, if_neg (by omega), E11.out])
  have NE := Lib.hid (BY.out ▸ byOf_ne (n := z) (d := y) (by omega))
  have DZ := Lib.hid (BY.out ▸ byOf_dvd_n z y)
  have DY := Lib.hid (BY.out ▸ byOf_dvd_d z y)
  obtain ⟨z14, ez14⟩ : ∃ t : Int, z / z11 = t := ⟨_, rfl⟩
  have E14 := Lib.hid ez14
  clear ez14
  go_at_call 118
  with_reducible refine (Exact_g Hz.out N11.out.i (by omega) NE.out DZ.out E14.out).mono ?_
  rintro e w15 ⟨b14, p14, n14, c14, rfl, h, g⟩
  clear Hz
  replace Hy := Lib.hid (Hy.out.kp (Kp.of g))
  replace N11 := Lib.hid (N11.out.kp (Kp.of g))
  have N14 := Lib.hid (h)
  replace S := S.step g
  have lg15 := g.size
  clear g h l0 l1 l2 l3 lS
  have l0 := S.ltc (g := w.heap.size) (o := 0) (x := .bool b0) (by simp)
  have l1 := S.ltc (g := w.heap.size + 1) (o := 0) (x := .bool false) (by simp)
  have l2 := S.ltc (g := w.heap.size + 1 + 1) (o := 0) (x := .bool false) (by simp)
  have l3 := S.ltc (g := w.heap.size + 1 + 1 + 1) (o := 0) (x := .bool b0) (by simp)
  have l4 := S.ltc (g := w12.heap.size) (o := 0) (x := .bool b11) (by simp)
  have lS := S.size
  obtain ⟨e0, e1, e2, e3, e4, e5, e6, e7, e8, e9, e10, e11, e12, e13, h0, i0, h1, i1, h2, i2, h3, i3, h4, i4, h5, i5, G⟩ := id S
  go_wp2_with fail
  clear e0 e1 e2 e3 e4 e5 e6 e7 e8 e9 e10 e11 e12 e13 h0 i0 h1 i1 h2 i2 h3 i3 h4 i4 h5 i5 G
  replace S : St w [(w15.heap.size, 0, .bool b14), (w15.heap.size, 1, .slice p14 n14 c14), (w12.heap.size, 0, .bool b11), (w12.heap.size, 1, .slice p11 n11 c11), (w.heap.size + 1 + 1 + 1, 0, .bool b0), (w.heap.size + 1 + 1 + 1, 1, .slice p0 n0 c0), (w.heap.size + 1 + 1 + 1, 2, .bool false), (w.heap.size + 1 + 1 + 1, 3, .slice p1 n1 c1), (w.heap.size + 1 + 1, 0, .bool false), (w.heap.size + 1 + 1, 1, .slice none 0 0), (w.heap.size + 1 + 1, 2, .bool false), (w.heap.size + 1 + 1, 3, .slice none 0 0), (w.heap.size + 1, 0, .bool false), (w.heap.size + 1, 1, .slice p1 n1 c1), (w.heap.size, 0, .bool b0), (w.heap.size, 1, .slice p0 n0 c0)] [(w15.heap.size, 0), (w15.heap.size, 1), (w12.heap.size, 0), (w12.heap.size, 1), (w.heap.size + 1 + 1, 0), (w.heap.size + 1 + 1, 1), (w.heap.size + 1 + 1, 2), (w.heap.size + 1 + 1, 3)] (w15.alloc (.cells #[.bool b14, .slice p14 n14 c14] 24)) := S.made (w15.heap.size) [.bool b14, .slice p14 n14 c14] 24 (by simp)
  replace Hy := Lib.hid (Hy.out.kp (Kp.of (grown_alloc w15 (.cells #[.bool b14, .slice p14 n14 c14] 24) none)))
  replace N11 := Lib.hid (N11.out.kp (Kp.of (grown_alloc w15 (.cells #[.bool b14, .slice p14 n14 c14] 24) none)))
  replace N14 := Lib.hid (N14.out.kp (Kp.of (grown_alloc w15 (.cells #[.bool b14, .slice p14 n14 c14] 24) none)))
  have sz16 : (w15.alloc (.cells #[.bool b14, .slice p14 n14 c14] 24)).heap.size = w15.heap.size + 1 := by simp
  generalize (w15.alloc (.cells #[.bool b14, .slice p14 n14 c14] 24)) = W16 at *
  obtain ⟨z17, ez17⟩ : ∃ t : Int, y / z11 = t := ⟨_, rfl⟩
  have E17 := Lib.hid ez17
  clear ez17
  go_at_call 118
  with_reducible refine (Exact_g Hy.out N11.out.i (by omega) NE.out DY.out E17.out).mono ?_
  rintro e w18 ⟨b17, p17, n17, c17, rfl, h, g⟩
  clear Hy N11
  replace N14 := Lib.hid (N14.out.kp (Kp.of g))
  have N17 := Lib.hid (h)
  replace S := S.step g
  have lg18 := g.size
  clear g h l0 l1 l2 l3 l4 lS
  have l0 := S.ltc (g := w.heap.size) (o := 0) (x := .bool b0) (by simp)
  have l1 := S.ltc (g := w.heap.size + 1) (o := 0) (x := .bool false) (by simp)
  have l2 := S.ltc (g := w.heap.size + 1 + 1) (o := 0) (x := .bool false) (by simp)
  have l3 := S.ltc (g := w.heap.size + 1 + 1 + 1) (o := 0) (x := .bool b0) (by simp)
  have l4 := S.ltc (g := w12.heap.size) (o := 0) (x := .bool b11) (by simp)
  have l5 := S.ltc (g := w15.heap.size) (o := 0) (x := .bool b14) (by simp)
  have lS := S.size
  obtain ⟨e0, e1, e2, e3, e4, e5, e6, e7, e8, e9, e10, e11, e12, e13, e14, e15, h0, i0, h1, i1, h2, i2, h3, i3, h4, i4, h5, i5, h6, i6, h7, i7, G⟩ := id S
  go_wp2_with fail
  clear e0 e1 e2 e3 e4 e5 e6 e7 e8 e9 e10 e11 e12 e13 e14 e15 h0 i0 h1 i1 h2 i2 h3 i3 h4 i4 h5 i5 h6 i6 h7 i7 G
  have K19 : Kp w18 (w18.setCell ⟨w.heap.size + 1 + 1, 0, none⟩ (.bool b14)) := S.kp (g := w.heap.size + 1 + 1) (o := 0) (x := .bool false) (.bool b14) (by simp) (by simp)
  replace S : St w [(w.heap.size + 1 + 1, 0, .bool b14), (w15.heap.size, 0, .bool b14), (w15.heap.size, 1, .slice p14 n14 c14), (w12.heap.size, 0, .bool b11), (w12.heap.size, 1, .slice p11 n11 c11), (w.heap.size + 1 + 1 + 1, 0, .bool b0), (w.heap.size + 1 + 1 + 1, 1, .slice p0 n0 c0), (w.heap.size + 1 + 1 + 1, 2, .bool false), (w.heap.size + 1 + 1 + 1, 3, .slice p1 n1 c1), (w.heap.size + 1 + 1, 1, .slice none 0 0), (w.heap.size + 1 + 1, 2, .bool false), (w.heap.size + 1 + 1, 3, .slice none 0 0), (w.heap.size + 1, 0, .bool false), (w.heap.size + 1, 1, .slice p1 n1 c1), (w.heap.size, 0, .bool b0), (w.heap.size, 1, .slice p0 n0 c0)] [(w15.heap.size, 0), (w15.heap.size, 1), (w12.heap.size, 0), (w12.heap.size, 1), (w.heap.size + 1 + 1, 0), (w.heap.size + 1 + 1, 1), (w.heap.size + 1 + 1, 2), (w.heap.size + 1 + 1, 3)] (w18.setCell ⟨w.heap.size + 1 + 1, 0, none⟩ (.bool b14)) := S.set (g := w.heap.size + 1 + 1) (o := 0) (.bool b14) (by simp) (by simp <;> omega) (by omega)
  have K20 : Kp (w18.setCell ⟨w.heap.size + 1 + 1, 0, none⟩ (.bool b14)) ((w18.setCell ⟨w.heap.size + 1 + 1, 0, none⟩ (.bool b14)).setCell ⟨w.heap.size + 1 + 1, 1, none⟩ (.slice p14 n14 c14)) := S.kp (g := w.heap.size + 1 + 1) (o := 1) (x := .slice none 0 0) (.slice p14 n14 c14) (by simp) (by simp)
  replace S : St w [(w.heap.size + 1 + 1, 1, .slice p14 n14 c14), (w15.heap.size, 0, .bool b14), (w15.heap.size, 1, .slice p14 n14 c14), (w12.heap.size, 0, .bool b11), (w12.heap.size, 1, .slice p11 n11 c11), (w.heap.size + 1 + 1 + 1, 0, .bool b0), (w.heap.size + 1 + 1 + 1, 1, .slice p0 n0 c0), (w.heap.size + 1 + 1 + 1, 2, .bool false), (w.heap.size + 1 + 1 + 1, 3, .slice p1 n1 c1), (w.heap.size + 1 + 1, 0, .bool b14), (w.heap.size + 1 + 1, 2, .bool false), (w.heap.size + 1 + 1, 3, .slice none 0 0), (w.heap.size + 1, 0, .bool false), (w.heap.size + 1, 1, .slice p1 n1 c1), (w.heap.size, 0, .bool b0), (w.heap.size, 1, .slice p0 n0 c0)] [(w15.heap.size, 0), (w15.heap.size, 1), (w12.heap.size, 0), (w12.heap.size, 1), (w.heap.size + 1 + 1, 0), (w.heap.size + 1 + 1, 1), (w.heap.size + 1 + 1, 2), (w.heap.size + 1 + 1, 3)] ((w18.setCell ⟨w.heap.size + 1 + 1, 0, none⟩ (.bool b14)).setCell ⟨w.heap.size + 1 + 1, 1, none⟩ (.slice p14 n14 c14)) := S.set (g := w.heap.size + 1 + 1) (o := 1) (.slice p14 n14 c14) (by simp) (by simp <;> omega) (by omega)
  have K21 : Kp ((w18.setCell ⟨w.heap.size + 1 + 1, 0, none⟩ (.bool b14)).setCell ⟨w.heap.size + 1 + 1, 1, none⟩ (.slice p14 n14 c14)) (((w18.setCell ⟨w.heap.size + 1 + 1, 0, none⟩ (.bool b14)).setCell ⟨w.heap.size + 1 + 1, 1, none⟩ (.slice p14 n14 c14)).setCell ⟨w.heap.size + 1 + 1, 2, none⟩ (.bool b17)) := S.kp (g := w.heap.size + 1 + 1) (o := 2) (x := .bool false) (.bool b17) (by simp) (by simp)
  replace S : St w [(w.heap.size + 1 + 1, 2, .bool b17), (w15.heap.size, 0, .bool b14), (w15.heap.size, 1, .slice p14 n14 c14), (w12.heap.size, 0, .bool b11), (w12.heap.size, 1, .slice p11 n11 c11), (w.heap.size + 1 + 1 + 1, 0, .bool b0), (w.heap.size + 1 + 1 + 1, 1, .slice p0 n0 c0), (w.heap.size + 1 + 1 + 1, 2, .bool false), (w.heap.size + 1 + 1 + 1, 3, .slice p1 n1 c1), (w.heap.size + 1 + 1, 0, .bool b14), (w.heap.size + 1 + 1, 1, .slice p14 n14 c14), (w.heap.size + 1 + 1, 3, .slice none 0 0), (w.heap.size + 1, 0, .bool false), (w.heap.size + 1, 1, .slice p1 n1 c1), (w.heap.size, 0, .bool b0), (w.heap.size, 1, .slice p0 n0 c0)] [(w15.heap.size, 0), (w15.heap.size, 1), (w12.heap.size, 0), (w12.heap.size, 1), (w.heap.size + 1 + 1, 0), (w.heap.size + 1 + 1, 1), (w.heap.size + 1 + 1, 2), (w.heap.size + 1 + 1, 3)] (((w18.setCell ⟨w.heap.size + 1 + 1, 0, none⟩ (.bool b14)).setCell ⟨w.heap.size + 1 + 1, 1, none⟩ (.slice p14 n14 c14)).setCell ⟨w.heap.size + 1 + 1, 2, none⟩ (.bool b17)) := S.set (g := w.heap.size + 1 + 1) (o := 2) (.bool b17) (by simp) (by simp <;> omega) (by omega)
  have K22 : Kp (((w18.setCell ⟨w.heap.size + 1 + 1, 0, none⟩ (.bool b14)).setCell ⟨w.heap.size + 1 + 1, 1, none⟩ (.slice p14 n14 c14)).setCell ⟨w.heap.size + 1 + 1, 2, none⟩ (.bool b17)) ((((w18.setCell ⟨w.heap.size + 1 + 1, 0, none⟩ (.bool b14)).setCell ⟨w.heap.size + 1 + 1, 1, none⟩ (.slice p14 n14 c14)).setCell ⟨w.heap.size + 1 + 1, 2, none⟩ (.bool b17)).setCell ⟨w.heap.size + 1 + 1, 3, none⟩ (.slice p17 n17 c17)) := S.kp (g := w.heap.size + 1 + 1) (o := 3) (x := .slice none 0 0) (.slice p17 n17 c17) (by simp) (by simp)
  replace S : St w [(w.heap.size + 1 + 1, 3, .slice p17 n17 c17), (w15.heap.size, 0, .bool b14), (w15.heap.size, 1, .slice p14 n14 c14), (w12.heap.size, 0, .bool b11), (w12.heap.size, 1, .slice p11 n11 c11), (w.heap.size + 1 + 1 + 1, 0, .bool b0), (w.heap.size + 1 + 1 + 1, 1, .slice p0 n0 c0), (w.heap.size + 1 + 1 + 1, 2, .bool false), (w.heap.size + 1 + 1 + 1, 3, .slice p1 n1 c1), (w.heap.size + 1 + 1, 0, .bool b14), (w.heap.size + 1 + 1, 1, .slice p14 n14 c14), (w.heap.size + 1 + 1, 2, .bool b17), (w.heap.size + 1, 0, .bool false), (w.heap.size + 1, 1, .slice p1 n1 c1), (w.heap.size, 0, .bool b0), (w.heap.size, 1, .slice p0 n0 c0)] [(w15.heap.size, 0), (w15.heap.size, 1), (w12.heap.size, 0), (w12.heap.size, 1), (w.heap.size + 1 + 1, 0), (w.heap.size + 1 + 1, 1), (w.heap.size + 1 + 1, 2), (w.heap.size + 1 + 1, 3)] ((((w18.setCell ⟨w.heap.size + 1 + 1, 0, none⟩ (.bool b14)).setCell ⟨w.heap.size + 1 + 1, 1, none⟩ (.slice p14 n14 c14)).setCell ⟨w.heap.size + 1 + 1, 2, none⟩ (.bool b17)).setCell ⟨w.heap.size + 1 + 1, 3, none⟩ (.slice p17 n17 c17)) := S.set (g := w.heap.size + 1 + 1) (o := 3) (.slice p17 n17 c17) (by simp) (by simp <;> omega) (by omega)
  replace S : St w [(w15.heap.size, 0, .bool b14), (w15.heap.size, 1, .slice p14 n14 c14), (w12.heap.size, 0, .bool b11), (w12.heap.size, 1, .slice p11 n11 c11), (w.heap.size + 1 + 1 + 1, 0, .bool b0), (w.heap.size + 1 + 1 + 1, 1, .slice p0 n0 c0), (w.heap.size + 1 + 1 + 1, 2, .bool false), (w.heap.size + 1 + 1 + 1, 3, .slice p1 n1 c1), (w.heap.size + 1 + 1, 0, .bool b14), (w.heap.size + 1 + 1, 1, .slice p14 n14 c14), (w.heap.size + 1 + 1, 2, .bool b17), (w.heap.size + 1 + 1, 3, .slice p17 n17 c17), (w.heap.size + 1, 0, .bool false), (w.heap.size + 1, 1, .slice p1 n1 c1), (w.heap.size, 0, .bool b0), (w.heap.size, 1, .slice p0 n0 c0)] [(w15.heap.size, 0), (w15.heap.size, 1), (w12.heap.size, 0), (w12.heap.size, 1), (w.heap.size + 1 + 1, 0), (w.heap.size + 1 + 1, 1), (w.heap.size + 1 + 1, 2), (w.heap.size + 1 + 1, 3)] ((((w18.setCell ⟨w.heap.size + 1 + 1, 0, none⟩ (.bool b14)).setCell ⟨w.heap.size + 1 + 1, 1, none⟩ (.slice p14 n14 c14)).setCell ⟨w.heap.size + 1 + 1, 2, none⟩ (.bool b17)).setCell ⟨w.heap.size + 1 + 1, 3, none⟩ (.slice p17 n17 c17)) := S.sub (by simp) (by simp)
  replace S : St w [(w18.heap.size, 0, .bool b17), (w18.heap.size, 1, .slice p17 n17 c17), (w15.heap.size, 0, .bool b14), (w15.heap.size, 1, .slice p14 n14 c14), (w12.heap.size, 0, .bool b11), (w12.heap.size, 1, .slice p11 n11 c11), (w.heap.size + 1 + 1 + 1, 0, .bool b0), (w.heap.size + 1 + 1 + 1, 1, .slice p0 n0 c0), (w.heap.size + 1 + 1 + 1, 2, .bool false), (w.heap.size + 1 + 1 + 1, 3, .slice p1 n1 c1), (w.heap.size + 1 + 1, 0, .bool b14), (w.heap.size + 1 + 1, 1, .slice p14 n14 c14), (w.heap.size + 1 + 1, 2, .bool b17), (w.heap.size + 1 + 1, 3, .slice p17 n17 c17), (w.heap.size + 1, 0, .bool false), (w.heap.size + 1, 1, .slice p1 n1 c1), (w.heap.size, 0, .bool b0), (w.heap.size, 1, .slice p0 n0 c0)] [(w18.heap.size, 0), (w18.heap.size, 1), (w15.heap.size, 0), (w15.heap.size, 1), (w12.heap.size, 0), (w12.heap.size, 1), (w.heap.size + 1 + 1, 0), (w.heap.size + 1 + 1, 1), (w.heap.size + 1 + 1, 2), (w.heap.size + 1 + 1, 3)] (((((w18.setCell ⟨w.heap.size + 1 + 1, 0, none⟩ (.bool b14)).setCell ⟨w.heap.size + 1 + 1, 1, none⟩ (.slice p14 n14 c14)).setCell ⟨w.heap.size + 1 + 1, 2, none⟩ (.bool b17)).setCell ⟨w.heap.size + 1 + 1, 3, none⟩ (.slice p17 n17 c17)).alloc (.cells #[.bool b17, .slice p17 n17 c17] 24)) := S.made (w18.heap.size) [.bool b17, .slice p17 n17 c17] 24 (by simp)
  replace N14 := Lib.hid (N14.out.kp ((((K19.trans K20).trans K21).trans K22).trans (Kp.of (grown_alloc (((((w18.setCell ⟨w.heap.size + 1 + 1, 0, none⟩ (.bool b14)).setCell ⟨w.heap.size + 1 + 1, 1, none⟩ (.slice p14 n14 c14)).setCell ⟨w.heap.size + 1 + 1, 2, none⟩ (.bool b17)).setCell ⟨w.heap.size + 1 + 1, 3, none⟩ (.slice p17 n17 c17))) (.cells #[.bool b17, .slice p17 n17 c17] 24) none))))
  replace N17 := Lib.hid (N17.out.kp ((((K19.trans K20).trans K21).trans K22).trans (Kp.of (grown_alloc (((((w18.setCell ⟨w.heap.size + 1 + 1, 0, none⟩ (.bool b14)).setCell ⟨w.heap.size + 1 + 1, 1, none⟩ (.slice p14 n14 c14)).setCell ⟨w.heap.size + 1 + 1, 2, none⟩ (.bool b17)).setCell ⟨w.heap.size + 1 + 1, 3, none⟩ (.slice p17 n17 c17))) (.cells #[.bool b17, .slice p17 n17 c17] 24) none))))
  clear K19 K20 K21 K22
  have sz23 : (((((w18.setCell ⟨w.heap.size + 1 + 1, 0, none⟩ (.bool b14)).setCell ⟨w.heap.size + 1 + 1, 1, none⟩ (.slice p14 n14 c14)).setCell ⟨w.heap.size + 1 + 1, 2, none⟩ (.bool b17)).setCell ⟨w.heap.size + 1 + 1, 3, none⟩ (.slice p17 n17 c17)).alloc (.cells #[.bool b17, .slice p17 n17 c17] 24)).heap.size = w18.heap.size + 1 := by simp
  generalize (((((w18.setCell ⟨w.heap.size + 1 + 1, 0, none⟩ (.bool b14)).setCell ⟨w.heap.size + 1 + 1, 1, none⟩ (.slice p14 n14 c14)).setCell ⟨w.heap.size + 1 + 1, 2, none⟩ (.bool b17)).setCell ⟨w.heap.size + 1 + 1, 3, none⟩ (.slice p17 n17 c17)).alloc (.cells #[.bool b17, .slice p17 n17 c17] 24)) = W23 at *
  refine post_Q Tryz.results84 rfl rfl (S.cell (g := w.heap.size + 1 + 1) (o := 0) (x := .bool b14) (by simp)) (S.cell (g := w.heap.size + 1 + 1) (o := 1) (x := .slice p14 n14 c14) (by simp)) (S.cell (g := w.heap.size + 1 + 1) (o := 2) (x := .bool b17) (by simp)) (S.cell (g := w.heap.size + 1 + 1) (o := 3) (x := .slice p17 n17 c17) (by simp)) ⟨_, _, _, _, _, _, _, _, rfl, ⟨_, _, _, _, _, _, _, _, rfl, N14.out.eq (by rw [← E14.out, BY.out, num_by (by omega)]), N17.out.eq (by rw [← E17.out, BY.out, den_by (by omega)])⟩, S.all⟩

theorem neg_flag {w : World} {b : Bool} {s : Value} {z : Int} {k : Nat} (h : IntV w (.agg #[.bool b, s]) z k) (h0 : z ≠ 0) : b = decide (z < 0) := by
  obtain ⟨b2, s2, X, e, h4, h5⟩ := h
  simp only [Value.agg.injEq, Array.mk.injEq, List.cons.injEq, Value.bool.injEq, and_true] at e
  obtain ⟨rfl, -⟩ := e
  cases b
  · rw [h5]; simp [sg]
  · rw [h5] at h0 ⊢; simp [sg] at h0 ⊢; omega
theorem Lowest_g {v u : Value} {z y : Int} {t : Rat} {k : Nat} {w : World} (hz : IntV w v z k) (hy : IntV w u y k) (hk : k ≤ 400000) (h0 : y ≠ 0) (ht : Rat.divInt z y = t) : Calls Tryz.prog 84 #[v, u] w (GotQ w t k) := by
  subst ht
  obtain ⟨b, p, n, c, rfl, hz⟩ := hz.open
  obtain ⟨b', p', n', c', rfl, hy⟩ := hy.open
  have hb := neg_flag hy h0
  rcases Int.lt_or_gt_of_ne h0 with h | h
  · rw [decide_eq_true h] at hb
    subst hb
    exact Lowest_neg hz hy hk h
  · rw [decide_eq_false (by omega)] at hb
    subst hb
    exact Lowest_pos hz hy hk h
theorem IntV.flip {w : World} {b : Bool} {s : Value} {z : Int} {k : Nat} (h : IntV w (.agg #[.bool b, s]) z k) : IntV w (.agg #[.bool (!b), s]) (-z) k := by
  obtain ⟨b2, s2, X, e, h4, h5⟩ := h
  simp only [Value.agg.injEq, Array.mk.injEq, List.cons.injEq, Value.bool.injEq, and_true] at e
  obtain ⟨rfl, rfl⟩ := e
  exact ⟨_, _, X, rfl, h4, by rw [h5, sg_not]⟩
theorem qOf_neg (z y : Int) : qOf (-z) y = -qOf z y := by
  unfold qOf; split <;> rw [Rat.neg_divInt]

/-- A rational is handed back: perhaps an argument's memory. -/
def AnyQ (w : World) (q : Rat) (k : Nat) (e : Ending) (w' : World) : Prop := ∃ b p n c b' p' n' c', e = .returned (.agg #[.bool b, .slice p n c, .bool b', .slice p' n' c']) ∧ RatV w' (.agg #[.bool b, .slice p n c, .bool b', .slice p' n' c']) q k ∧ w.grownBy w' none
set_option maxHeartbeats 4000000 in
set_option maxRecDepth 100000 in
theorem Minus_g {v : Value} {q t : Rat} {i : Nat} {w : World} (hx : RatV w v q i) (ht : -q = t) : Calls Tryz.prog 94 #[v] w (AnyQ w t i) := by
  subst ht
  obtain ⟨b0, p0, n0, c0, b1, p1, n1, c1, z, y, rfl, hz, hy, rfl⟩ := hx
  rw [← qOf_neg]
  have Hz := Lib.hid hz
  have Hy := Lib.hid hy
  clear hz hy
  have S : St w [] [] w := St.start w
  go_enter Tryz.func94, Tryz.ntmps94
  have G := S
  go_wp2_with fail
  clear G
  replace S : St w [(w.heap.size, 0, .bool b0), (w.heap.size, 1, .slice p0 n0 c0), (w.heap.size, 2, .bool b1), (w.heap.size, 3, .slice p1 n1 c1)] [] (w.alloc (.cells #[.bool b0, .slice p0 n0 c0, .bool b1, .slice p1 n1 c1] 46)) := S.box (w.heap.size) [.bool b0, .slice p0 n0 c0, .bool b1, .slice p1 n1 c1] 46 (by simp)
  replace S : St w [(w.heap.size + 1, 0, .bool (!b0)), (w.heap.size + 1, 1, .slice p0 n0 c0), (w.heap.size + 1, 2, .bool b1), (w.heap.size + 1, 3, .slice p1 n1 c1), (w.heap.size, 0, .bool b0), (w.heap.size, 1, .slice p0 n0 c0), (w.heap.size, 2, .bool b1), (w.heap.size, 3, .slice p1 n1 c1)] [(w.heap.size + 1, 0), (w.heap.size + 1, 1), (w.heap.size + 1, 2), (w.heap.size + 1, 3)] ((w.alloc (.cells #[.bool b0, .slice p0 n0 c0, .bool b1, .slice p1 n1 c1] 46)).alloc (.cells #[.bool (!b0), .slice p0 n0 c0, .bool b1, .slice p1 n1 c1] 46)) := S.made (w.heap.size + 1) [.bool (!b0), .slice p0 n0 c0, .bool b1, .slice p1 n1 c1] 46 (by simp)
  replace Hz := Lib.hid (Hz.out.kp ((Kp.of (grown_alloc w (.cells #[.bool b0, .slice p0 n0 c0, .bool b1, .slice p1 n1 c1] 46) none)).trans (Kp.of (grown_alloc ((w.alloc (.cells #[.bool b0, .slice p0 n0 c0, .bool b1, .slice p1 n1 c1] 46))) (.cells #[.bool (!b0), .slice p0 n0 c0, .bool b1, .slice p1 n1 c1] 46) none))))
  replace Hy := Lib.hid (Hy.out.kp ((Kp.of (grown_alloc w (.cells #[.bool b0, .slice p0 n0 c0, .bool b1, .slice p1 n1 c1] 46) none)).trans (Kp.of (grown_alloc ((w.alloc (.cells #[.bool b0, .slice p0 n0 c0, .bool b1, .slice p1 n1 c1] 46))) (.cells #[.bool (!b0), .slice p0 n0 c0, .bool b1, .slice p1 n1 c1] 46) none))))
  have sz10 : ((w.alloc (.cells #[.bool b0, .slice p0 n0 c0, .bool b1, .slice p1 n1 c1] 46)).alloc (.cells #[.bool (!b0), .slice p0 n0 c0, .bool b1, .slice p1 n1 c1] 46)).heap.size = w.heap.size + 2 := by simp
  generalize ((w.alloc (.cells #[.bool b0, .slice p0 n0 c0, .bool b1, .slice p1 n1 c1] 46)).alloc (.cells #[.bool (!b0), .slice p0 n0 c0, .bool b1, .slice p1 n1 c1] 46)) = W10 at *
  refine post_Q Tryz.results94 rfl rfl (S.cell (g := w.heap.size + 1) (o := 0) (x := .bool (!b0)) (by simp)) (S.cell (g := w.heap.size + 1) (o := 1) (x := .slice p0 n0 c0) (by simp)) (S.cell (g := w.heap.size + 1) (o := 2) (x := .bool b1) (by simp)) (S.cell (g := w.heap.size + 1) (o := 3) (x := .slice p1 n1 c1) (by simp)) ⟨_, _, _, _, _, _, _, _, rfl, ⟨_, _, _, _, _, _, _, _, _, _, rfl, Hz.out.flip, Hy.out, rfl⟩, S.all⟩

set_option maxHeartbeats 4000000 in
set_option maxRecDepth 100000 in
theorem Added_g {v u : Value} {q r t : Rat} {i j : Nat} {w : World} (hx : RatV w v q i) (hy : RatV w u r j) (hk : i + j ≤ 100000) (ht : q + r = t) : Calls Tryz.prog 93 #[v, u] w (GotParts w t (2 * (i + j) + 9)) := by
  subst ht
  obtain ⟨b0, p0, n0, c0, b1, p1, n1, c1, zz0, yy0, rfl, hz0, hy0, hq0⟩ := hx
  have Hx := Lib.hid (show RatV w (.agg #[.bool b0, .slice p0 n0 c0, .bool b1, .slice p1 n1 c1]) q i from ⟨_, _, _, _, _, _, _, _, _, _, rfl, hz0, hy0, hq0⟩)
  clear hz0 hy0 hq0
  obtain ⟨b2, p2, n2, c2, b3, p3, n3, c3, zz1, yy1, rfl, hz1, hy1, hq1⟩ := hy
  have Hy := Lib.hid (show RatV w (.agg #[.bool b2, .slice p2 n2 c2, .bool b3, .slice p3 n3 c3]) r j from ⟨_, _, _, _, _, _, _, _, _, _, rfl, hz1, hy1, hq1⟩)
  clear hz1 hy1 hq1
  have S : St w [] [] w := St.start w
  go_enter Tryz.func93, Tryz.ntmps93
  have G := S
  go_wp2_with fail
  clear G
  replace S : St w [(w.heap.size, 0, .bool b0), (w.heap.size, 1, .slice p0 n0 c0), (w.heap.size, 2, .bool b1), (w.heap.size, 3, .slice p1 n1 c1)] [] (w.alloc (.cells #[.bool b0, .slice p0 n0 c0, .bool b1, .slice p1 n1 c1] 46)) := S.box (w.heap.size) [.bool b0, .slice p0 n0 c0, .bool b1, .slice p1 n1 c1] 46 (by simp)
  replace S : St w [(w.heap.size + 1, 0, .bool b2), (w.heap.size + 1, 1, .slice p2 n2 c2), (w.heap.size + 1, 2, .bool b3), (w.heap.size + 1, 3, .slice p3 n3 c3), (w.heap.size, 0, .bool b0), (w.heap.size, 1, .slice p0 n0 c0), (w.heap.size, 2, .bool b1), (w.heap.size, 3, .slice p1 n1 c1)] [] ((w.alloc (.cells #[.bool b0, .slice p0 n0 c0, .bool b1, .slice p1 n1 c1] 46)).alloc (.cells #[.bool b2, .slice p2 n2 c2, .bool b3, .slice p3 n3 c3] 46)) := S.box (w.heap.size + 1) [.bool b2, .slice p2 n2 c2, .bool b3, .slice p3 n3 c3] 46 (by simp)
  replace S : St w [(w.heap.size + 1 + 1, 0, .bool false), (w.heap.size + 1 + 1, 1, .slice none 0 0), (w.heap.size + 1, 0, .bool b2), (w.heap.size + 1, 1, .slice p2 n2 c2), (w.heap.size + 1, 2, .bool b3), (w.heap.size + 1, 3, .slice p3 n3 c3), (w.heap.size, 0, .bool b0), (w.heap.size, 1, .slice p0 n0 c0), (w.heap.size, 2, .bool b1), (w.heap.size, 3, .slice p1 n1 c1)] [(w.heap.size + 1 + 1, 0), (w.heap.size + 1 + 1, 1)] (((w.alloc (.cells #[.bool b0, .slice p0 n0 c0, .bool b1, .slice p1 n1 c1] 46)).alloc (.cells #[.bool b2, .slice p2 n2 c2, .bool b3, .slice p3 n3 c3] 46)).alloc (.cells #[.bool false, .slice none 0 0] 24)) := S.made (w.heap.size + 1 + 1) [.bool false, .slice none 0 0] 24 (by simp)
  replace S : St w [(w.heap.size + 1 + 1 + 1, 0, .bool false), (w.heap.size + 1 + 1 + 1, 1, .slice none 0 0), (w.heap.size + 1 + 1, 0, .bool false), (w.heap.size + 1 + 1, 1, .slice none 0 0), (w.heap.size + 1, 0, .bool b2), (w.heap.size + 1, 1, .slice p2 n2 c2), (w.heap.size + 1, 2, .bool b3), (w.heap.size + 1, 3, .slice p3 n3 c3), (w.heap.size, 0, .bool b0), (w.heap.size, 1, .slice p0 n0 c0), (w.heap.size, 2, .bool b1), (w.heap.size, 3, .slice p1 n1 c1)] [(w.heap.size + 1 + 1 + 1, 0), (w.heap.size + 1 + 1 + 1, 1), (w.heap.size + 1 + 1, 0), (w.heap.size + 1 + 1, 1)] ((((w.alloc (.cells #[.bool b0, .slice p0 n0 c0, .bool b1, .slice p1 n1 c1] 46)).alloc (.cells #[.bool b2, .slice p2 n2 c2, .bool b3, .slice p3 n3 c3] 46)).alloc (.cells #[.bool false, .slice none 0 0] 24)).alloc (.cells #[.bool false, .slice none 0 0] 24)) := S.made (w.heap.size + 1 + 1 + 1) [.bool false, .slice none 0 0] 24 (by simp)
  replace Hx := Lib.hid (Hx.out.kp ((((Kp.of (grown_alloc w (.cells #[.bool b0, .slice p0 n0 c0, .bool b1, .slice p1 n1 c1] 46) none)).trans (Kp.of (grown_alloc ((w.alloc (.cells #[.bool b0, .slice p0 n0 c0, .bool b1, .slice p1 n1 c1] 46))) (.cells #[.bool b2, .slice p2 n2 c2, .bool b3, .slice p3 n3 c3] 46) none))).trans (Kp.of (grown_alloc (((w.alloc (.cells #[.bool b0, .slice p0 n0 c0, .bool b1, .slice p1 n1 c1] 46)).alloc (.cells #[.bool b2, .slice p2 n2 c2, .bool b3, .slice p3 n3 c3] 46))) (.cells #[.bool false, .slice none 0 0] 24) none))).trans (Kp.of (grown_alloc ((((w.alloc (.cells #[.bool b0, .slice p0 n0 c0, .bool b1, .slice p1 n1 c1] 46)).alloc (.cells #[.bool b2, .slice p2 n2 c2, .bool b3, .slice p3 n3 c3] 46)).alloc (.cells #[.bool false, .slice none 0 0] 24))) (.cells #[.bool false, .slice none 0 0] 24) none))))
  replace Hy := Lib.hid (Hy.out.kp ((((Kp.of (grown_alloc w (.cells #[.bool b0, .slice p0 n0 c0, .bool b1, .slice p1 n1 c1] 46) none)).trans (Kp.of (grown_alloc ((w.alloc (.cells #[.bool b0, .slice p0 n0 c0, .bool b1, .slice p1 n1 c1] 46))) (.cells #[.bool b2, .slice p2 n2 c2, .bool b3, .slice p3 n3 c3] 46) none))).trans (Kp.of (grown_alloc (((w.alloc (.cells #[.bool b0, .slice p0 n0 c0, .bool b1, .slice p1 n1 c1] 46)).alloc (.cells #[.bool b2, .slice p2 n2 c2, .bool b3, .slice p3 n3 c3] 46))) (.cells #[.bool false, .slice none 0 0] 24) none))).trans (Kp.of (grown_alloc ((((w.alloc (.cells #[.bool b0, .slice p0 n0 c0, .bool b1, .slice p1 n1 c1] 46)).alloc (.cells #[.bool b2, .slice p2 n2 c2, .bool b3, .slice p3 n3 c3] 46)).alloc (.cells #[.bool false, .slice none 0 0] 24))) (.cells #[.bool false, .slice none 0 0] 24) none))))
  have sz10 : ((((w.alloc (.cells #[.bool b0, .slice p0 n0 c0, .bool b1, .slice p1 n1 c1] 46)).alloc (.cells #[.bool b2, .slice p2 n2 c2, .bool b3, .slice p3 n3 c3] 46)).alloc (.cells #[.bool false, .slice none 0 0] 24)).alloc (.cells #[.bool false, .slice none 0 0] 24)).heap.size = w.heap.size + 4 := by simp
  generalize ((((w.alloc (.cells #[.bool b0, .slice p0 n0 c0, .bool b1, .slice p1 n1 c1] 46)).alloc (.cells #[.bool b2, .slice p2 n2 c2, .bool b3, .slice p3 n3 c3] 46)).alloc (.cells #[.bool false, .slice none 0 0] 24)).alloc (.cells #[.bool false, .slice none 0 0] 24)) = W10 at *
  go_at_call 95
  with_reducible refine (Parts_g Hx.out (by omega)).mono ?_
  rintro e w12 ⟨b11, p11, n11, c11, d11, q11, m11, f11, z11, y11, rfl, h, h', y0, eq, g⟩
  clear Hx
  replace Hy := Lib.hid (Hy.out.kp (Kp.of g))
  have Y11 := Lib.hid y0
  have Q11 := Lib.hid eq
  have N11 := Lib.hid (h)
  have M11 := Lib.hid (h')
  replace S := S.step g
  have lg12 := g.size
  clear g h h' y0 eq
  have l0 := S.ltc (g := w.heap.size) (o := 0) (x := .bool b0) (by simp)
  have l1 := S.ltc (g := w.heap.size + 1) (o := 0) (x := .bool b2) (by simp)
  have l2 := S.ltc (g := w.heap.size + 1 + 1) (o := 0) (x := .bool false) (by simp)
  have l3 := S.ltc (g := w.heap.size + 1 + 1 + 1) (o := 0) (x := .bool false) (by simp)
  have lS := S.size
  obtain ⟨e0, e1, e2, e3, e4, e5, e6, e7, e8, e9, e10, e11, h0, i0, h1, i1, h2, i2, h3, i3, G⟩ := id S
  go_wp2_with fail
  clear e0 e1 e2 e3 e4 e5 e6 e7 e8 e9 e10 e11 h0 i0 h1 i1 h2 i2 h3 i3 G
  replace S : St w [(w12.heap.size, 0, .bool b11), (w12.heap.size, 1, .slice p11 n11 c11), (w.heap.size + 1 + 1 + 1, 0, .bool false), (w.heap.size + 1 + 1 + 1, 1, .slice none 0 0), (w.heap.size + 1 + 1, 0, .bool false), (w.heap.size + 1 + 1, 1, .slice none 0 0), (w.heap.size + 1, 0, .bool b2), (w.heap.size + 1, 1, .slice p2 n2 c2), (w.heap.size + 1, 2, .bool b3), (w.heap.size + 1, 3, .slice p3 n3 c3), (w.heap.size, 0, .bool b0), (w.heap.size, 1, .slice p0 n0 c0), (w.heap.size, 2, .bool b1), (w.heap.size, 3, .slice p1 n1 c1)] [(w12.heap.size, 0), (w12.heap.size, 1), (w.heap.size + 1 + 1 + 1, 0), (w.heap.size + 1 + 1 + 1, 1), (w.heap.size + 1 + 1, 0), (w.heap.size + 1 + 1, 1)] (w12.alloc (.cells #[.bool b11, .slice p11 n11 c11] 24)) := S.made (w12.heap.size) [.bool b11, .slice p11 n11 c11] 24 (by simp)
  replace S : St w [(w12.heap.size + 1, 0, .bool d11), (w12.heap.size + 1, 1, .slice q11 m11 f11), (w12.heap.size, 0, .bool b11), (w12.heap.size, 1, .slice p11 n11 c11), (w.heap.size + 1 + 1 + 1, 0, .bool false), (w.heap.size + 1 + 1 + 1, 1, .slice none 0 0), (w.heap.size + 1 + 1, 0, .bool false), (w.heap.size + 1 + 1, 1, .slice none 0 0), (w.heap.size + 1, 0, .bool b2), (w.heap.size + 1, 1, .slice p2 n2 c2), (w.heap.size + 1, 2, .bool b3), (w.heap.size + 1, 3, .slice p3 n3 c3), (w.heap.size, 0, .bool b0), (w.heap.size, 1, .slice p0 n0 c0), (w.heap.size, 2, .bool b1), (w.heap.size, 3, .slice p1 n1 c1)] [(w12.heap.size + 1, 0), (w12.heap.size + 1, 1), (w12.heap.size, 0), (w12.heap.size, 1), (w.heap.size + 1 + 1 + 1, 0), (w.heap.size + 1 + 1 + 1, 1), (w.heap.size + 1 + 1, 0), (w.heap.size + 1 + 1, 1)] ((w12.alloc (.cells #[.bool b11, .slice p11 n11 c11] 24)).alloc (.cells #[.bool d11, .slice q11 m11 f11] 24)) := S.made (w12.heap.size + 1) [.bool d11, .slice q11 m11 f11] 24 (by simp)
  replace Hy := Lib.hid (Hy.out.kp ((Kp.of (grown_alloc w12 (.cells #[.bool b11, .slice p11 n11 c11] 24) none)).trans (Kp.of (grown_alloc ((w12.alloc (.cells #[.bool b11, .slice p11 n11 c11] 24))) (.cells #[.bool d11, .slice q11 m11 f11] 24) none))))
  replace N11 := Lib.hid (N11.out.kp ((Kp.of (grown_alloc w12 (.cells #[.bool b11, .slice p11 n11 c11] 24) none)).trans (Kp.of (grown_alloc ((w12.alloc (.cells #[.bool b11, .slice p11 n11 c11] 24))) (.cells #[.bool d11, .slice q11 m11 f11] 24) none))))
  replace M11 := Lib.hid (M11.out.kp ((Kp.of (grown_alloc w12 (.cells #[.bool b11, .slice p11 n11 c11] 24) none)).trans (Kp.of (grown_alloc ((w12.alloc (.cells #[.bool b11, .slice p11 n11 c11] 24))) (.cells #[.bool d11, .slice q11 m11 f11] 24) none))))
  have sz13 : ((w12.alloc (.cells #[.bool b11, .slice p11 n11 c11] 24)).alloc (.cells #[.bool d11, .slice q11 m11 f11] 24)).heap.size = w12.heap.size + 2 := by simp
  generalize ((w12.alloc (.cells #[.bool b11, .slice p11 n11 c11] 24)).alloc (.cells #[.bool d11, .slice q11 m11 f11] 24)) = W13 at *
  go_at_call 95
  with_reducible refine (Parts_g Hy.out (by omega)).mono ?_
  rintro e w15 ⟨b14, p14, n14, c14, d14, q14, m14, f14, z14, y14, rfl, h, h', y0, eq, g⟩
  clear Hy
  replace N11 := Lib.hid (N11.out.kp (Kp.of g))
  replace M11 := Lib.hid (M11.out.kp (Kp.of g))
  have Y14 := Lib.hid y0
  have Q14 := Lib.hid eq
  have N14 := Lib.hid (h)
  have M14 := Lib.hid (h')
  replace S := S.step g
  have lg15 := g.size
  clear g h h' y0 eq l0 l1 l2 l3 lS
  have l0 := S.ltc (g := w.heap.size) (o := 0) (x := .bool b0) (by simp)
  have l1 := S.ltc (g := w.heap.size + 1) (o := 0) (x := .bool b2) (by simp)
  have l2 := S.ltc (g := w.heap.size + 1 + 1) (o := 0) (x := .bool false) (by simp)
  have l3 := S.ltc (g := w.heap.size + 1 + 1 + 1) (o := 0) (x := .bool false) (by simp)
  have l4 := S.ltc (g := w12.heap.size) (o := 0) (x := .bool b11) (by simp)
  have l5 := S.ltc (g := w12.heap.size + 1) (o := 0) (x := .bool d11) (by simp)
  have lS := S.size
  obtain ⟨e0, e1, e2, e3, e4, e5, e6, e7, e8, e9, e10, e11, e12, e13, e14, e15, h0, i0, h1, i1, h2, i2, h3, i3, h4, i4, h5, i5, h6, i6, h7, i7, G⟩ := id S
  go_wp2_with fail
  clear e0 e1 e2 e3 e4 e5 e6 e7 e8 e9 e10 e11 e12 e13 e14 e15 h0 i0 h1 i1 h2 i2 h3 i3 h4 i4 h5 i5 h6 i6 h7 i7 G
  replace S : St w [(w15.heap.size, 0, .bool b14), (w15.heap.size, 1, .slice p14 n14 c14), (w12.heap.size + 1, 0, .bool d11), (w12.heap.size + 1, 1, .slice q11 m11 f11), (w12.heap.size, 0, .bool b11), (w12.heap.size, 1, .slice p11 n11 c11), (w.heap.size + 1 + 1 + 1, 0, .bool false), (w.heap.size + 1 + 1 + 1, 1, .slice none 0 0), (w.heap.size + 1 + 1, 0, .bool false), (w.heap.size + 1 + 1, 1, .slice none 0 0), (w.heap.size + 1, 0, .bool b2), (w.heap.size + 1, 1, .slice p2 n2 c2), (w.heap.size + 1, 2, .bool b3), (w.heap.size + 1, 3, .slice p3 n3 c3), (w.heap.size, 0, .bool b0), (w.heap.size, 1, .slice p0 n0 c0), (w.heap.size, 2, .bool b1), (w.heap.size, 3, .slice p1 n1 c1)] [(w15.heap.size, 0), (w15.heap.size, 1), (w12.heap.size + 1, 0), (w12.heap.size + 1, 1), (w12.heap.size, 0), (w12.heap.size, 1), (w.heap.size + 1 + 1 + 1, 0), (w.heap.size + 1 + 1 + 1, 1), (w.heap.size + 1 + 1, 0), (w.heap.size + 1 + 1, 1)] (w15.alloc (.cells #[.bool b14, .slice p14 n14 c14] 24)) := S.made (w15.heap.size) [.bool b14, .slice p14 n14 c14] 24 (by simp)
  replace S : St w [(w15.heap.size + 1, 0, .bool d14), (w15.heap.size + 1, 1, .slice q14 m14 f14), (w15.heap.size, 0, .bool b14), (w15.heap.size, 1, .slice p14 n14 c14), (w12.heap.size + 1, 0, .bool d11), (w12.heap.size + 1, 1, .slice q11 m11 f11), (w12.heap.size, 0, .bool b11), (w12.heap.size, 1, .slice p11 n11 c11), (w.heap.size + 1 + 1 + 1, 0, .bool false), (w.heap.size + 1 + 1 + 1, 1, .slice none 0 0), (w.heap.size + 1 + 1, 0, .bool false), (w.heap.size + 1 + 1, 1, .slice none 0 0), (w.heap.size + 1, 0, .bool b2), (w.heap.size + 1, 1, .slice p2 n2 c2), (w.heap.size + 1, 2, .bool b3), (w.heap.size + 1, 3, .slice p3 n3 c3), (w.heap.size, 0, .bool b0), (w.heap.size, 1, .slice p0 n0 c0), (w.heap.size, 2, .bool b1), (w.heap.size, 3, .slice p1 n1 c1)] [(w15.heap.size + 1, 0), (w15.heap.size + 1, 1), (w15.heap.size, 0), (w15.heap.size, 1), (w12.heap.size + 1, 0), (w12.heap.size + 1, 1), (w12.heap.size, 0), (w12.heap.size, 1), (w.heap.size + 1 + 1 + 1, 0), (w.heap.size + 1 + 1 + 1, 1), (w.heap.size + 1 + 1, 0), (w.heap.size + 1 + 1, 1)] ((w15.alloc (.cells #[.bool b14, .slice p14 n14 c14] 24)).alloc (.cells #[.bool d14, .slice q14 m14 f14] 24)) := S.made (w15.heap.size + 1) [.bool d14, .slice q14 m14 f14] 24 (by simp)
  replace N11 := Lib.hid (N11.out.kp ((Kp.of (grown_alloc w15 (.cells #[.bool b14, .slice p14 n14 c14] 24) none)).trans (Kp.of (grown_alloc ((w15.alloc (.cells #[.bool b14, .slice p14 n14 c14] 24))) (.cells #[.bool d14, .slice q14 m14 f14] 24) none))))
  replace M11 := Lib.hid (M11.out.kp ((Kp.of (grown_alloc w15 (.cells #[.bool b14, .slice p14 n14 c14] 24) none)).trans (Kp.of (grown_alloc ((w15.alloc (.cells #[.bool b14, .slice p14 n14 c14] 24))) (.cells #[.bool d14, .slice q14 m14 f14] 24) none))))
  replace N14 := Lib.hid (N14.out.kp ((Kp.of (grown_alloc w15 (.cells #[.bool b14, .slice p14 n14 c14] 24) none)).trans (Kp.of (grown_alloc ((w15.alloc (.cells #[.bool b14, .slice p14 n14 c14] 24))) (.cells #[.bool d14, .slice q14 m14 f14] 24) none))))
  replace M14 := Lib.hid (M14.out.kp ((Kp.of (grown_alloc w15 (.cells #[.bool b14, .slice p14 n14 c14] 24) none)).trans (Kp.of (grown_alloc ((w15.alloc (.cells #[.bool b14, .slice p14 n14 c14] 24))) (.cells #[.bool d14, .slice q14 m14 f14] 24) none))))
  have sz16 : ((w15.alloc (.cells #[.bool b14, .slice p14 n14 c14] 24)).alloc (.cells #[.bool d14, .slice q14 m14 f14] 24)).heap.size = w15.heap.size + 2 := by simp
  generalize ((w15.alloc (.cells #[.bool b14, .slice p14 n14 c14] 24)).alloc (.cells #[.bool d14, .slice q14 m14 f14] 24)) = W16 at *
  have T0 : Cl [(w12.heap.size, 0, .bool b11), (w12.heap.size, 1, .slice p11 n11 c11), (w15.heap.size + 1, 0, .bool d14), (w15.heap.size + 1, 1, .slice q14 m14 f14), (w15.heap.size, 0, .bool b14), (w15.heap.size, 1, .slice p14 n14 c14), (w12.heap.size + 1, 0, .bool d11), (w12.heap.size + 1, 1, .slice q11 m11 f11)] W16 := S.cl (by simp)
  refine wp_region_noPanic ?_
  refine wp_region_held_drew (S := fun w' => w'.cell? ⟨w12.heap.size, 0, none⟩ = some (.bool b11) ∧ w'.cell? ⟨w12.heap.size, 1, none⟩ = some (.slice p11 n11 c11) ∧ w'.cell? ⟨w15.heap.size + 1, 0, none⟩ = some (.bool d14) ∧ w'.cell? ⟨w15.heap.size + 1, 1, none⟩ = some (.slice q14 m14 f14) ∧ w'.cell? ⟨w15.heap.size, 0, none⟩ = some (.bool b14) ∧ w'.cell? ⟨w15.heap.size, 1, none⟩ = some (.slice p14 n14 c14) ∧ w'.cell? ⟨w12.heap.size + 1, 0, none⟩ = some (.bool d11) ∧ w'.cell? ⟨w12.heap.size + 1, 1, none⟩ = some (.slice q11 m11 f11) ∧ True) (by kernel_rfl) (by exact Cl.step (cs := [(w12.heap.size, 0, .bool b11), (w12.heap.size, 1, .slice p11 n11 c11), (w15.heap.size + 1, 0, .bool d14), (w15.heap.size + 1, 1, .slice q14 m14 f14), (w15.heap.size, 0, .bool b14), (w15.heap.size, 1, .slice p14 n14 c14), (w12.heap.size + 1, 0, .bool d11), (w12.heap.size + 1, 1, .slice q11 m11 f11)]) (grown_drew _ _) T0) (fun hHeld => ?_)
  change wpAnyH _ _ _ _ _ 12 #[false, false, false, false, false, false, false, false, false, false, false, false] _ _
  replace S := S.step (grown_drew W16 none)
  replace N11 := Lib.hid (N11.out.kp (Kp.of (grown_drew W16 none)))
  replace M11 := Lib.hid (M11.out.kp (Kp.of (grown_drew W16 none)))
  replace N14 := Lib.hid (N14.out.kp (Kp.of (grown_drew W16 none)))
  replace M14 := Lib.hid (M14.out.kp (Kp.of (grown_drew W16 none)))
  have lg17 := (grown_drew W16 none).size
  clear T0
  generalize W16.drew = wr17 at *
  clear l0 l1 l2 l3 l4 l5 lS
  have l0 := S.ltc (g := w.heap.size) (o := 0) (x := .bool b0) (by simp)
  have l1 := S.ltc (g := w.heap.size + 1) (o := 0) (x := .bool b2) (by simp)
  have l2 := S.ltc (g := w.heap.size + 1 + 1) (o := 0) (x := .bool false) (by simp)
  have l3 := S.ltc (g := w.heap.size + 1 + 1 + 1) (o := 0) (x := .bool false) (by simp)
  have l4 := S.ltc (g := w12.heap.size) (o := 0) (x := .bool b11) (by simp)
  have l5 := S.ltc (g := w12.heap.size + 1) (o := 0) (x := .bool d11) (by simp)
  have l6 := S.ltc (g := w15.heap.size) (o := 0) (x := .bool b14) (by simp)
  have l7 := S.ltc (g := w15.heap.size + 1) (o := 0) (x := .bool d14) (by simp)
  have lS := S.size
  refine wpAnyH_take (i := 0) (oi := _) (v := ?vq18) rfl (by kernel_rfl) (by kernel_rfl) (by kernel_rfl) (fun _ _ _ h => h) (Or.inl ⟨by rfl, ?hyq18⟩) (by assumption) ?restq18
  case hyq18 => (intro w hSw; (try dsimp only at hSw); go_simp; try with_reducible rfl)
  try simp only [Act.put, List.getElem_toArray, List.getElem_cons_zero, List.setIfInBounds_toArray, List.set_cons_zero, List.set_cons_succ]
  refine wpAnyH_take (i := 1) (oi := _) (v := ?vq19) rfl (by kernel_rfl) (by kernel_rfl) (by kernel_rfl) (fun _ _ _ h => h) (Or.inl ⟨by rfl, ?hyq19⟩) (by assumption) ?restq19
  case hyq19 => (intro w hSw; (try dsimp only at hSw); go_simp; try with_reducible rfl)
  try simp only [Act.put, List.getElem_toArray, List.getElem_cons_zero, List.getElem_cons_succ, List.setIfInBounds_toArray, List.set_cons_zero, List.set_cons_succ]
  refine wpAnyH_take (i := 3) (oi := _) (v := ?vq20) rfl (by kernel_rfl) (by kernel_rfl) (by kernel_rfl) (fun _ _ _ h => h) (Or.inl ⟨by rfl, ?hyq20⟩) (by assumption) ?restq20
  case hyq20 => (intro w hSw; (try dsimp only at hSw); go_simp; try with_reducible rfl)
  try simp only [Act.put, List.getElem_toArray, List.getElem_cons_zero, List.getElem_cons_succ, List.setIfInBounds_toArray, List.set_cons_zero, List.set_cons_succ]
  refine wpAnyH_take (i := 4) (oi := _) (v := ?vq21) rfl (by kernel_rfl) (by kernel_rfl) (by kernel_rfl) (fun _ _ _ h => h) (Or.inl ⟨by rfl, ?hyq21⟩) (by assumption) ?restq21
  case hyq21 => (intro w hSw; (try dsimp only at hSw); go_simp; try with_reducible rfl)
  try simp only [Act.put, List.getElem_toArray, List.getElem_cons_zero, List.getElem_cons_succ, List.setIfInBounds_toArray, List.set_cons_zero, List.set_cons_succ]
  refine wpAnyH_take (i := 7) (oi := _) (v := ?vq22) rfl (by kernel_rfl) (by kernel_rfl) (by kernel_rfl) (fun _ _ _ h => h) (Or.inl ⟨by rfl, ?hyq22⟩) (by assumption) ?restq22
  case hyq22 => (intro w hSw; (try dsimp only at hSw); go_simp; try with_reducible rfl)
  try simp only [Act.put, List.getElem_toArray, List.getElem_cons_zero, List.getElem_cons_succ, List.setIfInBounds_toArray, List.set_cons_zero, List.set_cons_succ]
  refine wpAnyH_take (i := 8) (oi := _) (v := ?vq23) rfl (by kernel_rfl) (by kernel_rfl) (by kernel_rfl) (fun _ _ _ h => h) (Or.inl ⟨by rfl, ?hyq23⟩) (by assumption) ?restq23
  case hyq23 => (intro w hSw; (try dsimp only at hSw); go_simp; try with_reducible rfl)
  try simp only [Act.put, List.getElem_toArray, List.getElem_cons_zero, List.getElem_cons_succ, List.setIfInBounds_toArray, List.set_cons_zero, List.set_cons_succ]
  obtain ⟨z25, ez25⟩ : ∃ t : Int, z11 * y14 = t := ⟨_, rfl⟩
  have E25 := Lib.hid ez25
  clear ez25
  refine wpAnyH_ready (rs := [2]) (by kernel_rfl) (by simp) ?_
  refine AllReadyH.cons (o := _) rfl (fun K hK => ?_) AllReadyH.nil
  go_simp
  go_at_call 65
  with_reducible refine (Mul_g N11.out M14.out (by omega) E25.out).mono ?_
  rintro e w26 ⟨b25, p25, n25, c25, rfl, h, g⟩
  clear N11
  replace M11 := Lib.hid (M11.out.kp (Kp.of g))
  replace N14 := Lib.hid (N14.out.kp (Kp.of g))
  replace M14 := Lib.hid (M14.out.kp (Kp.of g))
  have N25 := Lib.hid (h)
  replace S := S.step g
  have lg26 := g.size
  clear l0 l1 l2 l3 l4 l5 l6 l7 lS
  have l0 := S.ltc (g := w.heap.size) (o := 0) (x := .bool b0) (by simp)
  have l1 := S.ltc (g := w.heap.size + 1) (o := 0) (x := .bool b2) (by simp)
  have l2 := S.ltc (g := w.heap.size + 1 + 1) (o := 0) (x := .bool false) (by simp)
  have l3 := S.ltc (g := w.heap.size + 1 + 1 + 1) (o := 0) (x := .bool false) (by simp)
  have l4 := S.ltc (g := w12.heap.size) (o := 0) (x := .bool b11) (by simp)
  have l5 := S.ltc (g := w12.heap.size + 1) (o := 0) (x := .bool d11) (by simp)
  have l6 := S.ltc (g := w15.heap.size) (o := 0) (x := .bool b14) (by simp)
  have l7 := S.ltc (g := w15.heap.size + 1) (o := 0) (x := .bool d14) (by simp)
  have lS := S.size
  go_wp2_with fail
  refine hK.out _ _ ?hSq24 (fun hHeld => ?_)
  case hSq24 => exact Cl.step (cs := [(w12.heap.size, 0, .bool b11), (w12.heap.size, 1, .slice p11 n11 c11), (w15.heap.size + 1, 0, .bool d14), (w15.heap.size + 1, 1, .slice q14 m14 f14), (w15.heap.size, 0, .bool b14), (w15.heap.size, 1, .slice p14 n14 c14), (w12.heap.size + 1, 0, .bool d11), (w12.heap.size + 1, 1, .slice q11 m11 f11)]) g (by assumption)
  clear hK K g h
  try simp only [List.setIfInBounds_toArray, List.set_cons_zero, List.set_cons_succ]
  obtain ⟨z28, ez28⟩ : ∃ t : Int, z14 * y11 = t := ⟨_, rfl⟩
  have E28 := Lib.hid ez28
  clear ez28
  refine wpAnyH_ready (rs := [5]) (by kernel_rfl) (by simp) ?_
  refine AllReadyH.cons (o := _) rfl (fun K hK => ?_) AllReadyH.nil
  go_simp
  go_at_call 65
  with_reducible refine (Mul_g N14.out M11.out (by omega) E28.out).mono ?_
  rintro e w29 ⟨b28, p28, n28, c28, rfl, h, g⟩
  replace M11 := Lib.hid (M11.out.kp (Kp.of g))
  clear N14
  replace M14 := Lib.hid (M14.out.kp (Kp.of g))
  replace N25 := Lib.hid (N25.out.kp (Kp.of g))
  have N28 := Lib.hid (h)
  replace S := S.step g
  have lg29 := g.size
  clear l0 l1 l2 l3 l4 l5 l6 l7 lS
  have l0 := S.ltc (g := w.heap.size) (o := 0) (x := .bool b0) (by simp)
  have l1 := S.ltc (g := w.heap.size + 1) (o := 0) (x := .bool b2) (by simp)
  have l2 := S.ltc (g := w.heap.size + 1 + 1) (o := 0) (x := .bool false) (by simp)
  have l3 := S.ltc (g := w.heap.size + 1 + 1 + 1) (o := 0) (x := .bool false) (by simp)
  have l4 := S.ltc (g := w12.heap.size) (o := 0) (x := .bool b11) (by simp)
  have l5 := S.ltc (g := w12.heap.size + 1) (o := 0) (x := .bool d11) (by simp)
  have l6 := S.ltc (g := w15.heap.size) (o := 0) (x := .bool b14) (by simp)
  have l7 := S.ltc (g := w15.heap.size + 1) (o := 0) (x := .bool d14) (by simp)
  have lS := S.size
  go_wp2_with fail
  refine hK.out _ _ ?hSq27 (fun hHeld => ?_)
  case hSq27 => exact Cl.step (cs := [(w12.heap.size, 0, .bool b11), (w12.heap.size, 1, .slice p11 n11 c11), (w15.heap.size + 1, 0, .bool d14), (w15.heap.size + 1, 1, .slice q14 m14 f14), (w15.heap.size, 0, .bool b14), (w15.heap.size, 1, .slice p14 n14 c14), (w12.heap.size + 1, 0, .bool d11), (w12.heap.size + 1, 1, .slice q11 m11 f11)]) g (by assumption)
  clear hK K g h
  try simp only [List.setIfInBounds_toArray, List.set_cons_zero, List.set_cons_succ]
  obtain ⟨z31, ez31⟩ : ∃ t : Int, z25 + z28 = t := ⟨_, rfl⟩
  have E31 := Lib.hid ez31
  clear ez31
  refine wpAnyH_ready (rs := [6]) (by kernel_rfl) (by simp) ?_
  refine AllReadyH.cons (o := _) rfl (fun K hK => ?_) AllReadyH.nil
  go_simp
  go_at_call 96
  with_reducible refine (Add_g N25.out.i N28.out.i (by omega) E31.out).mono ?_
  rintro e w32 ⟨b31, p31, n31, c31, rfl, h, g⟩
  replace M11 := Lib.hid (M11.out.kp (Kp.of g))
  replace M14 := Lib.hid (M14.out.kp (Kp.of g))
  clear N25 N28
  have N31 := Lib.hid (h)
  replace S := S.step g
  have lg32 := g.size
  clear l0 l1 l2 l3 l4 l5 l6 l7 lS
  have l0 := S.ltc (g := w.heap.size) (o := 0) (x := .bool b0) (by simp)
  have l1 := S.ltc (g := w.heap.size + 1) (o := 0) (x := .bool b2) (by simp)
  have l2 := S.ltc (g := w.heap.size + 1 + 1) (o := 0) (x := .bool false) (by simp)
  have l3 := S.ltc (g := w.heap.size + 1 + 1 + 1) (o := 0) (x := .bool false) (by simp)
  have l4 := S.ltc (g := w12.heap.size) (o := 0) (x := .bool b11) (by simp)
  have l5 := S.ltc (g := w12.heap.size + 1) (o := 0) (x := .bool d11) (by simp)
  have l6 := S.ltc (g := w15.heap.size) (o := 0) (x := .bool b14) (by simp)
  have l7 := S.ltc (g := w15.heap.size + 1) (o := 0) (x := .bool d14) (by simp)
  have lS := S.size
  go_wp2_with fail
  refine hK.out _ _ ?hSq30 (fun hHeld => ?_)
  case hSq30 => exact Cl.step (cs := [(w12.heap.size, 0, .bool b11), (w12.heap.size, 1, .slice p11 n11 c11), (w15.heap.size + 1, 0, .bool d14), (w15.heap.size + 1, 1, .slice q14 m14 f14), (w15.heap.size, 0, .bool b14), (w15.heap.size, 1, .slice p14 n14 c14), (w12.heap.size + 1, 0, .bool d11), (w12.heap.size + 1, 1, .slice q11 m11 f11)]) g (by assumption)
  clear hK K g h
  try simp only [List.setIfInBounds_toArray, List.set_cons_zero, List.set_cons_succ]
  obtain ⟨z34, ez34⟩ : ∃ t : Int, y11 * y14 = t := ⟨_, rfl⟩
  have E34 := Lib.hid ez34
  clear ez34
  refine wpAnyH_ready (rs := [9]) (by kernel_rfl) (by simp) ?_
  refine AllReadyH.cons (o := _) rfl (fun K hK => ?_) AllReadyH.nil
  go_simp
  go_at_call 65
  with_reducible refine (Mul_g M11.out M14.out (by omega) E34.out).mono ?_
  rintro e w35 ⟨b34, p34, n34, c34, rfl, h, g⟩
  clear M11 M14
  replace N31 := Lib.hid (N31.out.kp (Kp.of g))
  have N34 := Lib.hid (h)
  replace S := S.step g
  have lg35 := g.size
  clear l0 l1 l2 l3 l4 l5 l6 l7 lS
  have l0 := S.ltc (g := w.heap.size) (o := 0) (x := .bool b0) (by simp)
  have l1 := S.ltc (g := w.heap.size + 1) (o := 0) (x := .bool b2) (by simp)
  have l2 := S.ltc (g := w.heap.size + 1 + 1) (o := 0) (x := .bool false) (by simp)
  have l3 := S.ltc (g := w.heap.size + 1 + 1 + 1) (o := 0) (x := .bool false) (by simp)
  have l4 := S.ltc (g := w12.heap.size) (o := 0) (x := .bool b11) (by simp)
  have l5 := S.ltc (g := w12.heap.size + 1) (o := 0) (x := .bool d11) (by simp)
  have l6 := S.ltc (g := w15.heap.size) (o := 0) (x := .bool b14) (by simp)
  have l7 := S.ltc (g := w15.heap.size + 1) (o := 0) (x := .bool d14) (by simp)
  have lS := S.size
  go_wp2_with fail
  refine hK.out _ _ ?hSq33 (fun hHeld => ?_)
  case hSq33 => exact Cl.step (cs := [(w12.heap.size, 0, .bool b11), (w12.heap.size, 1, .slice p11 n11 c11), (w15.heap.size + 1, 0, .bool d14), (w15.heap.size + 1, 1, .slice q14 m14 f14), (w15.heap.size, 0, .bool b14), (w15.heap.size, 1, .slice p14 n14 c14), (w12.heap.size + 1, 0, .bool d11), (w12.heap.size + 1, 1, .slice q11 m11 f11)]) g (by assumption)
  clear hK K g h
  try simp only [List.setIfInBounds_toArray, List.set_cons_zero, List.set_cons_succ]
  obtain ⟨e0, e1, e2, e3, e4, e5, e6, e7, e8, e9, e10, e11, e12, e13, e14, e15, e16, e17, e18, e19, h0, i0, h1, i1, h2, i2, h3, i3, h4, i4, h5, i5, h6, i6, h7, i7, h8, i8, h9, i9, h10, i10, h11, i11, G⟩ := id S
  refine wpAnyH_ready (rs := [10]) (by kernel_rfl) (by simp) ?_
  refine AllReadyH.cons (o := _) rfl (fun K hK => ?_) AllReadyH.nil
  go_simp
  refine hK.out _ _ ?hSq36 (fun hHeld => ?_)
  case hSq36 => exact (Cl.set (cs := [(w12.heap.size, 0, .bool b11), (w12.heap.size, 1, .slice p11 n11 c11), (w15.heap.size + 1, 0, .bool d14), (w15.heap.size + 1, 1, .slice q14 m14 f14), (w15.heap.size, 0, .bool b14), (w15.heap.size, 1, .slice p14 n14 c14), (w12.heap.size + 1, 0, .bool d11), (w12.heap.size + 1, 1, .slice q11 m11 f11)]) (g := w.heap.size + 1 + 1) (o := 1) (u := .slice p31 n31 c31) (Cl.set (cs := [(w12.heap.size, 0, .bool b11), (w12.heap.size, 1, .slice p11 n11 c11), (w15.heap.size + 1, 0, .bool d14), (w15.heap.size + 1, 1, .slice q14 m14 f14), (w15.heap.size, 0, .bool b14), (w15.heap.size, 1, .slice p14 n14 c14), (w12.heap.size + 1, 0, .bool d11), (w12.heap.size + 1, 1, .slice q11 m11 f11)]) (g := w.heap.size + 1 + 1) (o := 0) (u := .bool b31) (by assumption) (by simp <;> omega)) (by simp <;> omega))
  clear hK K
  try simp only [List.setIfInBounds_toArray, List.set_cons_zero, List.set_cons_succ]
  clear e0 e1 e2 e3 e4 e5 e6 e7 e8 e9 e10 e11 e12 e13 e14 e15 e16 e17 e18 e19 h0 i0 h1 i1 h2 i2 h3 i3 h4 i4 h5 i5 h6 i6 h7 i7 h8 i8 h9 i9 h10 i10 h11 i11 G
  have K37 : Kp w35 (w35.setCell ⟨w.heap.size + 1 + 1, 0, none⟩ (.bool b31)) := S.kp (g := w.heap.size + 1 + 1) (o := 0) (x := .bool false) (.bool b31) (by simp) (by simp)
  replace S : St w [(w.heap.size + 1 + 1, 0, .bool b31), (w15.heap.size + 1, 0, .bool d14), (w15.heap.size + 1, 1, .slice q14 m14 f14), (w15.heap.size, 0, .bool b14), (w15.heap.size, 1, .slice p14 n14 c14), (w12.heap.size + 1, 0, .bool d11), (w12.heap.size + 1, 1, .slice q11 m11 f11), (w12.heap.size, 0, .bool b11), (w12.heap.size, 1, .slice p11 n11 c11), (w.heap.size + 1 + 1 + 1, 0, .bool false), (w.heap.size + 1 + 1 + 1, 1, .slice none 0 0), (w.heap.size + 1 + 1, 1, .slice none 0 0), (w.heap.size + 1, 0, .bool b2), (w.heap.size + 1, 1, .slice p2 n2 c2), (w.heap.size + 1, 2, .bool b3), (w.heap.size + 1, 3, .slice p3 n3 c3), (w.heap.size, 0, .bool b0), (w.heap.size, 1, .slice p0 n0 c0), (w.heap.size, 2, .bool b1), (w.heap.size, 3, .slice p1 n1 c1)] [(w15.heap.size + 1, 0), (w15.heap.size + 1, 1), (w15.heap.size, 0), (w15.heap.size, 1), (w12.heap.size + 1, 0), (w12.heap.size + 1, 1), (w12.heap.size, 0), (w12.heap.size, 1), (w.heap.size + 1 + 1 + 1, 0), (w.heap.size + 1 + 1 + 1, 1), (w.heap.size + 1 + 1, 0), (w.heap.size + 1 + 1, 1)] (w35.setCell ⟨w.heap.size + 1 + 1, 0, none⟩ (.bool b31)) := S.set (g := w.heap.size + 1 + 1) (o := 0) (.bool b31) (by simp) (by simp <;> omega) (by omega)
  have K38 : Kp (w35.setCell ⟨w.heap.size + 1 + 1, 0, none⟩ (.bool b31)) ((w35.setCell ⟨w.heap.size + 1 + 1, 0, none⟩ (.bool b31)).setCell ⟨w.heap.size + 1 + 1, 1, none⟩ (.slice p31 n31 c31)) := S.kp (g := w.heap.size + 1 + 1) (o := 1) (x := .slice none 0 0) (.slice p31 n31 c31) (by simp) (by simp)
  replace S : St w [(w.heap.size + 1 + 1, 1, .slice p31 n31 c31), (w15.heap.size + 1, 0, .bool d14), (w15.heap.size + 1, 1, .slice q14 m14 f14), (w15.heap.size, 0, .bool b14), (w15.heap.size, 1, .slice p14 n14 c14), (w12.heap.size + 1, 0, .bool d11), (w12.heap.size + 1, 1, .slice q11 m11 f11), (w12.heap.size, 0, .bool b11), (w12.heap.size, 1, .slice p11 n11 c11), (w.heap.size + 1 + 1 + 1, 0, .bool false), (w.heap.size + 1 + 1 + 1, 1, .slice none 0 0), (w.heap.size + 1 + 1, 0, .bool b31), (w.heap.size + 1, 0, .bool b2), (w.heap.size + 1, 1, .slice p2 n2 c2), (w.heap.size + 1, 2, .bool b3), (w.heap.size + 1, 3, .slice p3 n3 c3), (w.heap.size, 0, .bool b0), (w.heap.size, 1, .slice p0 n0 c0), (w.heap.size, 2, .bool b1), (w.heap.size, 3, .slice p1 n1 c1)] [(w15.heap.size + 1, 0), (w15.heap.size + 1, 1), (w15.heap.size, 0), (w15.heap.size, 1), (w12.heap.size + 1, 0), (w12.heap.size + 1, 1), (w12.heap.size, 0), (w12.heap.size, 1), (w.heap.size + 1 + 1 + 1, 0), (w.heap.size + 1 + 1 + 1, 1), (w.heap.size + 1 + 1, 0), (w.heap.size + 1 + 1, 1)] ((w35.setCell ⟨w.heap.size + 1 + 1, 0, none⟩ (.bool b31)).setCell ⟨w.heap.size + 1 + 1, 1, none⟩ (.slice p31 n31 c31)) := S.set (g := w.heap.size + 1 + 1) (o := 1) (.slice p31 n31 c31) (by simp) (by simp <;> omega) (by omega)
  replace S : St w [(w15.heap.size + 1, 0, .bool d14), (w15.heap.size + 1, 1, .slice q14 m14 f14), (w15.heap.size, 0, .bool b14), (w15.heap.size, 1, .slice p14 n14 c14), (w12.heap.size + 1, 0, .bool d11), (w12.heap.size + 1, 1, .slice q11 m11 f11), (w12.heap.size, 0, .bool b11), (w12.heap.size, 1, .slice p11 n11 c11), (w.heap.size + 1 + 1 + 1, 0, .bool false), (w.heap.size + 1 + 1 + 1, 1, .slice none 0 0), (w.heap.size + 1 + 1, 0, .bool b31), (w.heap.size + 1 + 1, 1, .slice p31 n31 c31), (w.heap.size + 1, 0, .bool b2), (w.heap.size + 1, 1, .slice p2 n2 c2), (w.heap.size + 1, 2, .bool b3), (w.heap.size + 1, 3, .slice p3 n3 c3), (w.heap.size, 0, .bool b0), (w.heap.size, 1, .slice p0 n0 c0), (w.heap.size, 2, .bool b1), (w.heap.size, 3, .slice p1 n1 c1)] [(w15.heap.size + 1, 0), (w15.heap.size + 1, 1), (w15.heap.size, 0), (w15.heap.size, 1), (w12.heap.size + 1, 0), (w12.heap.size + 1, 1), (w12.heap.size, 0), (w12.heap.size, 1), (w.heap.size + 1 + 1 + 1, 0), (w.heap.size + 1 + 1 + 1, 1), (w.heap.size + 1 + 1, 0), (w.heap.size + 1 + 1, 1)] ((w35.setCell ⟨w.heap.size + 1 + 1, 0, none⟩ (.bool b31)).setCell ⟨w.heap.size + 1 + 1, 1, none⟩ (.slice p31 n31 c31)) := S.sub (by simp) (by simp)
  replace N31 := Lib.hid (N31.out.kp (K37.trans K38))
  replace N34 := Lib.hid (N34.out.kp (K37.trans K38))
  clear K37 K38
  have sz39 : ((w35.setCell ⟨w.heap.size + 1 + 1, 0, none⟩ (.bool b31)).setCell ⟨w.heap.size + 1 + 1, 1, none⟩ (.slice p31 n31 c31)).heap.size = w35.heap.size := by simp
  generalize ((w35.setCell ⟨w.heap.size + 1 + 1, 0, none⟩ (.bool b31)).setCell ⟨w.heap.size + 1 + 1, 1, none⟩ (.slice p31 n31 c31)) = W39 at *
  clear l0 l1 l2 l3 l4 l5 l6 l7 lS
  have l0 := S.ltc (g := w.heap.size) (o := 0) (x := .bool b0) (by simp)
  have l1 := S.ltc (g := w.heap.size + 1) (o := 0) (x := .bool b2) (by simp)
  have l2 := S.ltc (g := w.heap.size + 1 + 1) (o := 0) (x := .bool b31) (by simp)
  have l3 := S.ltc (g := w.heap.size + 1 + 1 + 1) (o := 0) (x := .bool false) (by simp)
  have l4 := S.ltc (g := w12.heap.size) (o := 0) (x := .bool b11) (by simp)
  have l5 := S.ltc (g := w12.heap.size + 1) (o := 0) (x := .bool d11) (by simp)
  have l6 := S.ltc (g := w15.heap.size) (o := 0) (x := .bool b14) (by simp)
  have l7 := S.ltc (g := w15.heap.size + 1) (o := 0) (x := .bool d14) (by simp)
  have lS := S.size
  obtain ⟨e0, e1, e2, e3, e4, e5, e6, e7, e8, e9, e10, e11, e12, e13, e14, e15, e16, e17, e18, e19, h0, i0, h1, i1, h2, i2, h3, i3, h4, i4, h5, i5, h6, i6, h7, i7, h8, i8, h9, i9, h10, i10, h11, i11, G⟩ := id S
  refine wpAnyH_ready (rs := [11]) (by kernel_rfl) (by simp) ?_
  refine AllReadyH.cons (o := _) rfl (fun K hK => ?_) AllReadyH.nil
  go_simp
  refine hK.out _ _ ?hSq40 (fun hHeld => ?_)
  case hSq40 => exact (Cl.set (cs := [(w12.heap.size, 0, .bool b11), (w12.heap.size, 1, .slice p11 n11 c11), (w15.heap.size + 1, 0, .bool d14), (w15.heap.size + 1, 1, .slice q14 m14 f14), (w15.heap.size, 0, .bool b14), (w15.heap.size, 1, .slice p14 n14 c14), (w12.heap.size + 1, 0, .bool d11), (w12.heap.size + 1, 1, .slice q11 m11 f11)]) (g := w.heap.size + 1 + 1 + 1) (o := 1) (u := .slice p34 n34 c34) (Cl.set (cs := [(w12.heap.size, 0, .bool b11), (w12.heap.size, 1, .slice p11 n11 c11), (w15.heap.size + 1, 0, .bool d14), (w15.heap.size + 1, 1, .slice q14 m14 f14), (w15.heap.size, 0, .bool b14), (w15.heap.size, 1, .slice p14 n14 c14), (w12.heap.size + 1, 0, .bool d11), (w12.heap.size + 1, 1, .slice q11 m11 f11)]) (g := w.heap.size + 1 + 1 + 1) (o := 0) (u := .bool b34) (by assumption) (by simp <;> omega)) (by simp <;> omega))
  clear hK K
  try simp only [List.setIfInBounds_toArray, List.set_cons_zero, List.set_cons_succ]
  clear e0 e1 e2 e3 e4 e5 e6 e7 e8 e9 e10 e11 e12 e13 e14 e15 e16 e17 e18 e19 h0 i0 h1 i1 h2 i2 h3 i3 h4 i4 h5 i5 h6 i6 h7 i7 h8 i8 h9 i9 h10 i10 h11 i11 G
  have K41 : Kp W39 (W39.setCell ⟨w.heap.size + 1 + 1 + 1, 0, none⟩ (.bool b34)) := S.kp (g := w.heap.size + 1 + 1 + 1) (o := 0) (x := .bool false) (.bool b34) (by simp) (by simp)
  replace S : St w [(w.heap.size + 1 + 1 + 1, 0, .bool b34), (w15.heap.size + 1, 0, .bool d14), (w15.heap.size + 1, 1, .slice q14 m14 f14), (w15.heap.size, 0, .bool b14), (w15.heap.size, 1, .slice p14 n14 c14), (w12.heap.size + 1, 0, .bool d11), (w12.heap.size + 1, 1, .slice q11 m11 f11), (w12.heap.size, 0, .bool b11), (w12.heap.size, 1, .slice p11 n11 c11), (w.heap.size + 1 + 1 + 1, 1, .slice none 0 0), (w.heap.size + 1 + 1, 0, .bool b31), (w.heap.size + 1 + 1, 1, .slice p31 n31 c31), (w.heap.size + 1, 0, .bool b2), (w.heap.size + 1, 1, .slice p2 n2 c2), (w.heap.size + 1, 2, .bool b3), (w.heap.size + 1, 3, .slice p3 n3 c3), (w.heap.size, 0, .bool b0), (w.heap.size, 1, .slice p0 n0 c0), (w.heap.size, 2, .bool b1), (w.heap.size, 3, .slice p1 n1 c1)] [(w15.heap.size + 1, 0), (w15.heap.size + 1, 1), (w15.heap.size, 0), (w15.heap.size, 1), (w12.heap.size + 1, 0), (w12.heap.size + 1, 1), (w12.heap.size, 0), (w12.heap.size, 1), (w.heap.size + 1 + 1 + 1, 0), (w.heap.size + 1 + 1 + 1, 1), (w.heap.size + 1 + 1, 0), (w.heap.size + 1 + 1, 1)] (W39.setCell ⟨w.heap.size + 1 + 1 + 1, 0, none⟩ (.bool b34)) := S.set (g := w.heap.size + 1 + 1 + 1) (o := 0) (.bool b34) (by simp) (by simp <;> omega) (by omega)
  have K42 : Kp (W39.setCell ⟨w.heap.size + 1 + 1 + 1, 0, none⟩ (.bool b34)) ((W39.setCell ⟨w.heap.size + 1 + 1 + 1, 0, none⟩ (.bool b34)).setCell ⟨w.heap.size + 1 + 1 + 1, 1, none⟩ (.slice p34 n34 c34)) := S.kp (g := w.heap.size + 1 + 1 + 1) (o := 1) (x := .slice none 0 0) (.slice p34 n34 c34) (by simp) (by simp)
  replace S : St w [(w.heap.size + 1 + 1 + 1, 1, .slice p34 n34 c34), (w15.heap.size + 1, 0, .bool d14), (w15.heap.size + 1, 1, .slice q14 m14 f14), (w15.heap.size, 0, .bool b14), (w15.heap.size, 1, .slice p14 n14 c14), (w12.heap.size + 1, 0, .bool d11), (w12.heap.size + 1, 1, .slice q11 m11 f11), (w12.heap.size, 0, .bool b11), (w12.heap.size, 1, .slice p11 n11 c11), (w.heap.size + 1 + 1 + 1, 0, .bool b34), (w.heap.size + 1 + 1, 0, .bool b31), (w.heap.size + 1 + 1, 1, .slice p31 n31 c31), (w.heap.size + 1, 0, .bool b2), (w.heap.size + 1, 1, .slice p2 n2 c2), (w.heap.size + 1, 2, .bool b3), (w.heap.size + 1, 3, .slice p3 n3 c3), (w.heap.size, 0, .bool b0), (w.heap.size, 1, .slice p0 n0 c0), (w.heap.size, 2, .bool b1), (w.heap.size, 3, .slice p1 n1 c1)] [(w15.heap.size + 1, 0), (w15.heap.size + 1, 1), (w15.heap.size, 0), (w15.heap.size, 1), (w12.heap.size + 1, 0), (w12.heap.size + 1, 1), (w12.heap.size, 0), (w12.heap.size, 1), (w.heap.size + 1 + 1 + 1, 0), (w.heap.size + 1 + 1 + 1, 1), (w.heap.size + 1 + 1, 0), (w.heap.size + 1 + 1, 1)] ((W39.setCell ⟨w.heap.size + 1 + 1 + 1, 0, none⟩ (.bool b34)).setCell ⟨w.heap.size + 1 + 1 + 1, 1, none⟩ (.slice p34 n34 c34)) := S.set (g := w.heap.size + 1 + 1 + 1) (o := 1) (.slice p34 n34 c34) (by simp) (by simp <;> omega) (by omega)
  replace S : St w [(w15.heap.size + 1, 0, .bool d14), (w15.heap.size + 1, 1, .slice q14 m14 f14), (w15.heap.size, 0, .bool b14), (w15.heap.size, 1, .slice p14 n14 c14), (w12.heap.size + 1, 0, .bool d11), (w12.heap.size + 1, 1, .slice q11 m11 f11), (w12.heap.size, 0, .bool b11), (w12.heap.size, 1, .slice p11 n11 c11), (w.heap.size + 1 + 1 + 1, 0, .bool b34), (w.heap.size + 1 + 1 + 1, 1, .slice p34 n34 c34), (w.heap.size + 1 + 1, 0, .bool b31), (w.heap.size + 1 + 1, 1, .slice p31 n31 c31), (w.heap.size + 1, 0, .bool b2), (w.heap.size + 1, 1, .slice p2 n2 c2), (w.heap.size + 1, 2, .bool b3), (w.heap.size + 1, 3, .slice p3 n3 c3), (w.heap.size, 0, .bool b0), (w.heap.size, 1, .slice p0 n0 c0), (w.heap.size, 2, .bool b1), (w.heap.size, 3, .slice p1 n1 c1)] [(w15.heap.size + 1, 0), (w15.heap.size + 1, 1), (w15.heap.size, 0), (w15.heap.size, 1), (w12.heap.size + 1, 0), (w12.heap.size + 1, 1), (w12.heap.size, 0), (w12.heap.size, 1), (w.heap.size + 1 + 1 + 1, 0), (w.heap.size + 1 + 1 + 1, 1), (w.heap.size + 1 + 1, 0), (w.heap.size + 1 + 1, 1)] ((W39.setCell ⟨w.heap.size + 1 + 1 + 1, 0, none⟩ (.bool b34)).setCell ⟨w.heap.size + 1 + 1 + 1, 1, none⟩ (.slice p34 n34 c34)) := S.sub (by simp) (by simp)
  replace N31 := Lib.hid (N31.out.kp (K41.trans K42))
  replace N34 := Lib.hid (N34.out.kp (K41.trans K42))
  clear K41 K42
  have sz43 : ((W39.setCell ⟨w.heap.size + 1 + 1 + 1, 0, none⟩ (.bool b34)).setCell ⟨w.heap.size + 1 + 1 + 1, 1, none⟩ (.slice p34 n34 c34)).heap.size = W39.heap.size := by simp
  generalize ((W39.setCell ⟨w.heap.size + 1 + 1 + 1, 0, none⟩ (.bool b34)).setCell ⟨w.heap.size + 1 + 1 + 1, 1, none⟩ (.slice p34 n34 c34)) = W43 at *
  clear l0 l1 l2 l3 l4 l5 l6 l7 lS
  have l0 := S.ltc (g := w.heap.size) (o := 0) (x := .bool b0) (by simp)
  have l1 := S.ltc (g := w.heap.size + 1) (o := 0) (x := .bool b2) (by simp)
  have l2 := S.ltc (g := w.heap.size + 1 + 1) (o := 0) (x := .bool b31) (by simp)
  have l3 := S.ltc (g := w.heap.size + 1 + 1 + 1) (o := 0) (x := .bool b34) (by simp)
  have l4 := S.ltc (g := w12.heap.size) (o := 0) (x := .bool b11) (by simp)
  have l5 := S.ltc (g := w12.heap.size + 1) (o := 0) (x := .bool d11) (by simp)
  have l6 := S.ltc (g := w15.heap.size) (o := 0) (x := .bool b14) (by simp)
  have l7 := S.ltc (g := w15.heap.size + 1) (o := 0) (x := .bool d14) (by simp)
  have lS := S.size
  refine wpAnyH_done (by kernel_rfl) ?_ _
  refine NoPanic.normal ?_
  obtain ⟨e0, e1, e2, e3, e4, e5, e6, e7, e8, e9, e10, e11, e12, e13, e14, e15, e16, e17, e18, e19, h0, i0, h1, i1, h2, i2, h3, i3, h4, i4, h5, i5, h6, i6, h7, i7, h8, i8, h9, i9, h10, i10, h11, i11, G⟩ := id S
  go_wp2_with fail
  clear e0 e1 e2 e3 e4 e5 e6 e7 e8 e9 e10 e11 e12 e13 e14 e15 e16 e17 e18 e19 h0 i0 h1 i1 h2 i2 h3 i3 h4 i4 h5 i5 h6 i6 h7 i7 h8 i8 h9 i9 h10 i10 h11 i11 G
  refine post_II Tryz.results93 rfl rfl rfl (S.cell (g := w.heap.size + 1 + 1) (o := 0) (x := .bool b31) (by simp)) (S.cell (g := w.heap.size + 1 + 1) (o := 1) (x := .slice p31 n31 c31) (by simp)) (S.cell (g := w.heap.size + 1 + 1 + 1) (o := 0) (x := .bool b34) (by simp)) (S.cell (g := w.heap.size + 1 + 1 + 1) (o := 1) (x := .slice p34 n34 c34) (by simp)) ⟨_, _, _, _, _, _, _, _, z31, z34, rfl, N31.out.i.more (by omega), N34.out.i.more (by omega), by rw [← E34.out]; exact Int.mul_pos Y11.out Y14.out, by rw [← E34.out, ← E31.out, ← E25.out, ← E28.out, ← add_parts Y11.out Y14.out, Q11.out, Q14.out], S.all⟩

end Go.Proofs.YtmkplojojaopmaaGreatDoor
