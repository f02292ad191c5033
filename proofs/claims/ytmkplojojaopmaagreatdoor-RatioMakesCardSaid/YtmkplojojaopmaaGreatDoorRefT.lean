/- Layer 4's is and of; a rational that is compared, or cut. -/
import Derived.Test.YtmkplojojaopmaaGreatDoorRefS
namespace Go.Proofs.YtmkplojojaopmaaGreatDoor
open Go.RowKit

theorem NorV.nor {w : World} {v : Value} {z : Int} {k : Nat} (h : NorV w v z k) : NorI w v z := h.1
set_option maxHeartbeats 4000000 in
set_option maxRecDepth 100000 in
theorem SameR_g {v : Value} {q : Rat} {i : Nat} {w : World} (hx : DecQ w v q i) {u : Value} {r : Rat} {j : Nat} (hy : NorQ w u r j) (hk : i ≤ 1000000) (e : q = r) :
    Calls Tryz.prog 85 #[v, u] w (Bool_ w true) := by
  subst e
  obtain ⟨p0, n0, c0, b0, p1, n1, c1, b1, rfl, hn0, hd0⟩ := hx
  have Hx := Lib.hid (show DecQ w (.agg #[.slice p0 n0 c0, .bool b0, .slice p1 n1 c1, .bool b1]) q i from ⟨_, _, _, _, _, _, _, _, rfl, hn0, hd0⟩)
  have Hxn := Lib.hid hn0
  have Hxd := Lib.hid hd0
  clear hn0 hd0
  obtain ⟨b2, p2, n2, c2, b3, p3, n3, c3, rfl, hm, he⟩ := hy
  have Hm := Lib.hid hm
  have He := Lib.hid he
  clear hm he
  have S : St w [] [] w := St.start w
  go_enter Tryz.func85, Tryz.ntmps85
  have G := S
  go_wp2_with fail
  clear G
  replace S : St w [(w.heap.size, 0, .slice p0 n0 c0), (w.heap.size, 1, .bool b0), (w.heap.size, 2, .slice p1 n1 c1), (w.heap.size, 3, .bool b1)] [] (w.alloc (.cells #[.slice p0 n0 c0, .bool b0, .slice p1 n1 c1, .bool b1] 49)) := S.box (w.heap.size) [.slice p0 n0 c0, .bool b0, .slice p1 n1 c1, .bool b1] 49 (by simp)
  replace S : St w [(w.heap.size + 1, 0, .bool b2), (w.heap.size + 1, 1, .slice p2 n2 c2), (w.heap.size + 1, 2, .bool b3), (w.heap.size + 1, 3, .slice p3 n3 c3), (w.heap.size, 0, .slice p0 n0 c0), (w.heap.size, 1, .bool b0), (w.heap.size, 2, .slice p1 n1 c1), (w.heap.size, 3, .bool b1)] [] ((w.alloc (.cells #[.slice p0 n0 c0, .bool b0, .slice p1 n1 c1, .bool b1] 49)).alloc (.cells #[.bool b2, .slice p2 n2 c2, .bool b3, .slice p3 n3 c3] 46)) := S.box (w.heap.size + 1) [.bool b2, .slice p2 n2 c2, .bool b3, .slice p3 n3 c3] 46 (by simp)
  clear Hx
  replace Hxn := Lib.hid (Hxn.out.kp ((Kp.of (grown_alloc w (.cells #[.slice p0 n0 c0, .bool b0, .slice p1 n1 c1, .bool b1] 49) none)).trans (Kp.of (grown_alloc ((w.alloc (.cells #[.slice p0 n0 c0, .bool b0, .slice p1 n1 c1, .bool b1] 49))) (.cells #[.bool b2, .slice p2 n2 c2, .bool b3, .slice p3 n3 c3] 46) none))))
  replace Hxd := Lib.hid (Hxd.out.kp ((Kp.of (grown_alloc w (.cells #[.slice p0 n0 c0, .bool b0, .slice p1 n1 c1, .bool b1] 49) none)).trans (Kp.of (grown_alloc ((w.alloc (.cells #[.slice p0 n0 c0, .bool b0, .slice p1 n1 c1, .bool b1] 49))) (.cells #[.bool b2, .slice p2 n2 c2, .bool b3, .slice p3 n3 c3] 46) none))))
  replace Hm := Lib.hid (Hm.out.kp ((Kp.of (grown_alloc w (.cells #[.slice p0 n0 c0, .bool b0, .slice p1 n1 c1, .bool b1] 49) none)).trans (Kp.of (grown_alloc ((w.alloc (.cells #[.slice p0 n0 c0, .bool b0, .slice p1 n1 c1, .bool b1] 49))) (.cells #[.bool b2, .slice p2 n2 c2, .bool b3, .slice p3 n3 c3] 46) none))))
  replace He := Lib.hid (He.out.kp ((Kp.of (grown_alloc w (.cells #[.slice p0 n0 c0, .bool b0, .slice p1 n1 c1, .bool b1] 49) none)).trans (Kp.of (grown_alloc ((w.alloc (.cells #[.slice p0 n0 c0, .bool b0, .slice p1 n1 c1, .bool b1] 49))) (.cells #[.bool b2, .slice p2 n2 c2, .bool b3, .slice p3 n3 c3] 46) none))))
  have sz10 : ((w.alloc (.cells #[.slice p0 n0 c0, .bool b0, .slice p1 n1 c1, .bool b1] 49)).alloc (.cells #[.bool b2, .slice p2 n2 c2, .bool b3, .slice p3 n3 c3] 46)).heap.size = w.heap.size + 2 := by simp
  generalize ((w.alloc (.cells #[.slice p0 n0 c0, .bool b0, .slice p1 n1 c1, .bool b1] 49)).alloc (.cells #[.bool b2, .slice p2 n2 c2, .bool b3, .slice p3 n3 c3] 46)) = W10 at *
  go_at_call 24
  with_reducible refine (Same_r (Hxn.out.eqz rfl) (by omega) Hm.out.nor).mono ?_
  rintro e w11 ⟨rfl, g⟩
  clear Hxn
  replace Hxd := Lib.hid (Hxd.out.kp (Kp.of g))
  clear Hm
  replace He := Lib.hid (He.out.kp (Kp.of g))
  replace S := S.step g
  have lg11 := g.size
  clear g
  have l0 := S.ltc (g := w.heap.size) (o := 0) (x := .slice p0 n0 c0) (by simp)
  have l1 := S.ltc (g := w.heap.size + 1) (o := 0) (x := .bool b2) (by simp)
  have lS := S.size
  obtain ⟨e0, e1, e2, e3, e4, e5, e6, e7, G⟩ := id S
  go_wp2_with fail
  clear e0 e1 e2 e3 e4 e5 e6 e7 G
  go_at_call 24
  with_reducible refine (Same_r (Hxd.out.eqz rfl) (by omega) He.out.nor).mono ?_
  rintro e w12 ⟨rfl, g⟩
  clear Hxd He
  replace S := S.step g
  have lg12 := g.size
  clear g l0 l1 lS
  have l0 := S.ltc (g := w.heap.size) (o := 0) (x := .slice p0 n0 c0) (by simp)
  have l1 := S.ltc (g := w.heap.size + 1) (o := 0) (x := .bool b2) (by simp)
  have lS := S.size
  obtain ⟨e0, e1, e2, e3, e4, e5, e6, e7, G⟩ := id S
  go_wp2_with fail
  clear e0 e1 e2 e3 e4 e5 e6 e7 G
  go_ret
  exact ⟨rfl, S.all⟩

set_option maxHeartbeats 4000000 in
set_option maxRecDepth 100000 in
theorem Is_q {v : Value} {q : Rat} {i : Nat} {w : World} (hx : DecQ w v q i) {u : Value} {r : Rat} {j : Nat} (hy : NorQ w u r j) (hk : i ≤ 1000000) (e : q = r) :
    Calls Tryz.prog 34 #[v, u] w (Bool_ w true) := by
  have Ht := Lib.hid e
  clear e
  obtain ⟨p0, n0, c0, b0, p1, n1, c1, b1, rfl, hn0, hd0⟩ := hx
  have Hx := Lib.hid (show DecQ w (.agg #[.slice p0 n0 c0, .bool b0, .slice p1 n1 c1, .bool b1]) q i from ⟨_, _, _, _, _, _, _, _, rfl, hn0, hd0⟩)
  clear hn0 hd0
  obtain ⟨b2, p2, n2, c2, b3, p3, n3, c3, rfl, hm, he⟩ := hy
  have Hu := Lib.hid (show NorQ w (.agg #[.bool b2, .slice p2 n2 c2, .bool b3, .slice p3 n3 c3]) r j from ⟨_, _, _, _, _, _, _, _, rfl, hm, he⟩)
  clear hm he
  have S : St w [] [] w := St.start w
  go_enter Tryz.func34, Tryz.ntmps34
  have G := S
  go_wp2_with fail
  clear G
  replace S : St w [(w.heap.size, 0, .slice p0 n0 c0), (w.heap.size, 1, .bool b0), (w.heap.size, 2, .slice p1 n1 c1), (w.heap.size, 3, .bool b1)] [] (w.alloc (.cells #[.slice p0 n0 c0, .bool b0, .slice p1 n1 c1, .bool b1] 49)) := S.box (w.heap.size) [.slice p0 n0 c0, .bool b0, .slice p1 n1 c1, .bool b1] 49 (by simp)
  replace S : St w [(w.heap.size + 1, 0, .bool b2), (w.heap.size + 1, 1, .slice p2 n2 c2), (w.heap.size + 1, 2, .bool b3), (w.heap.size + 1, 3, .slice p3 n3 c3), (w.heap.size, 0, .slice p0 n0 c0), (w.heap.size, 1, .bool b0), (w.heap.size, 2, .slice p1 n1 c1), (w.heap.size, 3, .bool b1)] [] ((w.alloc (.cells #[.slice p0 n0 c0, .bool b0, .slice p1 n1 c1, .bool b1] 49)).alloc (.cells #[.bool b2, .slice p2 n2 c2, .bool b3, .slice p3 n3 c3] 46)) := S.box (w.heap.size + 1) [.bool b2, .slice p2 n2 c2, .bool b3, .slice p3 n3 c3] 46 (by simp)
  replace Hx := Lib.hid (Hx.out.kp ((Kp.of (grown_alloc w (.cells #[.slice p0 n0 c0, .bool b0, .slice p1 n1 c1, .bool b1] 49) none)).trans (Kp.of (grown_alloc ((w.alloc (.cells #[.slice p0 n0 c0, .bool b0, .slice p1 n1 c1, .bool b1] 49))) (.cells #[.bool b2, .slice p2 n2 c2, .bool b3, .slice p3 n3 c3] 46) none))))
  replace Hu := Lib.hid (Hu.out.kp ((Kp.of (grown_alloc w (.cells #[.slice p0 n0 c0, .bool b0, .slice p1 n1 c1, .bool b1] 49) none)).trans (Kp.of (grown_alloc ((w.alloc (.cells #[.slice p0 n0 c0, .bool b0, .slice p1 n1 c1, .bool b1] 49))) (.cells #[.bool b2, .slice p2 n2 c2, .bool b3, .slice p3 n3 c3] 46) none))))
  have sz10 : ((w.alloc (.cells #[.slice p0 n0 c0, .bool b0, .slice p1 n1 c1, .bool b1] 49)).alloc (.cells #[.bool b2, .slice p2 n2 c2, .bool b3, .slice p3 n3 c3] 46)).heap.size = w.heap.size + 2 := by simp
  generalize ((w.alloc (.cells #[.slice p0 n0 c0, .bool b0, .slice p1 n1 c1, .bool b1] 49)).alloc (.cells #[.bool b2, .slice p2 n2 c2, .bool b3, .slice p3 n3 c3] 46)) = W10 at *
  go_at_call 85
  with_reducible refine (SameR_g Hx.out Hu.out (by omega) Ht.out).mono ?_
  rintro e w11 ⟨rfl, g⟩
  clear Hx Hu
  replace S := S.step g
  have lg11 := g.size
  clear g
  have l0 := S.ltc (g := w.heap.size) (o := 0) (x := .slice p0 n0 c0) (by simp)
  have l1 := S.ltc (g := w.heap.size + 1) (o := 0) (x := .bool b2) (by simp)
  have lS := S.size
  obtain ⟨e0, e1, e2, e3, e4, e5, e6, e7, G⟩ := id S
  go_wp2_with fail
  clear e0 e1 e2 e3 e4 e5 e6 e7 G
  go_ret
  exact ⟨rfl, S.all⟩

theorem Int_l {b : Bool} {p : Option Addr} {l cap n : Nat} {xs : List Nat} {w : World} (k : Nat) (hl : xs.length = l) (h1 : l ≤ cap) (hn : (xs.take k).length = n) :
    Calls Tryz.prog 16 #[.agg #[.bool b, .slice p l cap], .int .i64 k] w fun e w' => e = .returned (.agg #[.bool b, .slice p n cap]) ∧ w.grownBy w' none := by
  subst hl
  exact Int_k k h1 hn
set_option maxHeartbeats 4000000 in
set_option maxRecDepth 100000 in
theorem Rat_k {b0 b1 : Bool} {p0 p1 : Option Addr} {n0 c0 n1 c1 m0 m1 : Nat} {xs ys : List Nat} {w : World} (k : Nat) (l0 : xs.length = n0) (l1 : ys.length = n1) (h0 : n0 ≤ c0) (h1 : n1 ≤ c1) (e0 : (xs.take k).length = m0) (e1 : (ys.take k).length = m1) :
    Calls Tryz.prog 27 #[.agg #[.bool b0, .slice p0 n0 c0, .bool b1, .slice p1 n1 c1], .int .i64 k] w fun e w' => e = .returned (.agg #[.bool b0, .slice p0 m0 c0, .bool b1, .slice p1 m1 c1]) ∧ w.grownBy w' none := by
  have L0 := Lib.hid l0
  have L1 := Lib.hid l1
  have M0 := Lib.hid e0
  have M1 := Lib.hid e1
  clear l0 l1 e0 e1
  have S : St w [] [] w := St.start w
  go_enter Tryz.func27, Tryz.ntmps27
  have G := S
  go_wp2_with fail
  clear G
  replace S : St w [(w.heap.size, 0, .bool b0), (w.heap.size, 1, .slice p0 n0 c0), (w.heap.size, 2, .bool b1), (w.heap.size, 3, .slice p1 n1 c1)] [] (w.alloc (.cells #[.bool b0, .slice p0 n0 c0, .bool b1, .slice p1 n1 c1] 46)) := S.box (w.heap.size) [.bool b0, .slice p0 n0 c0, .bool b1, .slice p1 n1 c1] 46 (by simp)
  replace S : St w [(w.heap.size + 1, 0, .bool false), (w.heap.size + 1, 1, .slice none 0 0), (w.heap.size + 1, 2, .bool false), (w.heap.size + 1, 3, .slice none 0 0), (w.heap.size, 0, .bool b0), (w.heap.size, 1, .slice p0 n0 c0), (w.heap.size, 2, .bool b1), (w.heap.size, 3, .slice p1 n1 c1)] [(w.heap.size + 1, 0), (w.heap.size + 1, 1), (w.heap.size + 1, 2), (w.heap.size + 1, 3)] ((w.alloc (.cells #[.bool b0, .slice p0 n0 c0, .bool b1, .slice p1 n1 c1] 46)).alloc (.cells #[.bool false, .slice none 0 0, .bool false, .slice none 0 0] 46)) := S.made (w.heap.size + 1) [.bool false, .slice none 0 0, .bool false, .slice none 0 0] 46 (by simp)
  have sz10 : ((w.alloc (.cells #[.bool b0, .slice p0 n0 c0, .bool b1, .slice p1 n1 c1] 46)).alloc (.cells #[.bool false, .slice none 0 0, .bool false, .slice none 0 0] 46)).heap.size = w.heap.size + 2 := by simp
  generalize ((w.alloc (.cells #[.bool b0, .slice p0 n0 c0, .bool b1, .slice p1 n1 c1] 46)).alloc (.cells #[.bool false, .slice none 0 0, .bool false, .slice none 0 0] 46)) = W10 at *
  have T0 : Cl [(w.heap.size, 0, .bool b0), (w.heap.size, 1, .slice p0 n0 c0), (w.heap.size, 2, .bool b1), (w.heap.size, 3, .slice p1 n1 c1)] W10 := S.cl (by simp)
  refine wp_region_noPanic ?_
  refine wp_region_held_drew (S := fun w' => w'.cell? ⟨w.heap.size, 0, none⟩ = some (.bool b0) ∧ w'.cell? ⟨w.heap.size, 1, none⟩ = some (.slice p0 n0 c0) ∧ w'.cell? ⟨w.heap.size, 2, none⟩ = some (.bool b1) ∧ w'.cell? ⟨w.heap.size, 3, none⟩ = some (.slice p1 n1 c1) ∧ True) (by kernel_rfl) (by exact Cl.step (cs := [(w.heap.size, 0, .bool b0), (w.heap.size, 1, .slice p0 n0 c0), (w.heap.size, 2, .bool b1), (w.heap.size, 3, .slice p1 n1 c1)]) (grown_drew _ _) T0) (fun hHeld => ?_)
  change wpAnyH _ _ _ _ _ 10 #[false, false, false, false, false, false, false, false, false, false] _ _
  replace S := S.step (grown_drew W10 none)
  have lg11 := (grown_drew W10 none).size
  clear T0
  generalize W10.drew = wr11 at *
  have l0 := S.ltc (g := w.heap.size) (o := 0) (x := .bool b0) (by simp)
  have l1 := S.ltc (g := w.heap.size + 1) (o := 0) (x := .bool false) (by simp)
  have lS := S.size
  refine wpAnyH_take (i := 0) (oi := _) (v := ?vq12) rfl (by kernel_rfl) (by kernel_rfl) (by kernel_rfl) (fun _ _ _ h => h) (Or.inl ⟨by rfl, ?hyq12⟩) (by assumption) ?restq12
  case hyq12 => (intro w hSw; (try dsimp only at hSw); go_simp; try with_reducible rfl)
  try simp only [Act.put, List.getElem_toArray, List.getElem_cons_zero, List.setIfInBounds_toArray, List.set_cons_zero, List.set_cons_succ]
  refine wpAnyH_take (i := 1) (oi := _) (v := ?vq13) rfl (by kernel_rfl) (by kernel_rfl) (by kernel_rfl) (fun _ _ _ h => h) (Or.inl ⟨by rfl, ?hyq13⟩) (by assumption) ?restq13
  case hyq13 => (intro w hSw; (try dsimp only at hSw); go_simp; try with_reducible rfl)
  try simp only [Act.put, List.getElem_toArray, List.getElem_cons_zero, List.getElem_cons_succ, List.setIfInBounds_toArray, List.set_cons_zero, List.set_cons_succ]
  refine wpAnyH_take (i := 2) (oi := _) (v := ?vq14) rfl (by kernel_rfl) (by kernel_rfl) (by kernel_rfl) (fun _ _ _ h => h) (Or.inl ⟨by rfl, ?hyq14⟩) (by assumption) ?restq14
  case hyq14 => (intro w hSw; (try dsimp only at hSw); go_simp; try with_reducible rfl)
  try simp only [Act.put, List.getElem_toArray, List.getElem_cons_zero, List.getElem_cons_succ, List.setIfInBounds_toArray, List.set_cons_zero, List.set_cons_succ]
  refine wpAnyH_take (i := 4) (oi := _) (v := ?vq15) rfl (by kernel_rfl) (by kernel_rfl) (by kernel_rfl) (fun _ _ _ h => h) (Or.inl ⟨by rfl, ?hyq15⟩) (by assumption) ?restq15
  case hyq15 => (intro w hSw; (try dsimp only at hSw); go_simp; try with_reducible rfl)
  try simp only [Act.put, List.getElem_toArray, List.getElem_cons_zero, List.getElem_cons_succ, List.setIfInBounds_toArray, List.set_cons_zero, List.set_cons_succ]
  refine wpAnyH_take (i := 5) (oi := _) (v := ?vq16) rfl (by kernel_rfl) (by kernel_rfl) (by kernel_rfl) (fun _ _ _ h => h) (Or.inl ⟨by rfl, ?hyq16⟩) (by assumption) ?restq16
  case hyq16 => (intro w hSw; (try dsimp only at hSw); go_simp; try with_reducible rfl)
  try simp only [Act.put, List.getElem_toArray, List.getElem_cons_zero, List.getElem_cons_succ, List.setIfInBounds_toArray, List.set_cons_zero, List.set_cons_succ]
  refine wpAnyH_take (i := 6) (oi := _) (v := ?vq17) rfl (by kernel_rfl) (by kernel_rfl) (by kernel_rfl) (fun _ _ _ h => h) (Or.inl ⟨by rfl, ?hyq17⟩) (by assumption) ?restq17
  case hyq17 => (intro w hSw; (try dsimp only at hSw); go_simp; try with_reducible rfl)
  try simp only [Act.put, List.getElem_toArray, List.getElem_cons_zero, List.getElem_cons_succ, List.setIfInBounds_toArray, List.set_cons_zero, List.set_cons_succ]
  refine wpAnyH_ready (rs := [3]) (by kernel_rfl) (by simp) ?_
  refine AllReadyH.cons (o := _) rfl (fun K hK => ?_) AllReadyH.nil
  go_simp
  go_at_call 16
  with_reducible refine (Int_l k L0.out h0 M0.out).mono ?_
  rintro e w19 ⟨rfl, g⟩
  replace S := S.step g
  have lg19 := g.size
  clear l0 l1 lS
  have l0 := S.ltc (g := w.heap.size) (o := 0) (x := .bool b0) (by simp)
  have l1 := S.ltc (g := w.heap.size + 1) (o := 0) (x := .bool false) (by simp)
  have lS := S.size
  go_wp2_with fail
  refine hK.out _ _ ?hSq18 (fun hHeld => ?_)
  case hSq18 => exact Cl.step (cs := [(w.heap.size, 0, .bool b0), (w.heap.size, 1, .slice p0 n0 c0), (w.heap.size, 2, .bool b1), (w.heap.size, 3, .slice p1 n1 c1)]) g (by assumption)
  clear hK K g
  try simp only [List.setIfInBounds_toArray, List.set_cons_zero, List.set_cons_succ]
  refine wpAnyH_ready (rs := [7]) (by kernel_rfl) (by simp) ?_
  refine AllReadyH.cons (o := _) rfl (fun K hK => ?_) AllReadyH.nil
  go_simp
  go_at_call 16
  with_reducible refine (Int_l k L1.out h1 M1.out).mono ?_
  rintro e w21 ⟨rfl, g⟩
  replace S := S.step g
  have lg21 := g.size
  clear l0 l1 lS
  have l0 := S.ltc (g := w.heap.size) (o := 0) (x := .bool b0) (by simp)
  have l1 := S.ltc (g := w.heap.size + 1) (o := 0) (x := .bool false) (by simp)
  have lS := S.size
  go_wp2_with fail
  refine hK.out _ _ ?hSq20 (fun hHeld => ?_)
  case hSq20 => exact Cl.step (cs := [(w.heap.size, 0, .bool b0), (w.heap.size, 1, .slice p0 n0 c0), (w.heap.size, 2, .bool b1), (w.heap.size, 3, .slice p1 n1 c1)]) g (by assumption)
  clear hK K g
  try simp only [List.setIfInBounds_toArray, List.set_cons_zero, List.set_cons_succ]
  refine wpAnyH_take (i := 8) (oi := _) (v := ?vq22) rfl (by kernel_rfl) (by kernel_rfl) (by kernel_rfl) (fun _ _ _ h => h) (Or.inl ⟨by rfl, ?hyq22⟩) (by assumption) ?restq22
  case hyq22 => (intro w hSw; (try dsimp only at hSw); go_simp; try with_reducible rfl)
  try simp only [Act.put, List.getElem_toArray, List.getElem_cons_zero, List.getElem_cons_succ, List.setIfInBounds_toArray, List.set_cons_zero, List.set_cons_succ]
  obtain ⟨e0, e1, e2, e3, e4, e5, e6, e7, h0, i0, h1, i1, h2, i2, h3, i3, G⟩ := id S
  refine wpAnyH_ready (rs := [9]) (by kernel_rfl) (by simp) ?_
  refine AllReadyH.cons (o := _) rfl (fun K hK => ?_) AllReadyH.nil
  go_simp
  refine hK.out _ _ ?hSq23 (fun hHeld => ?_)
  case hSq23 => exact (Cl.set (cs := [(w.heap.size, 0, .bool b0), (w.heap.size, 1, .slice p0 n0 c0), (w.heap.size, 2, .bool b1), (w.heap.size, 3, .slice p1 n1 c1)]) (g := w.heap.size + 1) (o := 3) (u := .slice p1 m1 c1) (Cl.set (cs := [(w.heap.size, 0, .bool b0), (w.heap.size, 1, .slice p0 n0 c0), (w.heap.size, 2, .bool b1), (w.heap.size, 3, .slice p1 n1 c1)]) (g := w.heap.size + 1) (o := 2) (u := .bool b1) (Cl.set (cs := [(w.heap.size, 0, .bool b0), (w.heap.size, 1, .slice p0 n0 c0), (w.heap.size, 2, .bool b1), (w.heap.size, 3, .slice p1 n1 c1)]) (g := w.heap.size + 1) (o := 1) (u := .slice p0 m0 c0) (Cl.set (cs := [(w.heap.size, 0, .bool b0), (w.heap.size, 1, .slice p0 n0 c0), (w.heap.size, 2, .bool b1), (w.heap.size, 3, .slice p1 n1 c1)]) (g := w.heap.size + 1) (o := 0) (u := .bool b0) (by assumption) (by simp <;> omega)) (by simp <;> omega)) (by simp <;> omega)) (by simp <;> omega))
  clear hK K
  try simp only [List.setIfInBounds_toArray, List.set_cons_zero, List.set_cons_succ]
  clear e0 e1 e2 e3 e4 e5 e6 e7 h0 i0 h1 i1 h2 i2 h3 i3 G
  have K24 : Kp w21 (w21.setCell ⟨w.heap.size + 1, 0, none⟩ (.bool b0)) := S.kp (g := w.heap.size + 1) (o := 0) (x := .bool false) (.bool b0) (by simp) (by simp)
  replace S : St w [(w.heap.size + 1, 0, .bool b0), (w.heap.size + 1, 1, .slice none 0 0), (w.heap.size + 1, 2, .bool false), (w.heap.size + 1, 3, .slice none 0 0), (w.heap.size, 0, .bool b0), (w.heap.size, 1, .slice p0 n0 c0), (w.heap.size, 2, .bool b1), (w.heap.size, 3, .slice p1 n1 c1)] [(w.heap.size + 1, 0), (w.heap.size + 1, 1), (w.heap.size + 1, 2), (w.heap.size + 1, 3)] (w21.setCell ⟨w.heap.size + 1, 0, none⟩ (.bool b0)) := S.set (g := w.heap.size + 1) (o := 0) (.bool b0) (by simp) (by simp <;> omega) (by omega)
  have K25 : Kp (w21.setCell ⟨w.heap.size + 1, 0, none⟩ (.bool b0)) ((w21.setCell ⟨w.heap.size + 1, 0, none⟩ (.bool b0)).setCell ⟨w.heap.size + 1, 1, none⟩ (.slice p0 m0 c0)) := S.kp (g := w.heap.size + 1) (o := 1) (x := .slice none 0 0) (.slice p0 m0 c0) (by simp) (by simp)
  replace S : St w [(w.heap.size + 1, 1, .slice p0 m0 c0), (w.heap.size + 1, 0, .bool b0), (w.heap.size + 1, 2, .bool false), (w.heap.size + 1, 3, .slice none 0 0), (w.heap.size, 0, .bool b0), (w.heap.size, 1, .slice p0 n0 c0), (w.heap.size, 2, .bool b1), (w.heap.size, 3, .slice p1 n1 c1)] [(w.heap.size + 1, 0), (w.heap.size + 1, 1), (w.heap.size + 1, 2), (w.heap.size + 1, 3)] ((w21.setCell ⟨w.heap.size + 1, 0, none⟩ (.bool b0)).setCell ⟨w.heap.size + 1, 1, none⟩ (.slice p0 m0 c0)) := S.set (g := w.heap.size + 1) (o := 1) (.slice p0 m0 c0) (by simp) (by simp <;> omega) (by omega)
  have K26 : Kp ((w21.setCell ⟨w.heap.size + 1, 0, none⟩ (.bool b0)).setCell ⟨w.heap.size + 1, 1, none⟩ (.slice p0 m0 c0)) (((w21.setCell ⟨w.heap.size + 1, 0, none⟩ (.bool b0)).setCell ⟨w.heap.size + 1, 1, none⟩ (.slice p0 m0 c0)).setCell ⟨w.heap.size + 1, 2, none⟩ (.bool b1)) := S.kp (g := w.heap.size + 1) (o := 2) (x := .bool false) (.bool b1) (by simp) (by simp)
  replace S : St w [(w.heap.size + 1, 2, .bool b1), (w.heap.size + 1, 0, .bool b0), (w.heap.size + 1, 1, .slice p0 m0 c0), (w.heap.size + 1, 3, .slice none 0 0), (w.heap.size, 0, .bool b0), (w.heap.size, 1, .slice p0 n0 c0), (w.heap.size, 2, .bool b1), (w.heap.size, 3, .slice p1 n1 c1)] [(w.heap.size + 1, 0), (w.heap.size + 1, 1), (w.heap.size + 1, 2), (w.heap.size + 1, 3)] (((w21.setCell ⟨w.heap.size + 1, 0, none⟩ (.bool b0)).setCell ⟨w.heap.size + 1, 1, none⟩ (.slice p0 m0 c0)).setCell ⟨w.heap.size + 1, 2, none⟩ (.bool b1)) := S.set (g := w.heap.size + 1) (o := 2) (.bool b1) (by simp) (by simp <;> omega) (by omega)
  have K27 : Kp (((w21.setCell ⟨w.heap.size + 1, 0, none⟩ (.bool b0)).setCell ⟨w.heap.size + 1, 1, none⟩ (.slice p0 m0 c0)).setCell ⟨w.heap.size + 1, 2, none⟩ (.bool b1)) ((((w21.setCell ⟨w.heap.size + 1, 0, none⟩ (.bool b0)).setCell ⟨w.heap.size + 1, 1, none⟩ (.slice p0 m0 c0)).setCell ⟨w.heap.size + 1, 2, none⟩ (.bool b1)).setCell ⟨w.heap.size + 1, 3, none⟩ (.slice p1 m1 c1)) := S.kp (g := w.heap.size + 1) (o := 3) (x := .slice none 0 0) (.slice p1 m1 c1) (by simp) (by simp)
  replace S : St w [(w.heap.size + 1, 3, .slice p1 m1 c1), (w.heap.size + 1, 0, .bool b0), (w.heap.size + 1, 1, .slice p0 m0 c0), (w.heap.size + 1, 2, .bool b1), (w.heap.size, 0, .bool b0), (w.heap.size, 1, .slice p0 n0 c0), (w.heap.size, 2, .bool b1), (w.heap.size, 3, .slice p1 n1 c1)] [(w.heap.size + 1, 0), (w.heap.size + 1, 1), (w.heap.size + 1, 2), (w.heap.size + 1, 3)] ((((w21.setCell ⟨w.heap.size + 1, 0, none⟩ (.bool b0)).setCell ⟨w.heap.size + 1, 1, none⟩ (.slice p0 m0 c0)).setCell ⟨w.heap.size + 1, 2, none⟩ (.bool b1)).setCell ⟨w.heap.size + 1, 3, none⟩ (.slice p1 m1 c1)) := S.set (g := w.heap.size + 1) (o := 3) (.slice p1 m1 c1) (by simp) (by simp <;> omega) (by omega)
  replace S : St w [(w.heap.size + 1, 0, .bool b0), (w.heap.size + 1, 1, .slice p0 m0 c0), (w.heap.size + 1, 2, .bool b1), (w.heap.size + 1, 3, .slice p1 m1 c1), (w.heap.size, 0, .bool b0), (w.heap.size, 1, .slice p0 n0 c0), (w.heap.size, 2, .bool b1), (w.heap.size, 3, .slice p1 n1 c1)] [(w.heap.size + 1, 0), (w.heap.size + 1, 1), (w.heap.size + 1, 2), (w.heap.size + 1, 3)] ((((w21.setCell ⟨w.heap.size + 1, 0, none⟩ (.bool b0)).setCell ⟨w.heap.size + 1, 1, none⟩ (.slice p0 m0 c0)).setCell ⟨w.heap.size + 1, 2, none⟩ (.bool b1)).setCell ⟨w.heap.size + 1, 3, none⟩ (.slice p1 m1 c1)) := S.sub (by simp) (by simp)
  clear K24 K25 K26 K27
  have sz28 : ((((w21.setCell ⟨w.heap.size + 1, 0, none⟩ (.bool b0)).setCell ⟨w.heap.size + 1, 1, none⟩ (.slice p0 m0 c0)).setCell ⟨w.heap.size + 1, 2, none⟩ (.bool b1)).setCell ⟨w.heap.size + 1, 3, none⟩ (.slice p1 m1 c1)).heap.size = w21.heap.size := by simp
  generalize ((((w21.setCell ⟨w.heap.size + 1, 0, none⟩ (.bool b0)).setCell ⟨w.heap.size + 1, 1, none⟩ (.slice p0 m0 c0)).setCell ⟨w.heap.size + 1, 2, none⟩ (.bool b1)).setCell ⟨w.heap.size + 1, 3, none⟩ (.slice p1 m1 c1)) = W28 at *
  clear l0 l1 lS
  have l0 := S.ltc (g := w.heap.size) (o := 0) (x := .bool b0) (by simp)
  have l1 := S.ltc (g := w.heap.size + 1) (o := 0) (x := .bool b0) (by simp)
  have lS := S.size
  refine wpAnyH_done (by kernel_rfl) ?_ _
  refine NoPanic.normal ?_
  obtain ⟨e0, e1, e2, e3, e4, e5, e6, e7, h0, i0, h1, i1, h2, i2, h3, i3, G⟩ := id S
  go_wp2_with fail
  clear e0 e1 e2 e3 e4 e5 e6 e7 h0 i0 h1 i1 h2 i2 h3 i3 G
  refine post_Q Tryz.results27 rfl rfl (S.cell (g := w.heap.size + 1) (o := 0) (x := .bool b0) (by simp)) (S.cell (g := w.heap.size + 1) (o := 1) (x := .slice p0 m0 c0) (by simp)) (S.cell (g := w.heap.size + 1) (o := 2) (x := .bool b1) (by simp)) (S.cell (g := w.heap.size + 1) (o := 3) (x := .slice p1 m1 c1) (by simp)) ⟨rfl, S.all⟩

/-- What 'of' hands back. -/
def OfQ (w : World) (b0 b1 : Bool) (xs ys : List Nat) (k : Nat) (e : Ending) (w' : World) : Prop :=
  ∃ p m c p' m' c' p2 n2 c2 b2 p3 n3 c3 b3, e = .returned (.tuple #[.agg #[.bool b0, .slice p m c, .bool b1, .slice p' m' c'], .agg #[.slice p2 n2 c2, .bool b2, .slice p3 n3 c3, .bool b3]]) ∧ Sl w' .u32 (.slice p m c) (xs.take k) ∧ Sl w' .u32 (.slice p' m' c') (ys.take k) ∧
    DecQ w' (.agg #[.slice p2 n2 c2, .bool b2, .slice p3 n3 c3, .bool b3]) (qOf (sg b0 (val 4294967296 (xs.take k))) (sg b1 (val 4294967296 (ys.take k)))) (2 * k + 2) ∧ w.grownBy w' none
theorem take_sl {w : World} {p : Option Addr} {cap k m : Nat} {xs : List Nat} (hx : Sl w .u32 (.slice p xs.length cap) xs) (hm : (xs.take k).length = m) : Sl w .u32 (.slice p m cap) (xs.take k) := by
  have := hx.take (min xs.length k) (Nat.min_le_left _ _)
  rw [show xs.take (min xs.length k) = xs.take k by
    rcases Nat.le_total xs.length k with h | h
    · rw [Nat.min_eq_left h, List.take_length, List.take_of_length_le h]
    · rw [Nat.min_eq_right h]] at this
  rw [← hm, List.length_take, Nat.min_comm]
  exact this
theorem ratV_of {w : World} {b0 b1 : Bool} {p p' : Option Addr} {m c m' c' k : Nat} {xs ys : List Nat} (hx : Sl w .u32 (.slice p m c) (xs.take k)) (ax : All 4294967296 xs) (hy : Sl w .u32 (.slice p' m' c') (ys.take k)) (ay : All 4294967296 ys) :
    RatV w (.agg #[.bool b0, .slice p m c, .bool b1, .slice p' m' c']) (qOf (sg b0 (val 4294967296 (xs.take k))) (sg b1 (val 4294967296 (ys.take k)))) k :=
  ⟨_, _, _, _, _, _, _, _, _, _, rfl, ⟨_, _, _, rfl, Num.row hx (ax.take k) k (by rw [List.length_take]; omega), rfl⟩, ⟨_, _, _, rfl, Num.row hy (ay.take k) k (by rw [List.length_take]; omega), rfl⟩, rfl⟩
set_option maxHeartbeats 4000000 in
set_option maxRecDepth 100000 in
theorem Of_q {b0 b1 : Bool} {s0 s1 : Value} {xs ys : List Nat} {w : World} (k : Nat) (hx : Sl w .u32 s0 xs) (ax : All 4294967296 xs) (hy : Sl w .u32 s1 ys) (ay : All 4294967296 ys) (hk : k ≤ 20000) :
    Calls Tryz.prog 40 #[.agg #[.bool b0, s0, .bool b1, s1], .int .i64 k] w (OfQ w b0 b1 xs ys k) := by
  obtain ⟨p0, c0, rfl, h0, -⟩ := id hx
  obtain ⟨p1, c1, rfl, h1, -⟩ := id hy
  obtain ⟨m0, e0⟩ : ∃ m, (xs.take k).length = m := ⟨_, rfl⟩
  obtain ⟨m1, e1⟩ : ∃ m, (ys.take k).length = m := ⟨_, rfl⟩
  have X := Lib.hid (take_sl hx e0)
  have Y := Lib.hid (take_sl hy e1)
  have M0 := Lib.hid e0
  have M1 := Lib.hid e1
  obtain ⟨q, hq⟩ : ∃ q, qOf (sg b0 (val 4294967296 (xs.take k))) (sg b1 (val 4294967296 (ys.take k))) = q := ⟨_, rfl⟩
  have V := Lib.hid (hq ▸ ratV_of (b0 := b0) (b1 := b1) X.out ax Y.out ay)
  unfold OfQ
  rw [hq]
  clear hx hy ax ay e0 e1 hq
  obtain ⟨n0, l0⟩ : ∃ n, xs.length = n := ⟨_, rfl⟩
  obtain ⟨n1, l1⟩ : ∃ n, ys.length = n := ⟨_, rfl⟩
  rw [l0] at h0 ⊢
  rw [l1] at h1 ⊢
  have L0 := Lib.hid l0
  have L1 := Lib.hid l1
  clear l0 l1
  have S : St w [] [] w := St.start w
  go_enter Tryz.func40, Tryz.ntmps40
  have G := S
  go_wp2_with fail
  clear G
  replace S : St w [(w.heap.size, 0, .bool b0), (w.heap.size, 1, .slice p0 n0 c0), (w.heap.size, 2, .bool b1), (w.heap.size, 3, .slice p1 n1 c1)] [(w.heap.size, 0), (w.heap.size, 1), (w.heap.size, 2), (w.heap.size, 3)] (w.alloc (.cells #[.bool b0, .slice p0 n0 c0, .bool b1, .slice p1 n1 c1] 46)) := S.made (w.heap.size) [.bool b0, .slice p0 n0 c0, .bool b1, .slice p1 n1 c1] 46 (by simp)
  replace S : St w [(w.heap.size + 1, 0, .bool false), (w.heap.size + 1, 1, .slice none 0 0), (w.heap.size + 1, 2, .bool false), (w.heap.size + 1, 3, .slice none 0 0), (w.heap.size, 0, .bool b0), (w.heap.size, 1, .slice p0 n0 c0), (w.heap.size, 2, .bool b1), (w.heap.size, 3, .slice p1 n1 c1)] [(w.heap.size + 1, 0), (w.heap.size + 1, 1), (w.heap.size + 1, 2), (w.heap.size + 1, 3), (w.heap.size, 0), (w.heap.size, 1), (w.heap.size, 2), (w.heap.size, 3)] ((w.alloc (.cells #[.bool b0, .slice p0 n0 c0, .bool b1, .slice p1 n1 c1] 46)).alloc (.cells #[.bool false, .slice none 0 0, .bool false, .slice none 0 0] 46)) := S.made (w.heap.size + 1) [.bool false, .slice none 0 0, .bool false, .slice none 0 0] 46 (by simp)
  replace S : St w [(w.heap.size + 1 + 1, 0, .slice none 0 0), (w.heap.size + 1 + 1, 1, .bool false), (w.heap.size + 1 + 1, 2, .slice none 0 0), (w.heap.size + 1 + 1, 3, .bool false), (w.heap.size + 1, 0, .bool false), (w.heap.size + 1, 1, .slice none 0 0), (w.heap.size + 1, 2, .bool false), (w.heap.size + 1, 3, .slice none 0 0), (w.heap.size, 0, .bool b0), (w.heap.size, 1, .slice p0 n0 c0), (w.heap.size, 2, .bool b1), (w.heap.size, 3, .slice p1 n1 c1)] [(w.heap.size + 1 + 1, 0), (w.heap.size + 1 + 1, 1), (w.heap.size + 1 + 1, 2), (w.heap.size + 1 + 1, 3), (w.heap.size + 1, 0), (w.heap.size + 1, 1), (w.heap.size + 1, 2), (w.heap.size + 1, 3), (w.heap.size, 0), (w.heap.size, 1), (w.heap.size, 2), (w.heap.size, 3)] (((w.alloc (.cells #[.bool b0, .slice p0 n0 c0, .bool b1, .slice p1 n1 c1] 46)).alloc (.cells #[.bool false, .slice none 0 0, .bool false, .slice none 0 0] 46)).alloc (.cells #[.slice none 0 0, .bool false, .slice none 0 0, .bool false] 49)) := S.made (w.heap.size + 1 + 1) [.slice none 0 0, .bool false, .slice none 0 0, .bool false] 49 (by simp)
  replace V := Lib.hid (V.out.kp (((Kp.of (grown_alloc w (.cells #[.bool b0, .slice p0 n0 c0, .bool b1, .slice p1 n1 c1] 46) none)).trans (Kp.of (grown_alloc ((w.alloc (.cells #[.bool b0, .slice p0 n0 c0, .bool b1, .slice p1 n1 c1] 46))) (.cells #[.bool false, .slice none 0 0, .bool false, .slice none 0 0] 46) none))).trans (Kp.of (grown_alloc (((w.alloc (.cells #[.bool b0, .slice p0 n0 c0, .bool b1, .slice p1 n1 c1] 46)).alloc (.cells #[.bool false, .slice none 0 0, .bool false, .slice none 0 0] 46))) (.cells #[.slice none 0 0, .bool false, .slice none 0 0, .bool false] 49) none))))
  have sz10 : (((w.alloc (.cells #[.bool b0, .slice p0 n0 c0, .bool b1, .slice p1 n1 c1] 46)).alloc (.cells #[.bool false, .slice none 0 0, .bool false, .slice none 0 0] 46)).alloc (.cells #[.slice none 0 0, .bool false, .slice none 0 0, .bool false] 49)).heap.size = w.heap.size + 3 := by simp
  generalize (((w.alloc (.cells #[.bool b0, .slice p0 n0 c0, .bool b1, .slice p1 n1 c1] 46)).alloc (.cells #[.bool false, .slice none 0 0, .bool false, .slice none 0 0] 46)).alloc (.cells #[.slice none 0 0, .bool false, .slice none 0 0, .bool false] 49)) = W10 at *
  go_at_call 27
  with_reducible refine (Rat_k k L0.out L1.out h0 h1 M0.out M1.out).mono ?_
  rintro e w11 ⟨rfl, g⟩
  replace V := Lib.hid (V.out.kp (Kp.of g))
  replace S := S.step g
  have lg11 := g.size
  clear g
  have l0 := S.ltc (g := w.heap.size) (o := 0) (x := .bool b0) (by simp)
  have l1 := S.ltc (g := w.heap.size + 1) (o := 0) (x := .bool false) (by simp)
  have l2 := S.ltc (g := w.heap.size + 1 + 1) (o := 0) (x := .slice none 0 0) (by simp)
  have lS := S.size
  obtain ⟨e0, e1, e2, e3, e4, e5, e6, e7, e8, e9, e10, e11, h0, i0, h1, i1, h2, i2, h3, i3, h4, i4, h5, i5, h6, i6, h7, i7, h8, i8, h9, i9, h10, i10, h11, i11, G⟩ := id S
  go_wp2_with fail
  clear e0 e1 e2 e3 e4 e5 e6 e7 e8 e9 e10 e11 h0 i0 h1 i1 h2 i2 h3 i3 h4 i4 h5 i5 h6 i6 h7 i7 h8 i8 h9 i9 h10 i10 h11 i11 G
  have K12 : Kp w11 (w11.setCell ⟨w.heap.size, 0, none⟩ (.bool b0)) := S.kp (g := w.heap.size) (o := 0) (x := .bool b0) (.bool b0) (by simp) (by simp)
  replace S : St w [(w.heap.size, 0, .bool b0), (w.heap.size + 1 + 1, 0, .slice none 0 0), (w.heap.size + 1 + 1, 1, .bool false), (w.heap.size + 1 + 1, 2, .slice none 0 0), (w.heap.size + 1 + 1, 3, .bool false), (w.heap.size + 1, 0, .bool false), (w.heap.size + 1, 1, .slice none 0 0), (w.heap.size + 1, 2, .bool false), (w.heap.size + 1, 3, .slice none 0 0), (w.heap.size, 1, .slice p0 n0 c0), (w.heap.size, 2, .bool b1), (w.heap.size, 3, .slice p1 n1 c1)] [(w.heap.size + 1 + 1, 0), (w.heap.size + 1 + 1, 1), (w.heap.size + 1 + 1, 2), (w.heap.size + 1 + 1, 3), (w.heap.size + 1, 0), (w.heap.size + 1, 1), (w.heap.size + 1, 2), (w.heap.size + 1, 3), (w.heap.size, 0), (w.heap.size, 1), (w.heap.size, 2), (w.heap.size, 3)] (w11.setCell ⟨w.heap.size, 0, none⟩ (.bool b0)) := S.set (g := w.heap.size) (o := 0) (.bool b0) (by simp) (by simp <;> omega) (by omega)
  have K13 : Kp (w11.setCell ⟨w.heap.size, 0, none⟩ (.bool b0)) ((w11.setCell ⟨w.heap.size, 0, none⟩ (.bool b0)).setCell ⟨w.heap.size, 1, none⟩ (.slice p0 m0 c0)) := S.kp (g := w.heap.size) (o := 1) (x := .slice p0 n0 c0) (.slice p0 m0 c0) (by simp) (by simp)
  replace S : St w [(w.heap.size, 1, .slice p0 m0 c0), (w.heap.size + 1 + 1, 0, .slice none 0 0), (w.heap.size + 1 + 1, 1, .bool false), (w.heap.size + 1 + 1, 2, .slice none 0 0), (w.heap.size + 1 + 1, 3, .bool false), (w.heap.size + 1, 0, .bool false), (w.heap.size + 1, 1, .slice none 0 0), (w.heap.size + 1, 2, .bool false), (w.heap.size + 1, 3, .slice none 0 0), (w.heap.size, 0, .bool b0), (w.heap.size, 2, .bool b1), (w.heap.size, 3, .slice p1 n1 c1)] [(w.heap.size + 1 + 1, 0), (w.heap.size + 1 + 1, 1), (w.heap.size + 1 + 1, 2), (w.heap.size + 1 + 1, 3), (w.heap.size + 1, 0), (w.heap.size + 1, 1), (w.heap.size + 1, 2), (w.heap.size + 1, 3), (w.heap.size, 0), (w.heap.size, 1), (w.heap.size, 2), (w.heap.size, 3)] ((w11.setCell ⟨w.heap.size, 0, none⟩ (.bool b0)).setCell ⟨w.heap.size, 1, none⟩ (.slice p0 m0 c0)) := S.set (g := w.heap.size) (o := 1) (.slice p0 m0 c0) (by simp) (by simp <;> omega) (by omega)
  have K14 : Kp ((w11.setCell ⟨w.heap.size, 0, none⟩ (.bool b0)).setCell ⟨w.heap.size, 1, none⟩ (.slice p0 m0 c0)) (((w11.setCell ⟨w.heap.size, 0, none⟩ (.bool b0)).setCell ⟨w.heap.size, 1, none⟩ (.slice p0 m0 c0)).setCell ⟨w.heap.size, 2, none⟩ (.bool b1)) := S.kp (g := w.heap.size) (o := 2) (x := .bool b1) (.bool b1) (by simp) (by simp)
  replace S : St w [(w.heap.size, 2, .bool b1), (w.heap.size + 1 + 1, 0, .slice none 0 0), (w.heap.size + 1 + 1, 1, .bool false), (w.heap.size + 1 + 1, 2, .slice none 0 0), (w.heap.size + 1 + 1, 3, .bool false), (w.heap.size + 1, 0, .bool false), (w.heap.size + 1, 1, .slice none 0 0), (w.heap.size + 1, 2, .bool false), (w.heap.size + 1, 3, .slice none 0 0), (w.heap.size, 0, .bool b0), (w.heap.size, 1, .slice p0 m0 c0), (w.heap.size, 3, .slice p1 n1 c1)] [(w.heap.size + 1 + 1, 0), (w.heap.size + 1 + 1, 1), (w.heap.size + 1 + 1, 2), (w.heap.size + 1 + 1, 3), (w.heap.size + 1, 0), (w.heap.size + 1, 1), (w.heap.size + 1, 2), (w.heap.size + 1, 3), (w.heap.size, 0), (w.heap.size, 1), (w.heap.size, 2), (w.heap.size, 3)] (((w11.setCell ⟨w.heap.size, 0, none⟩ (.bool b0)).setCell ⟨w.heap.size, 1, none⟩ (.slice p0 m0 c0)).setCell ⟨w.heap.size, 2, none⟩ (.bool b1)) := S.set (g := w.heap.size) (o := 2) (.bool b1) (by simp) (by simp <;> omega) (by omega)
  have K15 : Kp (((w11.setCell ⟨w.heap.size, 0, none⟩ (.bool b0)).setCell ⟨w.heap.size, 1, none⟩ (.slice p0 m0 c0)).setCell ⟨w.heap.size, 2, none⟩ (.bool b1)) ((((w11.setCell ⟨w.heap.size, 0, none⟩ (.bool b0)).setCell ⟨w.heap.size, 1, none⟩ (.slice p0 m0 c0)).setCell ⟨w.heap.size, 2, none⟩ (.bool b1)).setCell ⟨w.heap.size, 3, none⟩ (.slice p1 m1 c1)) := S.kp (g := w.heap.size) (o := 3) (x := .slice p1 n1 c1) (.slice p1 m1 c1) (by simp) (by simp)
  replace S : St w [(w.heap.size, 3, .slice p1 m1 c1), (w.heap.size + 1 + 1, 0, .slice none 0 0), (w.heap.size + 1 + 1, 1, .bool false), (w.heap.size + 1 + 1, 2, .slice none 0 0), (w.heap.size + 1 + 1, 3, .bool false), (w.heap.size + 1, 0, .bool false), (w.heap.size + 1, 1, .slice none 0 0), (w.heap.size + 1, 2, .bool false), (w.heap.size + 1, 3, .slice none 0 0), (w.heap.size, 0, .bool b0), (w.heap.size, 1, .slice p0 m0 c0), (w.heap.size, 2, .bool b1)] [(w.heap.size + 1 + 1, 0), (w.heap.size + 1 + 1, 1), (w.heap.size + 1 + 1, 2), (w.heap.size + 1 + 1, 3), (w.heap.size + 1, 0), (w.heap.size + 1, 1), (w.heap.size + 1, 2), (w.heap.size + 1, 3), (w.heap.size, 0), (w.heap.size, 1), (w.heap.size, 2), (w.heap.size, 3)] ((((w11.setCell ⟨w.heap.size, 0, none⟩ (.bool b0)).setCell ⟨w.heap.size, 1, none⟩ (.slice p0 m0 c0)).setCell ⟨w.heap.size, 2, none⟩ (.bool b1)).setCell ⟨w.heap.size, 3, none⟩ (.slice p1 m1 c1)) := S.set (g := w.heap.size) (o := 3) (.slice p1 m1 c1) (by simp) (by simp <;> omega) (by omega)
  replace S : St w [(w.heap.size + 1 + 1, 0, .slice none 0 0), (w.heap.size + 1 + 1, 1, .bool false), (w.heap.size + 1 + 1, 2, .slice none 0 0), (w.heap.size + 1 + 1, 3, .bool false), (w.heap.size + 1, 0, .bool false), (w.heap.size + 1, 1, .slice none 0 0), (w.heap.size + 1, 2, .bool false), (w.heap.size + 1, 3, .slice none 0 0), (w.heap.size, 0, .bool b0), (w.heap.size, 1, .slice p0 m0 c0), (w.heap.size, 2, .bool b1), (w.heap.size, 3, .slice p1 m1 c1)] [(w.heap.size + 1 + 1, 0), (w.heap.size + 1 + 1, 1), (w.heap.size + 1 + 1, 2), (w.heap.size + 1 + 1, 3), (w.heap.size + 1, 0), (w.heap.size + 1, 1), (w.heap.size + 1, 2), (w.heap.size + 1, 3), (w.heap.size, 0), (w.heap.size, 1), (w.heap.size, 2), (w.heap.size, 3)] ((((w11.setCell ⟨w.heap.size, 0, none⟩ (.bool b0)).setCell ⟨w.heap.size, 1, none⟩ (.slice p0 m0 c0)).setCell ⟨w.heap.size, 2, none⟩ (.bool b1)).setCell ⟨w.heap.size, 3, none⟩ (.slice p1 m1 c1)) := S.sub (by simp) (by simp)
  replace V := Lib.hid (V.out.kp (((K12.trans K13).trans K14).trans K15))
  clear K12 K13 K14 K15
  have sz16 : ((((w11.setCell ⟨w.heap.size, 0, none⟩ (.bool b0)).setCell ⟨w.heap.size, 1, none⟩ (.slice p0 m0 c0)).setCell ⟨w.heap.size, 2, none⟩ (.bool b1)).setCell ⟨w.heap.size, 3, none⟩ (.slice p1 m1 c1)).heap.size = w11.heap.size := by simp
  generalize ((((w11.setCell ⟨w.heap.size, 0, none⟩ (.bool b0)).setCell ⟨w.heap.size, 1, none⟩ (.slice p0 m0 c0)).setCell ⟨w.heap.size, 2, none⟩ (.bool b1)).setCell ⟨w.heap.size, 3, none⟩ (.slice p1 m1 c1)) = W16 at *
  have T0 : Cl [(w.heap.size, 0, .bool b0), (w.heap.size, 1, .slice p0 m0 c0), (w.heap.size, 2, .bool b1), (w.heap.size, 3, .slice p1 m1 c1)] W16 := S.cl (by simp)
  refine wp_region_noPanic ?_
  refine wp_region_held_drew (S := fun w' => w'.cell? ⟨w.heap.size, 0, none⟩ = some (.bool b0) ∧ w'.cell? ⟨w.heap.size, 1, none⟩ = some (.slice p0 m0 c0) ∧ w'.cell? ⟨w.heap.size, 2, none⟩ = some (.bool b1) ∧ w'.cell? ⟨w.heap.size, 3, none⟩ = some (.slice p1 m1 c1) ∧ True) (by kernel_rfl) (by exact Cl.step (cs := [(w.heap.size, 0, .bool b0), (w.heap.size, 1, .slice p0 m0 c0), (w.heap.size, 2, .bool b1), (w.heap.size, 3, .slice p1 m1 c1)]) (grown_drew _ _) T0) (fun hHeld => ?_)
  change wpAnyH _ _ _ _ _ 5 #[false, false, false, false, false] _ _
  replace S := S.step (grown_drew W16 none)
  replace V := Lib.hid (V.out.kp (Kp.of (grown_drew W16 none)))
  have lg17 := (grown_drew W16 none).size
  clear T0
  generalize W16.drew = wr17 at *
  clear l0 l1 l2 lS
  have l0 := S.ltc (g := w.heap.size) (o := 0) (x := .bool b0) (by simp)
  have l1 := S.ltc (g := w.heap.size + 1) (o := 0) (x := .bool false) (by simp)
  have l2 := S.ltc (g := w.heap.size + 1 + 1) (o := 0) (x := .slice none 0 0) (by simp)
  have lS := S.size
  refine wpAnyH_take (i := 0) (oi := _) (v := ?vq18) rfl (by kernel_rfl) (by kernel_rfl) (by kernel_rfl) (fun _ _ _ h => h) (Or.inl ⟨by rfl, ?hyq18⟩) (by assumption) ?restq18
  case hyq18 => (intro w hSw; (try dsimp only at hSw); go_simp; try with_reducible rfl)
  try simp only [Act.put, List.getElem_toArray, List.getElem_cons_zero, List.setIfInBounds_toArray, List.set_cons_zero, List.set_cons_succ]
  refine wpAnyH_take (i := 1) (oi := _) (v := ?vq19) rfl (by kernel_rfl) (by kernel_rfl) (by kernel_rfl) (fun _ _ _ h => h) (Or.inl ⟨by rfl, ?hyq19⟩) (by assumption) ?restq19
  case hyq19 => (intro w hSw; (try dsimp only at hSw); go_simp; try with_reducible rfl)
  try simp only [Act.put, List.getElem_toArray, List.getElem_cons_zero, List.getElem_cons_succ, List.setIfInBounds_toArray, List.set_cons_zero, List.set_cons_succ]
  refine wpAnyH_ready (rs := [2]) (by kernel_rfl) (by simp) ?_
  refine AllReadyH.cons (o := _) rfl (fun K hK => ?_) AllReadyH.nil
  go_simp
  go_at_call 28
  with_reducible refine (FromR_g V.out (by omega)).mono ?_
  rintro e w22 ⟨p21, n21, c21, b21, q21, m21, f21, d21, rfl, h, g⟩
  clear V
  have N21 := Lib.hid (h)
  replace S := S.step g
  have lg22 := g.size
  clear l0 l1 l2 lS
  have l0 := S.ltc (g := w.heap.size) (o := 0) (x := .bool b0) (by simp)
  have l1 := S.ltc (g := w.heap.size + 1) (o := 0) (x := .bool false) (by simp)
  have l2 := S.ltc (g := w.heap.size + 1 + 1) (o := 0) (x := .slice none 0 0) (by simp)
  have lS := S.size
  go_wp2_with fail
  refine hK.out _ _ ?hSq20 (fun hHeld => ?_)
  case hSq20 => exact Cl.step (cs := [(w.heap.size, 0, .bool b0), (w.heap.size, 1, .slice p0 m0 c0), (w.heap.size, 2, .bool b1), (w.heap.size, 3, .slice p1 m1 c1)]) g (by assumption)
  clear hK K g h
  try simp only [List.setIfInBounds_toArray, List.set_cons_zero, List.set_cons_succ]
  obtain ⟨e0, e1, e2, e3, e4, e5, e6, e7, e8, e9, e10, e11, h0, i0, h1, i1, h2, i2, h3, i3, h4, i4, h5, i5, h6, i6, h7, i7, h8, i8, h9, i9, h10, i10, h11, i11, G⟩ := id S
  refine wpAnyH_ready (rs := [3]) (by kernel_rfl) (by simp) ?_
  refine AllReadyH.cons (o := _) rfl (fun K hK => ?_) AllReadyH.nil
  go_simp
  refine hK.out _ _ ?hSq23 (fun hHeld => ?_)
  case hSq23 => exact (Cl.set (cs := [(w.heap.size, 0, .bool b0), (w.heap.size, 1, .slice p0 m0 c0), (w.heap.size, 2, .bool b1), (w.heap.size, 3, .slice p1 m1 c1)]) (g := w.heap.size + 1) (o := 3) (u := .slice p1 m1 c1) (Cl.set (cs := [(w.heap.size, 0, .bool b0), (w.heap.size, 1, .slice p0 m0 c0), (w.heap.size, 2, .bool b1), (w.heap.size, 3, .slice p1 m1 c1)]) (g := w.heap.size + 1) (o := 2) (u := .bool b1) (Cl.set (cs := [(w.heap.size, 0, .bool b0), (w.heap.size, 1, .slice p0 m0 c0), (w.heap.size, 2, .bool b1), (w.heap.size, 3, .slice p1 m1 c1)]) (g := w.heap.size + 1) (o := 1) (u := .slice p0 m0 c0) (Cl.set (cs := [(w.heap.size, 0, .bool b0), (w.heap.size, 1, .slice p0 m0 c0), (w.heap.size, 2, .bool b1), (w.heap.size, 3, .slice p1 m1 c1)]) (g := w.heap.size + 1) (o := 0) (u := .bool b0) (by assumption) (by simp <;> omega)) (by simp <;> omega)) (by simp <;> omega)) (by simp <;> omega))
  clear hK K
  try simp only [List.setIfInBounds_toArray, List.set_cons_zero, List.set_cons_succ]
  clear e0 e1 e2 e3 e4 e5 e6 e7 e8 e9 e10 e11 h0 i0 h1 i1 h2 i2 h3 i3 h4 i4 h5 i5 h6 i6 h7 i7 h8 i8 h9 i9 h10 i10 h11 i11 G
  have K24 : Kp w22 (w22.setCell ⟨w.heap.size + 1, 0, none⟩ (.bool b0)) := S.kp (g := w.heap.size + 1) (o := 0) (x := .bool false) (.bool b0) (by simp) (by simp)
  replace S : St w [(w.heap.size + 1, 0, .bool b0), (w.heap.size + 1 + 1, 0, .slice none 0 0), (w.heap.size + 1 + 1, 1, .bool false), (w.heap.size + 1 + 1, 2, .slice none 0 0), (w.heap.size + 1 + 1, 3, .bool false), (w.heap.size + 1, 1, .slice none 0 0), (w.heap.size + 1, 2, .bool false), (w.heap.size + 1, 3, .slice none 0 0), (w.heap.size, 0, .bool b0), (w.heap.size, 1, .slice p0 m0 c0), (w.heap.size, 2, .bool b1), (w.heap.size, 3, .slice p1 m1 c1)] [(w.heap.size + 1 + 1, 0), (w.heap.size + 1 + 1, 1), (w.heap.size + 1 + 1, 2), (w.heap.size + 1 + 1, 3), (w.heap.size + 1, 0), (w.heap.size + 1, 1), (w.heap.size + 1, 2), (w.heap.size + 1, 3), (w.heap.size, 0), (w.heap.size, 1), (w.heap.size, 2), (w.heap.size, 3)] (w22.setCell ⟨w.heap.size + 1, 0, none⟩ (.bool b0)) := S.set (g := w.heap.size + 1) (o := 0) (.bool b0) (by simp) (by simp <;> omega) (by omega)
  have K25 : Kp (w22.setCell ⟨w.heap.size + 1, 0, none⟩ (.bool b0)) ((w22.setCell ⟨w.heap.size + 1, 0, none⟩ (.bool b0)).setCell ⟨w.heap.size + 1, 1, none⟩ (.slice p0 m0 c0)) := S.kp (g := w.heap.size + 1) (o := 1) (x := .slice none 0 0) (.slice p0 m0 c0) (by simp) (by simp)
  replace S : St w [(w.heap.size + 1, 1, .slice p0 m0 c0), (w.heap.size + 1 + 1, 0, .slice none 0 0), (w.heap.size + 1 + 1, 1, .bool false), (w.heap.size + 1 + 1, 2, .slice none 0 0), (w.heap.size + 1 + 1, 3, .bool false), (w.heap.size + 1, 0, .bool b0), (w.heap.size + 1, 2, .bool false), (w.heap.size + 1, 3, .slice none 0 0), (w.heap.size, 0, .bool b0), (w.heap.size, 1, .slice p0 m0 c0), (w.heap.size, 2, .bool b1), (w.heap.size, 3, .slice p1 m1 c1)] [(w.heap.size + 1 + 1, 0), (w.heap.size + 1 + 1, 1), (w.heap.size + 1 + 1, 2), (w.heap.size + 1 + 1, 3), (w.heap.size + 1, 0), (w.heap.size + 1, 1), (w.heap.size + 1, 2), (w.heap.size + 1, 3), (w.heap.size, 0), (w.heap.size, 1), (w.heap.size, 2), (w.heap.size, 3)] ((w22.setCell ⟨w.heap.size + 1, 0, none⟩ (.bool b0)).setCell ⟨w.heap.size + 1, 1, none⟩ (.slice p0 m0 c0)) := S.set (g := w.heap.size + 1) (o := 1) (.slice p0 m0 c0) (by simp) (by simp <;> omega) (by omega)
  have K26 : Kp ((w22.setCell ⟨w.heap.size + 1, 0, none⟩ (.bool b0)).setCell ⟨w.heap.size + 1, 1, none⟩ (.slice p0 m0 c0)) (((w22.setCell ⟨w.heap.size + 1, 0, none⟩ (.bool b0)).setCell ⟨w.heap.size + 1, 1, none⟩ (.slice p0 m0 c0)).setCell ⟨w.heap.size + 1, 2, none⟩ (.bool b1)) := S.kp (g := w.heap.size + 1) (o := 2) (x := .bool false) (.bool b1) (by simp) (by simp)
  replace S : St w [(w.heap.size + 1, 2, .bool b1), (w.heap.size + 1 + 1, 0, .slice none 0 0), (w.heap.size + 1 + 1, 1, .bool false), (w.heap.size + 1 + 1, 2, .slice none 0 0), (w.heap.size + 1 + 1, 3, .bool false), (w.heap.size + 1, 0, .bool b0), (w.heap.size + 1, 1, .slice p0 m0 c0), (w.heap.size + 1, 3, .slice none 0 0), (w.heap.size, 0, .bool b0), (w.heap.size, 1, .slice p0 m0 c0), (w.heap.size, 2, .bool b1), (w.heap.size, 3, .slice p1 m1 c1)] [(w.heap.size + 1 + 1, 0), (w.heap.size + 1 + 1, 1), (w.heap.size + 1 + 1, 2), (w.heap.size + 1 + 1, 3), (w.heap.size + 1, 0), (w.heap.size + 1, 1), (w.heap.size + 1, 2), (w.heap.size + 1, 3), (w.heap.size, 0), (w.heap.size, 1), (w.heap.size, 2), (w.heap.size, 3)] (((w22.setCell ⟨w.heap.size + 1, 0, none⟩ (.bool b0)).setCell ⟨w.heap.size + 1, 1, none⟩ (.slice p0 m0 c0)).setCell ⟨w.heap.size + 1, 2, none⟩ (.bool b1)) := S.set (g := w.heap.size + 1) (o := 2) (.bool b1) (by simp) (by simp <;> omega) (by omega)
  have K27 : Kp (((w22.setCell ⟨w.heap.size + 1, 0, none⟩ (.bool b0)).setCell ⟨w.heap.size + 1, 1, none⟩ (.slice p0 m0 c0)).setCell ⟨w.heap.size + 1, 2, none⟩ (.bool b1)) ((((w22.setCell ⟨w.heap.size + 1, 0, none⟩ (.bool b0)).setCell ⟨w.heap.size + 1, 1, none⟩ (.slice p0 m0 c0)).setCell ⟨w.heap.size + 1, 2, none⟩ (.bool b1)).setCell ⟨w.heap.size + 1, 3, none⟩ (.slice p1 m1 c1)) := S.kp (g := w.heap.size + 1) (o := 3) (x := .slice none 0 0) (.slice p1 m1 c1) (by simp) (by simp)
  replace S : St w [(w.heap.size + 1, 3, .slice p1 m1 c1), (w.heap.size + 1 + 1, 0, .slice none 0 0), (w.heap.size + 1 + 1, 1, .bool false), (w.heap.size + 1 + 1, 2, .slice none 0 0), (w.heap.size + 1 + 1, 3, .bool false), (w.heap.size + 1, 0, .bool b0), (w.heap.size + 1, 1, .slice p0 m0 c0), (w.heap.size + 1, 2, .bool b1), (w.heap.size, 0, .bool b0), (w.heap.size, 1, .slice p0 m0 c0), (w.heap.size, 2, .bool b1), (w.heap.size, 3, .slice p1 m1 c1)] [(w.heap.size + 1 + 1, 0), (w.heap.size + 1 + 1, 1), (w.heap.size + 1 + 1, 2), (w.heap.size + 1 + 1, 3), (w.heap.size + 1, 0), (w.heap.size + 1, 1), (w.heap.size + 1, 2), (w.heap.size + 1, 3), (w.heap.size, 0), (w.heap.size, 1), (w.heap.size, 2), (w.heap.size, 3)] ((((w22.setCell ⟨w.heap.size + 1, 0, none⟩ (.bool b0)).setCell ⟨w.heap.size + 1, 1, none⟩ (.slice p0 m0 c0)).setCell ⟨w.heap.size + 1, 2, none⟩ (.bool b1)).setCell ⟨w.heap.size + 1, 3, none⟩ (.slice p1 m1 c1)) := S.set (g := w.heap.size + 1) (o := 3) (.slice p1 m1 c1) (by simp) (by simp <;> omega) (by omega)
  replace S : St w [(w.heap.size + 1 + 1, 0, .slice none 0 0), (w.heap.size + 1 + 1, 1, .bool false), (w.heap.size + 1 + 1, 2, .slice none 0 0), (w.heap.size + 1 + 1, 3, .bool false), (w.heap.size + 1, 0, .bool b0), (w.heap.size + 1, 1, .slice p0 m0 c0), (w.heap.size + 1, 2, .bool b1), (w.heap.size + 1, 3, .slice p1 m1 c1), (w.heap.size, 0, .bool b0), (w.heap.size, 1, .slice p0 m0 c0), (w.heap.size, 2, .bool b1), (w.heap.size, 3, .slice p1 m1 c1)] [(w.heap.size + 1 + 1, 0), (w.heap.size + 1 + 1, 1), (w.heap.size + 1 + 1, 2), (w.heap.size + 1 + 1, 3), (w.heap.size + 1, 0), (w.heap.size + 1, 1), (w.heap.size + 1, 2), (w.heap.size + 1, 3), (w.heap.size, 0), (w.heap.size, 1), (w.heap.size, 2), (w.heap.size, 3)] ((((w22.setCell ⟨w.heap.size + 1, 0, none⟩ (.bool b0)).setCell ⟨w.heap.size + 1, 1, none⟩ (.slice p0 m0 c0)).setCell ⟨w.heap.size + 1, 2, none⟩ (.bool b1)).setCell ⟨w.heap.size + 1, 3, none⟩ (.slice p1 m1 c1)) := S.sub (by simp) (by simp)
  replace N21 := Lib.hid (N21.out.kp (((K24.trans K25).trans K26).trans K27))
  clear K24 K25 K26 K27
  have sz28 : ((((w22.setCell ⟨w.heap.size + 1, 0, none⟩ (.bool b0)).setCell ⟨w.heap.size + 1, 1, none⟩ (.slice p0 m0 c0)).setCell ⟨w.heap.size + 1, 2, none⟩ (.bool b1)).setCell ⟨w.heap.size + 1, 3, none⟩ (.slice p1 m1 c1)).heap.size = w22.heap.size := by simp
  generalize ((((w22.setCell ⟨w.heap.size + 1, 0, none⟩ (.bool b0)).setCell ⟨w.heap.size + 1, 1, none⟩ (.slice p0 m0 c0)).setCell ⟨w.heap.size + 1, 2, none⟩ (.bool b1)).setCell ⟨w.heap.size + 1, 3, none⟩ (.slice p1 m1 c1)) = W28 at *
  clear l0 l1 l2 lS
  have l0 := S.ltc (g := w.heap.size) (o := 0) (x := .bool b0) (by simp)
  have l1 := S.ltc (g := w.heap.size + 1) (o := 0) (x := .bool b0) (by simp)
  have l2 := S.ltc (g := w.heap.size + 1 + 1) (o := 0) (x := .slice none 0 0) (by simp)
  have lS := S.size
  obtain ⟨e0, e1, e2, e3, e4, e5, e6, e7, e8, e9, e10, e11, h0, i0, h1, i1, h2, i2, h3, i3, h4, i4, h5, i5, h6, i6, h7, i7, h8, i8, h9, i9, h10, i10, h11, i11, G⟩ := id S
  refine wpAnyH_ready (rs := [4]) (by kernel_rfl) (by simp) ?_
  refine AllReadyH.cons (o := _) rfl (fun K hK => ?_) AllReadyH.nil
  go_simp
  refine hK.out _ _ ?hSq29 (fun hHeld => ?_)
  case hSq29 => exact (Cl.set (cs := [(w.heap.size, 0, .bool b0), (w.heap.size, 1, .slice p0 m0 c0), (w.heap.size, 2, .bool b1), (w.heap.size, 3, .slice p1 m1 c1)]) (g := w.heap.size + 1 + 1) (o := 3) (u := .bool d21) (Cl.set (cs := [(w.heap.size, 0, .bool b0), (w.heap.size, 1, .slice p0 m0 c0), (w.heap.size, 2, .bool b1), (w.heap.size, 3, .slice p1 m1 c1)]) (g := w.heap.size + 1 + 1) (o := 2) (u := .slice q21 m21 f21) (Cl.set (cs := [(w.heap.size, 0, .bool b0), (w.heap.size, 1, .slice p0 m0 c0), (w.heap.size, 2, .bool b1), (w.heap.size, 3, .slice p1 m1 c1)]) (g := w.heap.size + 1 + 1) (o := 1) (u := .bool b21) (Cl.set (cs := [(w.heap.size, 0, .bool b0), (w.heap.size, 1, .slice p0 m0 c0), (w.heap.size, 2, .bool b1), (w.heap.size, 3, .slice p1 m1 c1)]) (g := w.heap.size + 1 + 1) (o := 0) (u := .slice p21 n21 c21) (by assumption) (by simp <;> omega)) (by simp <;> omega)) (by simp <;> omega)) (by simp <;> omega))
  clear hK K
  try simp only [List.setIfInBounds_toArray, List.set_cons_zero, List.set_cons_succ]
  clear e0 e1 e2 e3 e4 e5 e6 e7 e8 e9 e10 e11 h0 i0 h1 i1 h2 i2 h3 i3 h4 i4 h5 i5 h6 i6 h7 i7 h8 i8 h9 i9 h10 i10 h11 i11 G
  have K30 : Kp W28 (W28.setCell ⟨w.heap.size + 1 + 1, 0, none⟩ (.slice p21 n21 c21)) := S.kp (g := w.heap.size + 1 + 1) (o := 0) (x := .slice none 0 0) (.slice p21 n21 c21) (by simp) (by simp)
  replace S : St w [(w.heap.size + 1 + 1, 0, .slice p21 n21 c21), (w.heap.size + 1 + 1, 1, .bool false), (w.heap.size + 1 + 1, 2, .slice none 0 0), (w.heap.size + 1 + 1, 3, .bool false), (w.heap.size + 1, 0, .bool b0), (w.heap.size + 1, 1, .slice p0 m0 c0), (w.heap.size + 1, 2, .bool b1), (w.heap.size + 1, 3, .slice p1 m1 c1), (w.heap.size, 0, .bool b0), (w.heap.size, 1, .slice p0 m0 c0), (w.heap.size, 2, .bool b1), (w.heap.size, 3, .slice p1 m1 c1)] [(w.heap.size + 1 + 1, 0), (w.heap.size + 1 + 1, 1), (w.heap.size + 1 + 1, 2), (w.heap.size + 1 + 1, 3), (w.heap.size + 1, 0), (w.heap.size + 1, 1), (w.heap.size + 1, 2), (w.heap.size + 1, 3), (w.heap.size, 0), (w.heap.size, 1), (w.heap.size, 2), (w.heap.size, 3)] (W28.setCell ⟨w.heap.size + 1 + 1, 0, none⟩ (.slice p21 n21 c21)) := S.set (g := w.heap.size + 1 + 1) (o := 0) (.slice p21 n21 c21) (by simp) (by simp <;> omega) (by omega)
  have K31 : Kp (W28.setCell ⟨w.heap.size + 1 + 1, 0, none⟩ (.slice p21 n21 c21)) ((W28.setCell ⟨w.heap.size + 1 + 1, 0, none⟩ (.slice p21 n21 c21)).setCell ⟨w.heap.size + 1 + 1, 1, none⟩ (.bool b21)) := S.kp (g := w.heap.size + 1 + 1) (o := 1) (x := .bool false) (.bool b21) (by simp) (by simp)
  replace S : St w [(w.heap.size + 1 + 1, 1, .bool b21), (w.heap.size + 1 + 1, 0, .slice p21 n21 c21), (w.heap.size + 1 + 1, 2, .slice none 0 0), (w.heap.size + 1 + 1, 3, .bool false), (w.heap.size + 1, 0, .bool b0), (w.heap.size + 1, 1, .slice p0 m0 c0), (w.heap.size + 1, 2, .bool b1), (w.heap.size + 1, 3, .slice p1 m1 c1), (w.heap.size, 0, .bool b0), (w.heap.size, 1, .slice p0 m0 c0), (w.heap.size, 2, .bool b1), (w.heap.size, 3, .slice p1 m1 c1)] [(w.heap.size + 1 + 1, 0), (w.heap.size + 1 + 1, 1), (w.heap.size + 1 + 1, 2), (w.heap.size + 1 + 1, 3), (w.heap.size + 1, 0), (w.heap.size + 1, 1), (w.heap.size + 1, 2), (w.heap.size + 1, 3), (w.heap.size, 0), (w.heap.size, 1), (w.heap.size, 2), (w.heap.size, 3)] ((W28.setCell ⟨w.heap.size + 1 + 1, 0, none⟩ (.slice p21 n21 c21)).setCell ⟨w.heap.size + 1 + 1, 1, none⟩ (.bool b21)) := S.set (g := w.heap.size + 1 + 1) (o := 1) (.bool b21) (by simp) (by simp <;> omega) (by omega)
  have K32 : Kp ((W28.setCell ⟨w.heap.size + 1 + 1, 0, none⟩ (.slice p21 n21 c21)).setCell ⟨w.heap.size + 1 + 1, 1, none⟩ (.bool b21)) (((W28.setCell ⟨w.heap.size + 1 + 1, 0, none⟩ (.slice p21 n21 c21)).setCell ⟨w.heap.size + 1 + 1, 1, none⟩ (.bool b21)).setCell ⟨w.heap.size + 1 + 1, 2, none⟩ (.slice q21 m21 f21)) := S.kp (g := w.heap.size + 1 + 1) (o := 2) (x := .slice none 0 0) (.slice q21 m21 f21) (by simp) (by simp)
  replace S : St w [(w.heap.size + 1 + 1, 2, .slice q21 m21 f21), (w.heap.size + 1 + 1, 0, .slice p21 n21 c21), (w.heap.size + 1 + 1, 1, .bool b21), (w.heap.size + 1 + 1, 3, .bool false), (w.heap.size + 1, 0, .bool b0), (w.heap.size + 1, 1, .slice p0 m0 c0), (w.heap.size + 1, 2, .bool b1), (w.heap.size + 1, 3, .slice p1 m1 c1), (w.heap.size, 0, .bool b0), (w.heap.size, 1, .slice p0 m0 c0), (w.heap.size, 2, .bool b1), (w.heap.size, 3, .slice p1 m1 c1)] [(w.heap.size + 1 + 1, 0), (w.heap.size + 1 + 1, 1), (w.heap.size + 1 + 1, 2), (w.heap.size + 1 + 1, 3), (w.heap.size + 1, 0), (w.heap.size + 1, 1), (w.heap.size + 1, 2), (w.heap.size + 1, 3), (w.heap.size, 0), (w.heap.size, 1), (w.heap.size, 2), (w.heap.size, 3)] (((W28.setCell ⟨w.heap.size + 1 + 1, 0, none⟩ (.slice p21 n21 c21)).setCell ⟨w.heap.size + 1 + 1, 1, none⟩ (.bool b21)).setCell ⟨w.heap.size + 1 + 1, 2, none⟩ (.slice q21 m21 f21)) := S.set (g := w.heap.size + 1 + 1) (o := 2) (.slice q21 m21 f21) (by simp) (by simp <;> omega) (by omega)
  have K33 : Kp (((W28.setCell ⟨w.heap.size + 1 + 1, 0, none⟩ (.slice p21 n21 c21)).setCell ⟨w.heap.size + 1 + 1, 1, none⟩ (.bool b21)).setCell ⟨w.heap.size + 1 + 1, 2, none⟩ (.slice q21 m21 f21)) ((((W28.setCell ⟨w.heap.size + 1 + 1, 0, none⟩ (.slice p21 n21 c21)).setCell ⟨w.heap.size + 1 + 1, 1, none⟩ (.bool b21)).setCell ⟨w.heap.size + 1 + 1, 2, none⟩ (.slice q21 m21 f21)).setCell ⟨w.heap.size + 1 + 1, 3, none⟩ (.bool d21)) := S.kp (g := w.heap.size + 1 + 1) (o := 3) (x := .bool false) (.bool d21) (by simp) (by simp)
  replace S : St w [(w.heap.size + 1 + 1, 3, .bool d21), (w.heap.size + 1 + 1, 0, .slice p21 n21 c21), (w.heap.size + 1 + 1, 1, .bool b21), (w.heap.size + 1 + 1, 2, .slice q21 m21 f21), (w.heap.size + 1, 0, .bool b0), (w.heap.size + 1, 1, .slice p0 m0 c0), (w.heap.size + 1, 2, .bool b1), (w.heap.size + 1, 3, .slice p1 m1 c1), (w.heap.size, 0, .bool b0), (w.heap.size, 1, .slice p0 m0 c0), (w.heap.size, 2, .bool b1), (w.heap.size, 3, .slice p1 m1 c1)] [(w.heap.size + 1 + 1, 0), (w.heap.size + 1 + 1, 1), (w.heap.size + 1 + 1, 2), (w.heap.size + 1 + 1, 3), (w.heap.size + 1, 0), (w.heap.size + 1, 1), (w.heap.size + 1, 2), (w.heap.size + 1, 3), (w.heap.size, 0), (w.heap.size, 1), (w.heap.size, 2), (w.heap.size, 3)] ((((W28.setCell ⟨w.heap.size + 1 + 1, 0, none⟩ (.slice p21 n21 c21)).setCell ⟨w.heap.size + 1 + 1, 1, none⟩ (.bool b21)).setCell ⟨w.heap.size + 1 + 1, 2, none⟩ (.slice q21 m21 f21)).setCell ⟨w.heap.size + 1 + 1, 3, none⟩ (.bool d21)) := S.set (g := w.heap.size + 1 + 1) (o := 3) (.bool d21) (by simp) (by simp <;> omega) (by omega)
  replace S : St w [(w.heap.size + 1 + 1, 0, .slice p21 n21 c21), (w.heap.size + 1 + 1, 1, .bool b21), (w.heap.size + 1 + 1, 2, .slice q21 m21 f21), (w.heap.size + 1 + 1, 3, .bool d21), (w.heap.size + 1, 0, .bool b0), (w.heap.size + 1, 1, .slice p0 m0 c0), (w.heap.size + 1, 2, .bool b1), (w.heap.size + 1, 3, .slice p1 m1 c1), (w.heap.size, 0, .bool b0), (w.heap.size, 1, .slice p0 m0 c0), (w.heap.size, 2, .bool b1), (w.heap.size, 3, .slice p1 m1 c1)] [(w.heap.size + 1 + 1, 0), (w.heap.size + 1 + 1, 1), (w.heap.size + 1 + 1, 2), (w.heap.size + 1 + 1, 3), (w.heap.size + 1, 0), (w.heap.size + 1, 1), (w.heap.size + 1, 2), (w.heap.size + 1, 3), (w.heap.size, 0), (w.heap.size, 1), (w.heap.size, 2), (w.heap.size, 3)] ((((W28.setCell ⟨w.heap.size + 1 + 1, 0, none⟩ (.slice p21 n21 c21)).setCell ⟨w.heap.size + 1 + 1, 1, none⟩ (.bool b21)).setCell ⟨w.heap.size + 1 + 1, 2, none⟩ (.slice q21 m21 f21)).setCell ⟨w.heap.size + 1 + 1, 3, none⟩ (.bool d21)) := S.sub (by simp) (by simp)
  replace N21 := Lib.hid (N21.out.kp (((K30.trans K31).trans K32).trans K33))
  clear K30 K31 K32 K33
  have sz34 : ((((W28.setCell ⟨w.heap.size + 1 + 1, 0, none⟩ (.slice p21 n21 c21)).setCell ⟨w.heap.size + 1 + 1, 1, none⟩ (.bool b21)).setCell ⟨w.heap.size + 1 + 1, 2, none⟩ (.slice q21 m21 f21)).setCell ⟨w.heap.size + 1 + 1, 3, none⟩ (.bool d21)).heap.size = W28.heap.size := by simp
  generalize ((((W28.setCell ⟨w.heap.size + 1 + 1, 0, none⟩ (.slice p21 n21 c21)).setCell ⟨w.heap.size + 1 + 1, 1, none⟩ (.bool b21)).setCell ⟨w.heap.size + 1 + 1, 2, none⟩ (.slice q21 m21 f21)).setCell ⟨w.heap.size + 1 + 1, 3, none⟩ (.bool d21)) = W34 at *
  clear l0 l1 l2 lS
  have l0 := S.ltc (g := w.heap.size) (o := 0) (x := .bool b0) (by simp)
  have l1 := S.ltc (g := w.heap.size + 1) (o := 0) (x := .bool b0) (by simp)
  have l2 := S.ltc (g := w.heap.size + 1 + 1) (o := 0) (x := .slice p21 n21 c21) (by simp)
  have lS := S.size
  refine wpAnyH_done (by kernel_rfl) ?_ _
  refine NoPanic.normal ?_
  obtain ⟨e0, e1, e2, e3, e4, e5, e6, e7, e8, e9, e10, e11, h0, i0, h1, i1, h2, i2, h3, i3, h4, i4, h5, i5, h6, i6, h7, i7, h8, i8, h9, i9, h10, i10, h11, i11, G⟩ := id S
  go_wp2_with fail
  clear e0 e1 e2 e3 e4 e5 e6 e7 e8 e9 e10 e11 h0 i0 h1 i1 h2 i2 h3 i3 h4 i4 h5 i5 h6 i6 h7 i7 h8 i8 h9 i9 h10 i10 h11 i11 G
  refine post_QS Tryz.results40 rfl rfl rfl (S.cell (g := w.heap.size + 1) (o := 0) (x := .bool b0) (by simp)) (S.cell (g := w.heap.size + 1) (o := 1) (x := .slice p0 m0 c0) (by simp)) (S.cell (g := w.heap.size + 1) (o := 2) (x := .bool b1) (by simp)) (S.cell (g := w.heap.size + 1) (o := 3) (x := .slice p1 m1 c1) (by simp)) (S.cell (g := w.heap.size + 1 + 1) (o := 0) (x := .slice p21 n21 c21) (by simp)) (S.cell (g := w.heap.size + 1 + 1) (o := 1) (x := .bool b21) (by simp)) (S.cell (g := w.heap.size + 1 + 1) (o := 2) (x := .slice q21 m21 f21) (by simp)) (S.cell (g := w.heap.size + 1 + 1) (o := 3) (x := .bool d21) (by simp)) ⟨p0, m0, c0, p1, m1, c1, _, _, _, _, _, _, _, _, rfl, X.out.grown S.all (.inl rfl), Y.out.grown S.all (.inl rfl), N21.out.more (by omega), S.all⟩

end Go.Proofs.YtmkplojojaopmaaGreatDoor
