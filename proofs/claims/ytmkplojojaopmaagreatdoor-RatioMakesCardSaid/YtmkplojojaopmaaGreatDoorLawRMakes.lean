/- RatioMakes holds: for every two whole numbers and two ints the law returns true and leaves them as they were. No condition but what the row lists. -/
import Derived.Test.YtmkplojojaopmaaGreatDoorRowRat
namespace Go.Proofs.YtmkplojojaopmaaGreatDoor.rmakes
open Go.ChangeShapes Go.WideShapes Go.ChangeAt Go.RowKit

section
variable {H : Type} {enc : TypeId × Value → H}
set_option maxRecDepth 100000 in
theorem int_of_trod {W : World} {base base' : Nat} {held : Bool} {v : Value} {d : DataW H} {ps : List MemPlace}
    (h : DataW.Trod enc Tryz.prog W base (fun _ => true) held 24 v d ps) (hv : Value.okWide Tryz.prog W .any base' 24 v) : ∃ b s xs, v = .agg #[.bool b, s] ∧ Sl W .u32 s xs ∧ All 4294967296 xs := by
  obtain ⟨v0, v1, y0, y1, n, rfl, -, -, h0, h1⟩ := Joins.open_agg2 Tryz.underlying24 (by kernel_rfl) (by kernel_rfl) hv h
  obtain ⟨b, e0, -⟩ := DataW.trod_bool Tryz.underlying4 h0
  obtain rfl : v0 = .bool b := by simpa using e0
  obtain ⟨xs, h2, h3⟩ := sl_of_row (W := W) Tryz.underlying22 Tryz.underlying104 (by kernel_rfl) h1
  exact ⟨b, v1, xs, rfl, h2, h3⟩
end
theorem qOf_one (n : Int) : qOf n 1 = Rat.divInt n 1 := by rw [qOf, if_neg (by omega)]
set_option maxHeartbeats 4000000 in
set_option maxRecDepth 100000 in
theorem ROf_0 (x y : Int) {w : World} (x1 : -9223372036854775808 ≤ x) (x2 : x ≤ 9223372036854775807) (y1 : -9223372036854775808 ≤ y) (y2 : y ≤ 9223372036854775807) (h0 : y = 0) :
    Calls Tryz.prog 36 #[.int .i64 x, .int .i64 y] w (ErrQ w 2) := by
  have Y0 := Lib.hid h0
  clear h0
  have S : St w [] [] w := St.start w
  go_enter Tryz.func36, Tryz.ntmps36
  have G := S
  go_wp2_with fail
  clear G
  replace S : St w [(w.heap.size, 0, .bool false), (w.heap.size, 1, .slice none 0 0), (w.heap.size, 2, .bool false), (w.heap.size, 3, .slice none 0 0)] [(w.heap.size, 0), (w.heap.size, 1), (w.heap.size, 2), (w.heap.size, 3)] (w.alloc (.cells #[.bool false, .slice none 0 0, .bool false, .slice none 0 0] 46)) := S.made (w.heap.size) [.bool false, .slice none 0 0, .bool false, .slice none 0 0] 46 (by simp)
  have sz10 : (w.alloc (.cells #[.bool false, .slice none 0 0, .bool false, .slice none 0 0] 46)).heap.size = w.heap.size + 1 := by simp
  generalize (w.alloc (.cells #[.bool false, .slice none 0 0, .bool false, .slice none 0 0] 46)) = W10 at *
  obtain ⟨z11, ez11⟩ : ∃ t : Int, (x : Int) = t := ⟨_, rfl⟩
  have E11 := Lib.hid ez11
  clear ez11
  go_at_call 69
  with_reducible refine (Of_g x x1 x2 E11.out).mono ?_
  rintro e w12 ⟨b11, p11, n11, c11, rfl, h, g⟩
  have N11 := Lib.hid (h)
  replace S := S.step g
  have lg12 := g.size
  clear g h
  have l0 := S.ltc (g := w.heap.size) (o := 0) (x := .bool false) (by simp)
  have lS := S.size
  obtain ⟨e0, e1, e2, e3, h0, i0, h1, i1, h2, i2, h3, i3, G⟩ := id S
  go_wp2_with fail
  clear e0 e1 e2 e3 h0 i0 h1 i1 h2 i2 h3 i3 G
  obtain ⟨z13, ez13⟩ : ∃ t : Int, (y : Int) = t := ⟨_, rfl⟩
  have E13 := Lib.hid ez13
  clear ez13
  go_at_call 69
  with_reducible refine (Of_g y y1 y2 E13.out).mono ?_
  rintro e w14 ⟨b13, p13, n13, c13, rfl, h, g⟩
  replace N11 := Lib.hid (N11.out.kp (Kp.of g))
  have N13 := Lib.hid (h)
  replace S := S.step g
  have lg14 := g.size
  clear g h l0 lS
  have l0 := S.ltc (g := w.heap.size) (o := 0) (x := .bool false) (by simp)
  have lS := S.size
  obtain ⟨e0, e1, e2, e3, h0, i0, h1, i1, h2, i2, h3, i3, G⟩ := id S
  go_wp2_with fail
  clear e0 e1 e2 e3 h0 i0 h1 i1 h2 i2 h3 i3 G
  go_at_call 32
  with_reducible refine (RMake_0 N11.out.i N13.out.i (by omega) (by rw [← E13.out]; exact Y0.out)).mono ?_
  rintro e w16 ⟨rfl, g⟩
  clear N11 N13
  replace S := S.step g
  have lg16 := g.size
  clear g l0 lS
  have l0 := S.ltc (g := w.heap.size) (o := 0) (x := .bool false) (by simp)
  have lS := S.size
  obtain ⟨e0, e1, e2, e3, h0, i0, h1, i1, h2, i2, h3, i3, G⟩ := id S
  go_wp2_with fail
  clear e0 e1 e2 e3 h0 i0 h1 i1 h2 i2 h3 i3 G
  have K17 : Kp w16 (w16.setCell ⟨w.heap.size, 0, none⟩ (.bool false)) := S.kp (g := w.heap.size) (o := 0) (x := .bool false) (.bool false) (by simp) (by simp)
  replace S : St w [(w.heap.size, 0, .bool false), (w.heap.size, 1, .slice none 0 0), (w.heap.size, 2, .bool false), (w.heap.size, 3, .slice none 0 0)] [(w.heap.size, 0), (w.heap.size, 1), (w.heap.size, 2), (w.heap.size, 3)] (w16.setCell ⟨w.heap.size, 0, none⟩ (.bool false)) := S.set (g := w.heap.size) (o := 0) (.bool false) (by simp) (by simp <;> omega) (by omega)
  have K18 : Kp (w16.setCell ⟨w.heap.size, 0, none⟩ (.bool false)) ((w16.setCell ⟨w.heap.size, 0, none⟩ (.bool false)).setCell ⟨w.heap.size, 1, none⟩ (.slice none 0 0)) := S.kp (g := w.heap.size) (o := 1) (x := .slice none 0 0) (.slice none 0 0) (by simp) (by simp)
  replace S : St w [(w.heap.size, 1, .slice none 0 0), (w.heap.size, 0, .bool false), (w.heap.size, 2, .bool false), (w.heap.size, 3, .slice none 0 0)] [(w.heap.size, 0), (w.heap.size, 1), (w.heap.size, 2), (w.heap.size, 3)] ((w16.setCell ⟨w.heap.size, 0, none⟩ (.bool false)).setCell ⟨w.heap.size, 1, none⟩ (.slice none 0 0)) := S.set (g := w.heap.size) (o := 1) (.slice none 0 0) (by simp) (by simp <;> omega) (by omega)
  have K19 : Kp ((w16.setCell ⟨w.heap.size, 0, none⟩ (.bool false)).setCell ⟨w.heap.size, 1, none⟩ (.slice none 0 0)) (((w16.setCell ⟨w.heap.size, 0, none⟩ (.bool false)).setCell ⟨w.heap.size, 1, none⟩ (.slice none 0 0)).setCell ⟨w.heap.size, 2, none⟩ (.bool false)) := S.kp (g := w.heap.size) (o := 2) (x := .bool false) (.bool false) (by simp) (by simp)
  replace S : St w [(w.heap.size, 2, .bool false), (w.heap.size, 0, .bool false), (w.heap.size, 1, .slice none 0 0), (w.heap.size, 3, .slice none 0 0)] [(w.heap.size, 0), (w.heap.size, 1), (w.heap.size, 2), (w.heap.size, 3)] (((w16.setCell ⟨w.heap.size, 0, none⟩ (.bool false)).setCell ⟨w.heap.size, 1, none⟩ (.slice none 0 0)).setCell ⟨w.heap.size, 2, none⟩ (.bool false)) := S.set (g := w.heap.size) (o := 2) (.bool false) (by simp) (by simp <;> omega) (by omega)
  have K20 : Kp (((w16.setCell ⟨w.heap.size, 0, none⟩ (.bool false)).setCell ⟨w.heap.size, 1, none⟩ (.slice none 0 0)).setCell ⟨w.heap.size, 2, none⟩ (.bool false)) ((((w16.setCell ⟨w.heap.size, 0, none⟩ (.bool false)).setCell ⟨w.heap.size, 1, none⟩ (.slice none 0 0)).setCell ⟨w.heap.size, 2, none⟩ (.bool false)).setCell ⟨w.heap.size, 3, none⟩ (.slice none 0 0)) := S.kp (g := w.heap.size) (o := 3) (x := .slice none 0 0) (.slice none 0 0) (by simp) (by simp)
  replace S : St w [(w.heap.size, 3, .slice none 0 0), (w.heap.size, 0, .bool false), (w.heap.size, 1, .slice none 0 0), (w.heap.size, 2, .bool false)] [(w.heap.size, 0), (w.heap.size, 1), (w.heap.size, 2), (w.heap.size, 3)] ((((w16.setCell ⟨w.heap.size, 0, none⟩ (.bool false)).setCell ⟨w.heap.size, 1, none⟩ (.slice none 0 0)).setCell ⟨w.heap.size, 2, none⟩ (.bool false)).setCell ⟨w.heap.size, 3, none⟩ (.slice none 0 0)) := S.set (g := w.heap.size) (o := 3) (.slice none 0 0) (by simp) (by simp <;> omega) (by omega)
  replace S : St w [(w.heap.size, 0, .bool false), (w.heap.size, 1, .slice none 0 0), (w.heap.size, 2, .bool false), (w.heap.size, 3, .slice none 0 0)] [(w.heap.size, 0), (w.heap.size, 1), (w.heap.size, 2), (w.heap.size, 3)] ((((w16.setCell ⟨w.heap.size, 0, none⟩ (.bool false)).setCell ⟨w.heap.size, 1, none⟩ (.slice none 0 0)).setCell ⟨w.heap.size, 2, none⟩ (.bool false)).setCell ⟨w.heap.size, 3, none⟩ (.slice none 0 0)) := S.sub (by simp) (by simp)
  clear K17 K18 K19 K20
  have sz21 : ((((w16.setCell ⟨w.heap.size, 0, none⟩ (.bool false)).setCell ⟨w.heap.size, 1, none⟩ (.slice none 0 0)).setCell ⟨w.heap.size, 2, none⟩ (.bool false)).setCell ⟨w.heap.size, 3, none⟩ (.slice none 0 0)).heap.size = w16.heap.size := by simp
  generalize ((((w16.setCell ⟨w.heap.size, 0, none⟩ (.bool false)).setCell ⟨w.heap.size, 1, none⟩ (.slice none 0 0)).setCell ⟨w.heap.size, 2, none⟩ (.bool false)).setCell ⟨w.heap.size, 3, none⟩ (.slice none 0 0)) = W21 at *
  refine post_QE Tryz.results36 rfl rfl rfl (S.cell (g := w.heap.size) (o := 0) (x := .bool false) (by simp)) (S.cell (g := w.heap.size) (o := 1) (x := .slice none 0 0) (by simp)) (S.cell (g := w.heap.size) (o := 2) (x := .bool false) (by simp)) (S.cell (g := w.heap.size) (o := 3) (x := .slice none 0 0) (by simp)) ⟨rfl, S.all⟩

theorem stand_no (t : TypeId) (h : t ∈ ([46, 24, 3, 4, 9] : List TypeId)) : Tryz.prog.wantsStandIn t = false := by
  simp only [List.mem_cons, List.mem_nil_iff, or_false] at h
  rcases h with rfl | rfl | rfl | rfl | rfl <;> kernel_rfl
theorem qOf_int (z : Int) : qOf z 1 = (z : Rat) := by rw [qOf, if_neg (by omega), Rat.divInt_eq_div, Rat.intCast_one]; grind
theorem KInt_v {b : Bool} {s : Value} {xs : List Nat} {z : Int} {w : World} {ki : Int} (k : Nat) (hki : (k : Int) = ki) (hx : Sl w .u32 s xs) (ax : All 4294967296 xs) (hz : sg b (val 4294967296 (xs.take k)) = z) :
    Calls Tryz.prog 16 #[.agg #[.bool b, s], .int .i64 ki] w fun e w' => ∃ p n c, e = .returned (.agg #[.bool b, .slice p n c]) ∧ IntV w' (.agg #[.bool b, .slice p n c]) z k ∧ w.grownBy w' none := by
  subst hki
  obtain ⟨p, c, rfl, h1, -⟩ := id hx
  obtain ⟨m, hm⟩ : ∃ m, (xs.take k).length = m := ⟨_, rfl⟩
  refine (Int_k k h1 hm).mono fun e w' h => ?_
  obtain ⟨rfl, g⟩ := h
  exact ⟨p, m, c, rfl, IntV.grown ⟨_, _, _, rfl, Num.row (take_sl hx hm) (ax.take k) k (by rw [List.length_take]; omega), hz.symm⟩ g, g⟩
theorem IZero_0 (w : World) : Calls Tryz.prog 23 #[.agg #[.bool false, .slice none 0 0]] w (Bool_ w true) := by
  have S : St w [] [] w := St.start w
  go_enter Tryz.func23, Tryz.ntmps23
  go_wp2_with fail
  go_ret
  exact ⟨rfl, grown_alloc _ _ _⟩
set_option maxHeartbeats 16000000 in
set_option maxRecDepth 100000 in
theorem walk_k {a0 a1 : Bool} {s0 s1 : Value} {xs0 xs1 : List Nat} {w : World} (hx0 : Sl w .u32 s0 xs0) (ax0 : All 4294967296 xs0) (hx1 : Sl w .u32 s1 xs1) (ax1 : All 4294967296 xs1) (i : Int) (i1 : -9223372036854775808 ≤ i) (i2 : i ≤ 9223372036854775807) (k : Int) (k1 : -9223372036854775808 ≤ k) (k2 : k ≤ 9223372036854775807) (k0 : k ≠ 0) :
    Calls Tryz.prog 8 #[.agg #[.bool a0, s0], .agg #[.bool a1, s1], .int .i64 i, .int .i64 k] w (Bool_ w true) := by
  have kb : (k == 0) = false := by simpa using k0
  have K0 := Lib.hid k0
  obtain ⟨p0, c0, rfl, -⟩ := id hx0
  have X0 := Lib.hid hx0
  have AX0 := Lib.hid ax0
  obtain ⟨z0, hz0⟩ : ∃ z, sg a0 (val 4294967296 (xs0.take 8)) = z := ⟨_, rfl⟩
  have HZ0 := Lib.hid hz0
  clear hx0 ax0 hz0
  obtain ⟨p1, c1, rfl, -⟩ := id hx1
  have X1 := Lib.hid hx1
  have AX1 := Lib.hid ax1
  obtain ⟨z1, hz1⟩ : ∃ z, sg a1 (val 4294967296 (xs1.take 8)) = z := ⟨_, rfl⟩
  have HZ1 := Lib.hid hz1
  clear hx1 ax1 hz1
  have S : St w [] [] w := St.start w
  go_enter Tryz.func8, Tryz.ntmps8
  have G := S
  go_wp2_with fail
  clear G
  replace S : St w [(w.heap.size, 0, .bool a0), (w.heap.size, 1, .slice p0 xs0.length c0)] [(w.heap.size, 0), (w.heap.size, 1)] (w.alloc (.cells #[.bool a0, .slice p0 xs0.length c0] 24)) := S.made (w.heap.size) [.bool a0, .slice p0 xs0.length c0] 24 (by simp)
  replace S : St w [(w.heap.size + 1, 0, .bool a1), (w.heap.size + 1, 1, .slice p1 xs1.length c1), (w.heap.size, 0, .bool a0), (w.heap.size, 1, .slice p0 xs0.length c0)] [(w.heap.size + 1, 0), (w.heap.size + 1, 1), (w.heap.size, 0), (w.heap.size, 1)] ((w.alloc (.cells #[.bool a0, .slice p0 xs0.length c0] 24)).alloc (.cells #[.bool a1, .slice p1 xs1.length c1] 24)) := S.made (w.heap.size + 1) [.bool a1, .slice p1 xs1.length c1] 24 (by simp)
  replace X0 := Lib.hid (X0.out.kp ((Kp.of (grown_alloc w (.cells #[.bool a0, .slice p0 xs0.length c0] 24) none)).trans (Kp.of (grown_alloc ((w.alloc (.cells #[.bool a0, .slice p0 xs0.length c0] 24))) (.cells #[.bool a1, .slice p1 xs1.length c1] 24) none))))
  replace X1 := Lib.hid (X1.out.kp ((Kp.of (grown_alloc w (.cells #[.bool a0, .slice p0 xs0.length c0] 24) none)).trans (Kp.of (grown_alloc ((w.alloc (.cells #[.bool a0, .slice p0 xs0.length c0] 24))) (.cells #[.bool a1, .slice p1 xs1.length c1] 24) none))))
  have sz10 : ((w.alloc (.cells #[.bool a0, .slice p0 xs0.length c0] 24)).alloc (.cells #[.bool a1, .slice p1 xs1.length c1] 24)).heap.size = w.heap.size + 2 := by simp
  generalize ((w.alloc (.cells #[.bool a0, .slice p0 xs0.length c0] 24)).alloc (.cells #[.bool a1, .slice p1 xs1.length c1] 24)) = W10 at *
  have T0 : Cl [(w.heap.size, 0, .bool a0), (w.heap.size, 1, .slice p0 xs0.length c0), (w.heap.size + 1, 0, .bool a1), (w.heap.size + 1, 1, .slice p1 xs1.length c1)] W10 := S.cl (by simp)
  refine wp_region_noPanic ?_
  refine AnyUntil.start (T := fun w' => w'.cell? ⟨w.heap.size, 0, none⟩ = some (.bool a0) ∧ w'.cell? ⟨w.heap.size, 1, none⟩ = some (.slice p0 xs0.length c0) ∧ w'.cell? ⟨w.heap.size + 1, 0, none⟩ = some (.bool a1) ∧ w'.cell? ⟨w.heap.size + 1, 1, none⟩ = some (.slice p1 xs1.length c1) ∧ True) 4 (by kernel_rfl) (by exact Cl.step (cs := [(w.heap.size, 0, .bool a0), (w.heap.size, 1, .slice p0 xs0.length c0), (w.heap.size + 1, 0, .bool a1), (w.heap.size + 1, 1, .slice p1 xs1.length c1)]) (grown_drew _ _) T0) (fun hHeld => ?_)
  change AnyUntil _ _ _ _ _ _ 6 #[false, false, false, false, false, false] _ _
  replace S := S.step (grown_drew W10 none)
  replace X0 := Lib.hid (X0.out.kp (Kp.of (grown_drew W10 none)))
  replace X1 := Lib.hid (X1.out.kp (Kp.of (grown_drew W10 none)))
  have lg11 := (grown_drew W10 none).size
  clear T0
  generalize W10.drew = wr11 at *
  have l0 := S.ltc (g := w.heap.size) (o := 0) (x := .bool a0) (by simp)
  have l1 := S.ltc (g := w.heap.size + 1) (o := 0) (x := .bool a1) (by simp)
  have lS := S.size
  refine AnyUntil.take [4, 1] (i := 0) (oi := _) (v := ?vq12) rfl (by kernel_rfl) (by kernel_rfl) (by kernel_rfl) (by kernel_rfl) (fun _ _ _ h => h) (Or.inl ⟨by rfl, ?hyq12⟩) (by assumption) ?restq12
  case hyq12 => (intro w hSw; (try dsimp only at hSw); go_simp; try with_reducible rfl)
  try simp only [Act.put, List.getElem_toArray, List.getElem_cons_zero, List.setIfInBounds_toArray, List.set_cons_zero, List.set_cons_succ]
  refine AnyUntil.take [4, 3] (i := 2) (oi := _) (v := ?vq13) rfl (by kernel_rfl) (by kernel_rfl) (by kernel_rfl) (by kernel_rfl) (fun _ _ _ h => h) (Or.inl ⟨by rfl, ?hyq13⟩) (by assumption) ?restq13
  case hyq13 => (intro w hSw; (try dsimp only at hSw); go_simp; try with_reducible rfl)
  try simp only [Act.put, List.getElem_toArray, List.getElem_cons_zero, List.getElem_cons_succ, List.setIfInBounds_toArray, List.set_cons_zero, List.set_cons_succ]
  refine AnyUntil.ready (rs := [1]) (by kernel_rfl) (by simp) ?_
  refine Each.held (o := _) rfl (fun K hK => ?_) Each.nil
  go_simp
  go_at_call 16
  with_reducible refine (KInt_v 8 (by decide) X0.out AX0.out HZ0.out).mono ?_
  rintro e w16 ⟨p15, n15, c15, rfl, h, g⟩
  clear X0
  replace X1 := Lib.hid (X1.out.kp (Kp.of g))
  have N15 := Lib.hid (h)
  replace S := S.step g
  have lg16 := g.size
  clear l0 l1 lS
  have l0 := S.ltc (g := w.heap.size) (o := 0) (x := .bool a0) (by simp)
  have l1 := S.ltc (g := w.heap.size + 1) (o := 0) (x := .bool a1) (by simp)
  have lS := S.size
  go_wp2_with fail
  refine hK.out _ _ ?hSq14 (fun hHeld => ?_)
  case hSq14 => exact Cl.step (cs := [(w.heap.size, 0, .bool a0), (w.heap.size, 1, .slice p0 xs0.length c0), (w.heap.size + 1, 0, .bool a1), (w.heap.size + 1, 1, .slice p1 xs1.length c1)]) g (by assumption)
  clear hK K g h
  try simp only [List.setIfInBounds_toArray, List.set_cons_zero, List.set_cons_succ]
  refine AnyUntil.ready (rs := [3]) (by kernel_rfl) (by simp) ?_
  refine Each.held (o := _) rfl (fun K hK => ?_) Each.nil
  go_simp
  go_at_call 16
  with_reducible refine (KInt_v 8 (by decide) X1.out AX1.out HZ1.out).mono ?_
  rintro e w19 ⟨p18, n18, c18, rfl, h, g⟩
  clear X1
  replace N15 := Lib.hid (N15.out.kp (Kp.of g))
  have N18 := Lib.hid (h)
  replace S := S.step g
  have lg19 := g.size
  clear l0 l1 lS
  have l0 := S.ltc (g := w.heap.size) (o := 0) (x := .bool a0) (by simp)
  have l1 := S.ltc (g := w.heap.size + 1) (o := 0) (x := .bool a1) (by simp)
  have lS := S.size
  go_wp2_with fail
  refine hK.out _ _ ?hSq17 (fun hHeld => ?_)
  case hSq17 => exact Cl.step (cs := [(w.heap.size, 0, .bool a0), (w.heap.size, 1, .slice p0 xs0.length c0), (w.heap.size + 1, 0, .bool a1), (w.heap.size + 1, 1, .slice p1 xs1.length c1)]) g (by assumption)
  clear hK K g h
  try simp only [List.setIfInBounds_toArray, List.set_cons_zero, List.set_cons_succ]
  obtain ⟨e0, e1, e2, e3, h0, i0, h1, i1, h2, i2, h3, i3, G⟩ := id S
  refine AnyUntil.ready (rs := [4]) (by kernel_rfl) (by simp) ?_
  refine Each.free (o := _) (by kernel_rfl) rfl (fun K hK => ?_) Each.nil
  go_simp
  refine hK.out _ _ ?_
  clear hK K
  try simp only [List.setIfInBounds_toArray, List.set_cons_zero, List.set_cons_succ]
  clear e0 e1 e2 e3 h0 i0 h1 i1 h2 i2 h3 i3 G
  have K21 : Kp w19 (w19.setCell ⟨w.heap.size, 0, none⟩ (.bool a0)) := S.kp (g := w.heap.size) (o := 0) (x := .bool a0) (.bool a0) (by simp) (by simp)
  replace S : St w [(w.heap.size, 0, .bool a0), (w.heap.size + 1, 0, .bool a1), (w.heap.size + 1, 1, .slice p1 xs1.length c1), (w.heap.size, 1, .slice p0 xs0.length c0)] [(w.heap.size + 1, 0), (w.heap.size + 1, 1), (w.heap.size, 0), (w.heap.size, 1)] (w19.setCell ⟨w.heap.size, 0, none⟩ (.bool a0)) := S.set (g := w.heap.size) (o := 0) (.bool a0) (by simp) (by simp <;> omega) (by omega)
  have K22 : Kp (w19.setCell ⟨w.heap.size, 0, none⟩ (.bool a0)) ((w19.setCell ⟨w.heap.size, 0, none⟩ (.bool a0)).setCell ⟨w.heap.size, 1, none⟩ (.slice p15 n15 c15)) := S.kp (g := w.heap.size) (o := 1) (x := .slice p0 xs0.length c0) (.slice p15 n15 c15) (by simp) (by simp)
  replace S : St w [(w.heap.size, 1, .slice p15 n15 c15), (w.heap.size + 1, 0, .bool a1), (w.heap.size + 1, 1, .slice p1 xs1.length c1), (w.heap.size, 0, .bool a0)] [(w.heap.size + 1, 0), (w.heap.size + 1, 1), (w.heap.size, 0), (w.heap.size, 1)] ((w19.setCell ⟨w.heap.size, 0, none⟩ (.bool a0)).setCell ⟨w.heap.size, 1, none⟩ (.slice p15 n15 c15)) := S.set (g := w.heap.size) (o := 1) (.slice p15 n15 c15) (by simp) (by simp <;> omega) (by omega)
  replace S : St w [(w.heap.size + 1, 0, .bool a1), (w.heap.size + 1, 1, .slice p1 xs1.length c1), (w.heap.size, 0, .bool a0), (w.heap.size, 1, .slice p15 n15 c15)] [(w.heap.size + 1, 0), (w.heap.size + 1, 1), (w.heap.size, 0), (w.heap.size, 1)] ((w19.setCell ⟨w.heap.size, 0, none⟩ (.bool a0)).setCell ⟨w.heap.size, 1, none⟩ (.slice p15 n15 c15)) := S.sub (by simp) (by simp)
  replace N15 := Lib.hid (N15.out.kp (K21.trans K22))
  replace N18 := Lib.hid (N18.out.kp (K21.trans K22))
  clear K21 K22
  have sz23 : ((w19.setCell ⟨w.heap.size, 0, none⟩ (.bool a0)).setCell ⟨w.heap.size, 1, none⟩ (.slice p15 n15 c15)).heap.size = w19.heap.size := by simp
  generalize ((w19.setCell ⟨w.heap.size, 0, none⟩ (.bool a0)).setCell ⟨w.heap.size, 1, none⟩ (.slice p15 n15 c15)) = W23 at *
  clear l0 l1 lS
  have l0 := S.ltc (g := w.heap.size) (o := 0) (x := .bool a0) (by simp)
  have l1 := S.ltc (g := w.heap.size + 1) (o := 0) (x := .bool a1) (by simp)
  have lS := S.size
  obtain ⟨e0, e1, e2, e3, h0, i0, h1, i1, h2, i2, h3, i3, G⟩ := id S
  refine AnyUntil.ready (rs := [5]) (by kernel_rfl) (by simp) ?_
  refine Each.free (o := _) (by kernel_rfl) rfl (fun K hK => ?_) Each.nil
  go_simp
  refine hK.out _ _ ?_
  clear hK K
  try simp only [List.setIfInBounds_toArray, List.set_cons_zero, List.set_cons_succ]
  clear e0 e1 e2 e3 h0 i0 h1 i1 h2 i2 h3 i3 G
  have K25 : Kp W23 (W23.setCell ⟨w.heap.size + 1, 0, none⟩ (.bool a1)) := S.kp (g := w.heap.size + 1) (o := 0) (x := .bool a1) (.bool a1) (by simp) (by simp)
  replace S : St w [(w.heap.size + 1, 0, .bool a1), (w.heap.size + 1, 1, .slice p1 xs1.length c1), (w.heap.size, 0, .bool a0), (w.heap.size, 1, .slice p15 n15 c15)] [(w.heap.size + 1, 0), (w.heap.size + 1, 1), (w.heap.size, 0), (w.heap.size, 1)] (W23.setCell ⟨w.heap.size + 1, 0, none⟩ (.bool a1)) := S.set (g := w.heap.size + 1) (o := 0) (.bool a1) (by simp) (by simp <;> omega) (by omega)
  have K26 : Kp (W23.setCell ⟨w.heap.size + 1, 0, none⟩ (.bool a1)) ((W23.setCell ⟨w.heap.size + 1, 0, none⟩ (.bool a1)).setCell ⟨w.heap.size + 1, 1, none⟩ (.slice p18 n18 c18)) := S.kp (g := w.heap.size + 1) (o := 1) (x := .slice p1 xs1.length c1) (.slice p18 n18 c18) (by simp) (by simp)
  replace S : St w [(w.heap.size + 1, 1, .slice p18 n18 c18), (w.heap.size + 1, 0, .bool a1), (w.heap.size, 0, .bool a0), (w.heap.size, 1, .slice p15 n15 c15)] [(w.heap.size + 1, 0), (w.heap.size + 1, 1), (w.heap.size, 0), (w.heap.size, 1)] ((W23.setCell ⟨w.heap.size + 1, 0, none⟩ (.bool a1)).setCell ⟨w.heap.size + 1, 1, none⟩ (.slice p18 n18 c18)) := S.set (g := w.heap.size + 1) (o := 1) (.slice p18 n18 c18) (by simp) (by simp <;> omega) (by omega)
  replace S : St w [(w.heap.size + 1, 0, .bool a1), (w.heap.size + 1, 1, .slice p18 n18 c18), (w.heap.size, 0, .bool a0), (w.heap.size, 1, .slice p15 n15 c15)] [(w.heap.size + 1, 0), (w.heap.size + 1, 1), (w.heap.size, 0), (w.heap.size, 1)] ((W23.setCell ⟨w.heap.size + 1, 0, none⟩ (.bool a1)).setCell ⟨w.heap.size + 1, 1, none⟩ (.slice p18 n18 c18)) := S.sub (by simp) (by simp)
  replace N15 := Lib.hid (N15.out.kp (K25.trans K26))
  replace N18 := Lib.hid (N18.out.kp (K25.trans K26))
  clear K25 K26
  have sz27 : ((W23.setCell ⟨w.heap.size + 1, 0, none⟩ (.bool a1)).setCell ⟨w.heap.size + 1, 1, none⟩ (.slice p18 n18 c18)).heap.size = W23.heap.size := by simp
  generalize ((W23.setCell ⟨w.heap.size + 1, 0, none⟩ (.bool a1)).setCell ⟨w.heap.size + 1, 1, none⟩ (.slice p18 n18 c18)) = W27 at *
  clear l0 l1 lS
  have l0 := S.ltc (g := w.heap.size) (o := 0) (x := .bool a0) (by simp)
  have l1 := S.ltc (g := w.heap.size + 1) (o := 0) (x := .bool a1) (by simp)
  have lS := S.size
  refine AnyUntil.end (by kernel_rfl) ?_ _
  refine NoPanic.normal ?_
  obtain ⟨e0, e1, e2, e3, h0, i0, h1, i1, h2, i2, h3, i3, G⟩ := id S
  go_wp2_with fail
  clear e0 e1 e2 e3 h0 i0 h1 i1 h2 i2 h3 i3 G
  by_cases hb : z1 = 0
  · have B0 := Lib.hid hb
    clear hb
    go_at_call 32
    with_reducible refine (RMake_0 N15.out N18.out (by omega) B0.out).mono ?_
    rintro e w29 ⟨rfl, g⟩
    replace N15 := Lib.hid (N15.out.kp (Kp.of g))
    replace N18 := Lib.hid (N18.out.kp (Kp.of g))
    replace S := S.step g
    have lg29 := g.size
    clear g l0 l1 lS
    have l0 := S.ltc (g := w.heap.size) (o := 0) (x := .bool a0) (by simp)
    have l1 := S.ltc (g := w.heap.size + 1) (o := 0) (x := .bool a1) (by simp)
    have lS := S.size
    obtain ⟨e0, e1, e2, e3, h0, i0, h1, i1, h2, i2, h3, i3, G⟩ := id S
    go_wp2_with fail
    clear e0 e1 e2 e3 h0 i0 h1 i1 h2 i2 h3 i3 G
    replace S : St w [(w29.heap.size, 0, .bool false), (w29.heap.size, 1, .slice none 0 0), (w29.heap.size, 2, .bool false), (w29.heap.size, 3, .slice none 0 0), (w.heap.size + 1, 0, .bool a1), (w.heap.size + 1, 1, .slice p18 n18 c18), (w.heap.size, 0, .bool a0), (w.heap.size, 1, .slice p15 n15 c15)] [(w29.heap.size, 0), (w29.heap.size, 1), (w29.heap.size, 2), (w29.heap.size, 3), (w.heap.size + 1, 0), (w.heap.size + 1, 1), (w.heap.size, 0), (w.heap.size, 1)] (w29.alloc (.cells #[.bool false, .slice none 0 0, .bool false, .slice none 0 0] 46)) := S.made (w29.heap.size) [.bool false, .slice none 0 0, .bool false, .slice none 0 0] 46 (by simp)
    replace N15 := Lib.hid (N15.out.kp (Kp.of (grown_alloc w29 (.cells #[.bool false, .slice none 0 0, .bool false, .slice none 0 0] 46) none)))
    replace N18 := Lib.hid (N18.out.kp (Kp.of (grown_alloc w29 (.cells #[.bool false, .slice none 0 0, .bool false, .slice none 0 0] 46) none)))
    have sz30 : (w29.alloc (.cells #[.bool false, .slice none 0 0, .bool false, .slice none 0 0] 46)).heap.size = w29.heap.size + 1 := by simp
    generalize (w29.alloc (.cells #[.bool false, .slice none 0 0, .bool false, .slice none 0 0] 46)) = W30 at *
    go_at_call 19
    with_reducible refine (From_h N18.out (by omega)).mono ?_
    rintro e w32 ⟨p31, n31, c31, b31, rfl, h, g⟩
    replace N15 := Lib.hid (N15.out.kp (Kp.of g))
    replace N18 := Lib.hid (N18.out.kp (Kp.of g))
    have N31 := Lib.hid (h)
    replace S := S.step g
    have lg32 := g.size
    clear g h l0 l1 lS
    have l0 := S.ltc (g := w.heap.size) (o := 0) (x := .bool a0) (by simp)
    have l1 := S.ltc (g := w.heap.size + 1) (o := 0) (x := .bool a1) (by simp)
    have l2 := S.ltc (g := w29.heap.size) (o := 0) (x := .bool false) (by simp)
    have lS := S.size
    obtain ⟨e0, e1, e2, e3, e4, e5, e6, e7, h0, i0, h1, i1, h2, i2, h3, i3, h4, i4, h5, i5, h6, i6, h7, i7, G⟩ := id S
    go_wp2_with fail
    clear e0 e1 e2 e3 e4 e5 e6 e7 h0 i0 h1 i1 h2 i2 h3 i3 h4 i4 h5 i5 h6 i6 h7 i7 G
    replace S : St w [(w32.heap.size, 0, .slice p31 n31 c31), (w32.heap.size, 1, .bool b31), (w29.heap.size, 0, .bool false), (w29.heap.size, 1, .slice none 0 0), (w29.heap.size, 2, .bool false), (w29.heap.size, 3, .slice none 0 0), (w.heap.size + 1, 0, .bool a1), (w.heap.size + 1, 1, .slice p18 n18 c18), (w.heap.size, 0, .bool a0), (w.heap.size, 1, .slice p15 n15 c15)] [(w32.heap.size, 0), (w32.heap.size, 1), (w29.heap.size, 0), (w29.heap.size, 1), (w29.heap.size, 2), (w29.heap.size, 3), (w.heap.size + 1, 0), (w.heap.size + 1, 1), (w.heap.size, 0), (w.heap.size, 1)] (w32.alloc (.cells #[.slice p31 n31 c31, .bool b31] 31)) := S.made (w32.heap.size) [.slice p31 n31 c31, .bool b31] 31 (by simp)
    replace N15 := Lib.hid (N15.out.kp (Kp.of (grown_alloc w32 (.cells #[.slice p31 n31 c31, .bool b31] 31) none)))
    replace N18 := Lib.hid (N18.out.kp (Kp.of (grown_alloc w32 (.cells #[.slice p31 n31 c31, .bool b31] 31) none)))
    replace N31 := Lib.hid (N31.out.kp (Kp.of (grown_alloc w32 (.cells #[.slice p31 n31 c31, .bool b31] 31) none)))
    have sz33 : (w32.alloc (.cells #[.slice p31 n31 c31, .bool b31] 31)).heap.size = w32.heap.size + 1 := by simp
    generalize (w32.alloc (.cells #[.slice p31 n31 c31, .bool b31] 31)) = W33 at *
    go_at_call 33
    with_reducible refine (Zero_h N31.out (decide_eq_true B0.out)).mono ?_
    rintro e w34 ⟨rfl, g⟩
    replace N15 := Lib.hid (N15.out.kp (Kp.of g))
    replace N18 := Lib.hid (N18.out.kp (Kp.of g))
    replace N31 := Lib.hid (N31.out.kp (Kp.of g))
    replace S := S.step g
    have lg34 := g.size
    clear g l0 l1 l2 lS
    have l0 := S.ltc (g := w.heap.size) (o := 0) (x := .bool a0) (by simp)
    have l1 := S.ltc (g := w.heap.size + 1) (o := 0) (x := .bool a1) (by simp)
    have l2 := S.ltc (g := w29.heap.size) (o := 0) (x := .bool false) (by simp)
    have l3 := S.ltc (g := w32.heap.size) (o := 0) (x := .slice p31 n31 c31) (by simp)
    have lS := S.size
    obtain ⟨e0, e1, e2, e3, e4, e5, e6, e7, e8, e9, h0, i0, h1, i1, h2, i2, h3, i3, h4, i4, h5, i5, h6, i6, h7, i7, h8, i8, h9, i9, G⟩ := id S
    go_wp2_with fail
    clear e0 e1 e2 e3 e4 e5 e6 e7 e8 e9 h0 i0 h1 i1 h2 i2 h3 i3 h4 i4 h5 i5 h6 i6 h7 i7 h8 i8 h9 i9 G
    go_at_call 23
    with_reducible refine (IZero_0 _).mono ?_
    rintro e w35 ⟨rfl, g⟩
    replace N15 := Lib.hid (N15.out.kp (Kp.of g))
    replace N18 := Lib.hid (N18.out.kp (Kp.of g))
    replace N31 := Lib.hid (N31.out.kp (Kp.of g))
    replace S := S.step g
    have lg35 := g.size
    clear g l0 l1 l2 l3 lS
    have l0 := S.ltc (g := w.heap.size) (o := 0) (x := .bool a0) (by simp)
    have l1 := S.ltc (g := w.heap.size + 1) (o := 0) (x := .bool a1) (by simp)
    have l2 := S.ltc (g := w29.heap.size) (o := 0) (x := .bool false) (by simp)
    have l3 := S.ltc (g := w32.heap.size) (o := 0) (x := .slice p31 n31 c31) (by simp)
    have lS := S.size
    obtain ⟨e0, e1, e2, e3, e4, e5, e6, e7, e8, e9, h0, i0, h1, i1, h2, i2, h3, i3, h4, i4, h5, i5, h6, i6, h7, i7, h8, i8, h9, i9, G⟩ := id S
    go_wp2_with fail
    clear e0 e1 e2 e3 e4 e5 e6 e7 e8 e9 h0 i0 h1 i1 h2 i2 h3 i3 h4 i4 h5 i5 h6 i6 h7 i7 h8 i8 h9 i9 G
    go_at_call 23
    with_reducible refine (IZero_0 _).mono ?_
    rintro e w36 ⟨rfl, g⟩
    replace N15 := Lib.hid (N15.out.kp (Kp.of g))
    replace N18 := Lib.hid (N18.out.kp (Kp.of g))
    replace N31 := Lib.hid (N31.out.kp (Kp.of g))
    replace S := S.step g
    have lg36 := g.size
    clear g l0 l1 l2 l3 lS
    have l0 := S.ltc (g := w.heap.size) (o := 0) (x := .bool a0) (by simp)
    have l1 := S.ltc (g := w.heap.size + 1) (o := 0) (x := .bool a1) (by simp)
    have l2 := S.ltc (g := w29.heap.size) (o := 0) (x := .bool false) (by simp)
    have l3 := S.ltc (g := w32.heap.size) (o := 0) (x := .slice p31 n31 c31) (by simp)
    have lS := S.size
    obtain ⟨e0, e1, e2, e3, e4, e5, e6, e7, e8, e9, h0, i0, h1, i1, h2, i2, h3, i3, h4, i4, h5, i5, h6, i6, h7, i7, h8, i8, h9, i9, G⟩ := id S
    go_wp2_with fail
    clear e0 e1 e2 e3 e4 e5 e6 e7 e8 e9 h0 i0 h1 i1 h2 i2 h3 i3 h4 i4 h5 i5 h6 i6 h7 i7 h8 i8 h9 i9 G
    obtain ⟨z37, ez37⟩ : ∃ t : Rat, Rat.divInt i k = t := ⟨_, rfl⟩
    have E37 := Lib.hid ez37
    clear ez37
    go_at_call 36
    with_reducible refine (ROf_g i k i1 i2 k1 k2 K0.out E37.out).mono ?_
    rintro e w38 ⟨b37, p37, n37, c37, d37, q37, m37, f37, rfl, h, g⟩
    replace N15 := Lib.hid (N15.out.kp (Kp.of g))
    replace N18 := Lib.hid (N18.out.kp (Kp.of g))
    replace N31 := Lib.hid (N31.out.kp (Kp.of g))
    have N37 := Lib.hid (h)
    replace S := S.step g
    have lg38 := g.size
    clear g h l0 l1 l2 l3 lS
    have l0 := S.ltc (g := w.heap.size) (o := 0) (x := .bool a0) (by simp)
    have l1 := S.ltc (g := w.heap.size + 1) (o := 0) (x := .bool a1) (by simp)
    have l2 := S.ltc (g := w29.heap.size) (o := 0) (x := .bool false) (by simp)
    have l3 := S.ltc (g := w32.heap.size) (o := 0) (x := .slice p31 n31 c31) (by simp)
    have lS := S.size
    obtain ⟨e0, e1, e2, e3, e4, e5, e6, e7, e8, e9, h0, i0, h1, i1, h2, i2, h3, i3, h4, i4, h5, i5, h6, i6, h7, i7, h8, i8, h9, i9, G⟩ := id S
    go_wp2_with fail
    clear e0 e1 e2 e3 e4 e5 e6 e7 e8 e9 h0 i0 h1 i1 h2 i2 h3 i3 h4 i4 h5 i5 h6 i6 h7 i7 h8 i8 h9 i9 G
    replace S : St w [(w38.heap.size, 0, .bool b37), (w38.heap.size, 1, .slice p37 n37 c37), (w38.heap.size, 2, .bool d37), (w38.heap.size, 3, .slice q37 m37 f37), (w32.heap.size, 0, .slice p31 n31 c31), (w32.heap.size, 1, .bool b31), (w29.heap.size, 0, .bool false), (w29.heap.size, 1, .slice none 0 0), (w29.heap.size, 2, .bool false), (w29.heap.size, 3, .slice none 0 0), (w.heap.size + 1, 0, .bool a1), (w.heap.size + 1, 1, .slice p18 n18 c18), (w.heap.size, 0, .bool a0), (w.heap.size, 1, .slice p15 n15 c15)] [(w38.heap.size, 0), (w38.heap.size, 1), (w38.heap.size, 2), (w38.heap.size, 3), (w32.heap.size, 0), (w32.heap.size, 1), (w29.heap.size, 0), (w29.heap.size, 1), (w29.heap.size, 2), (w29.heap.size, 3), (w.heap.size + 1, 0), (w.heap.size + 1, 1), (w.heap.size, 0), (w.heap.size, 1)] (w38.alloc (.cells #[.bool b37, .slice p37 n37 c37, .bool d37, .slice q37 m37 f37] 46)) := S.made (w38.heap.size) [.bool b37, .slice p37 n37 c37, .bool d37, .slice q37 m37 f37] 46 (by simp)
    replace N15 := Lib.hid (N15.out.kp (Kp.of (grown_alloc w38 (.cells #[.bool b37, .slice p37 n37 c37, .bool d37, .slice q37 m37 f37] 46) none)))
    replace N18 := Lib.hid (N18.out.kp (Kp.of (grown_alloc w38 (.cells #[.bool b37, .slice p37 n37 c37, .bool d37, .slice q37 m37 f37] 46) none)))
    replace N31 := Lib.hid (N31.out.kp (Kp.of (grown_alloc w38 (.cells #[.bool b37, .slice p37 n37 c37, .bool d37, .slice q37 m37 f37] 46) none)))
    replace N37 := Lib.hid (N37.out.kp (Kp.of (grown_alloc w38 (.cells #[.bool b37, .slice p37 n37 c37, .bool d37, .slice q37 m37 f37] 46) none)))
    have sz39 : (w38.alloc (.cells #[.bool b37, .slice p37 n37 c37, .bool d37, .slice q37 m37 f37] 46)).heap.size = w38.heap.size + 1 := by simp
    generalize (w38.alloc (.cells #[.bool b37, .slice p37 n37 c37, .bool d37, .slice q37 m37 f37] 46)) = W39 at *
    have T0 : Cl [(w38.heap.size, 0, .bool b37), (w38.heap.size, 1, .slice p37 n37 c37), (w38.heap.size, 2, .bool d37), (w38.heap.size, 3, .slice q37 m37 f37), (w.heap.size, 0, .bool a0), (w.heap.size, 1, .slice p15 n15 c15)] W39 := S.cl (by simp)
    refine wp_region_noPanic ?_
    refine wp_region_held_drew (S := fun w' => w'.cell? ⟨w38.heap.size, 0, none⟩ = some (.bool b37) ∧ w'.cell? ⟨w38.heap.size, 1, none⟩ = some (.slice p37 n37 c37) ∧ w'.cell? ⟨w38.heap.size, 2, none⟩ = some (.bool d37) ∧ w'.cell? ⟨w38.heap.size, 3, none⟩ = some (.slice q37 m37 f37) ∧ w'.cell? ⟨w.heap.size, 0, none⟩ = some (.bool a0) ∧ w'.cell? ⟨w.heap.size, 1, none⟩ = some (.slice p15 n15 c15) ∧ True) (by kernel_rfl) (by exact Cl.step (cs := [(w38.heap.size, 0, .bool b37), (w38.heap.size, 1, .slice p37 n37 c37), (w38.heap.size, 2, .bool d37), (w38.heap.size, 3, .slice q37 m37 f37), (w.heap.size, 0, .bool a0), (w.heap.size, 1, .slice p15 n15 c15)]) (grown_drew _ _) T0) (fun hHeld => ?_)
    change wpAnyH _ _ _ _ _ 24 #[false, false, false, false, false, false, false, false, false, false, false, false, false, false, false, false, false, false, false, false, false, false, false, false] _ _
    replace S := S.step (grown_drew W39 none)
    replace N15 := Lib.hid (N15.out.kp (Kp.of (grown_drew W39 none)))
    replace N18 := Lib.hid (N18.out.kp (Kp.of (grown_drew W39 none)))
    replace N31 := Lib.hid (N31.out.kp (Kp.of (grown_drew W39 none)))
    replace N37 := Lib.hid (N37.out.kp (Kp.of (grown_drew W39 none)))
    have lg40 := (grown_drew W39 none).size
    clear T0
    generalize W39.drew = wr40 at *
    clear l0 l1 l2 l3 lS
    have l0 := S.ltc (g := w.heap.size) (o := 0) (x := .bool a0) (by simp)
    have l1 := S.ltc (g := w.heap.size + 1) (o := 0) (x := .bool a1) (by simp)
    have l2 := S.ltc (g := w29.heap.size) (o := 0) (x := .bool false) (by simp)
    have l3 := S.ltc (g := w32.heap.size) (o := 0) (x := .slice p31 n31 c31) (by simp)
    have l4 := S.ltc (g := w38.heap.size) (o := 0) (x := .bool b37) (by simp)
    have lS := S.size
    refine wpAnyH_take (i := 0) (oi := _) (v := ?vq41) rfl (by kernel_rfl) (by kernel_rfl) (by kernel_rfl) (fun _ _ _ h => h) (Or.inl ⟨by rfl, ?hyq41⟩) (by assumption) ?restq41
    case hyq41 => (intro w hSw; (try dsimp only at hSw); go_simp; try with_reducible rfl)
    try simp only [Act.put, List.getElem_toArray, List.getElem_cons_zero, List.setIfInBounds_toArray, List.set_cons_zero, List.set_cons_succ]
    refine wpAnyH_take (i := 1) (oi := _) (v := .bool true) rfl (by kernel_rfl) (by kernel_rfl) (by kernel_rfl) (fun _ _ _ h => h) (Or.inl ⟨by rfl, ?hyq42⟩) (by assumption) ?restq42
    case hyq42 => (intro w hSw; (try dsimp only at hSw); go_simp; try simp only [decide_true, decide_false])
    try simp only [Act.put, List.getElem_toArray, List.getElem_cons_zero, List.getElem_cons_succ, List.setIfInBounds_toArray, List.set_cons_zero, List.set_cons_succ]
    refine wpAnyH_take (i := 2) (oi := _) (v := .bool true) rfl (by kernel_rfl) (by kernel_rfl) (by kernel_rfl) (fun _ _ _ h => h) (Or.inl ⟨by rfl, ?hyq43⟩) (by assumption) ?restq43
    case hyq43 => (intro w hSw; (try dsimp only at hSw); go_simp; try simp only [decide_true, decide_false])
    try simp only [Act.put, List.getElem_toArray, List.getElem_cons_zero, List.getElem_cons_succ, List.setIfInBounds_toArray, List.set_cons_zero, List.set_cons_succ]
    refine wpAnyH_take (i := 3) (oi := _) (v := ?vq44) rfl (by kernel_rfl) (by kernel_rfl) (by kernel_rfl) (fun _ _ _ h => h) (Or.inl ⟨by rfl, ?hyq44⟩) (by assumption) ?restq44
    case hyq44 => (intro w hSw; (try dsimp only at hSw); go_simp; try with_reducible rfl)
    try simp only [Act.put, List.getElem_toArray, List.getElem_cons_zero, List.getElem_cons_succ, List.setIfInBounds_toArray, List.set_cons_zero, List.set_cons_succ]
    refine wpAnyH_take (i := 5) (oi := _) (v := ?vq45) rfl (by kernel_rfl) (by kernel_rfl) (by kernel_rfl) (fun _ _ _ h => h) (Or.inl ⟨by rfl, ?hyq45⟩) (by assumption) ?restq45
    case hyq45 => (intro w hSw; (try dsimp only at hSw); go_simp; try with_reducible rfl)
    try simp only [Act.put, List.getElem_toArray, List.getElem_cons_zero, List.getElem_cons_succ, List.setIfInBounds_toArray, List.set_cons_zero, List.set_cons_succ]
    refine wpAnyH_take (i := 8) (oi := _) (v := ?vq46) rfl (by kernel_rfl) (by kernel_rfl) (by kernel_rfl) (fun _ _ _ h => h) (Or.inl ⟨by rfl, ?hyq46⟩) (by assumption) ?restq46
    case hyq46 => (intro w hSw; (try dsimp only at hSw); go_simp; try with_reducible rfl)
    try simp only [Act.put, List.getElem_toArray, List.getElem_cons_zero, List.getElem_cons_succ, List.setIfInBounds_toArray, List.set_cons_zero, List.set_cons_succ]
    obtain ⟨z48, ez48⟩ : ∃ t : Int, (i : Int) = t := ⟨_, rfl⟩
    have E48 := Lib.hid ez48
    clear ez48
    refine wpAnyH_ready (rs := [4]) (by kernel_rfl) (by simp) ?_
    refine AllReadyH.cons (o := _) rfl (fun K hK => ?_) AllReadyH.nil
    go_simp
    go_at_call 38
    with_reducible refine (Of_h i i1 i2 E48.out).mono ?_
    rintro e w49 ⟨p48, n48, c48, b48, rfl, h, g⟩
    replace N15 := Lib.hid (N15.out.kp (Kp.of g))
    replace N18 := Lib.hid (N18.out.kp (Kp.of g))
    replace N31 := Lib.hid (N31.out.kp (Kp.of g))
    replace N37 := Lib.hid (N37.out.kp (Kp.of g))
    have N48 := Lib.hid (h)
    replace S := S.step g
    have lg49 := g.size
    clear l0 l1 l2 l3 l4 lS
    have l0 := S.ltc (g := w.heap.size) (o := 0) (x := .bool a0) (by simp)
    have l1 := S.ltc (g := w.heap.size + 1) (o := 0) (x := .bool a1) (by simp)
    have l2 := S.ltc (g := w29.heap.size) (o := 0) (x := .bool false) (by simp)
    have l3 := S.ltc (g := w32.heap.size) (o := 0) (x := .slice p31 n31 c31) (by simp)
    have l4 := S.ltc (g := w38.heap.size) (o := 0) (x := .bool b37) (by simp)
    have lS := S.size
    go_wp2_with fail
    refine hK.out _ _ ?hSq47 (fun hHeld => ?_)
    case hSq47 => exact Cl.step (cs := [(w38.heap.size, 0, .bool b37), (w38.heap.size, 1, .slice p37 n37 c37), (w38.heap.size, 2, .bool d37), (w38.heap.size, 3, .slice q37 m37 f37), (w.heap.size, 0, .bool a0), (w.heap.size, 1, .slice p15 n15 c15)]) g (by assumption)
    clear hK K g h
    try simp only [List.setIfInBounds_toArray, List.set_cons_zero, List.set_cons_succ]
    obtain ⟨z51, ez51⟩ : ∃ t : Int, (k : Int) = t := ⟨_, rfl⟩
    have E51 := Lib.hid ez51
    clear ez51
    refine wpAnyH_ready (rs := [6]) (by kernel_rfl) (by simp) ?_
    refine AllReadyH.cons (o := _) rfl (fun K hK => ?_) AllReadyH.nil
    go_simp
    go_at_call 38
    with_reducible refine (Of_h k k1 k2 E51.out).mono ?_
    rintro e w52 ⟨p51, n51, c51, b51, rfl, h, g⟩
    replace N15 := Lib.hid (N15.out.kp (Kp.of g))
    replace N18 := Lib.hid (N18.out.kp (Kp.of g))
    replace N31 := Lib.hid (N31.out.kp (Kp.of g))
    replace N37 := Lib.hid (N37.out.kp (Kp.of g))
    replace N48 := Lib.hid (N48.out.kp (Kp.of g))
    have N51 := Lib.hid (h)
    replace S := S.step g
    have lg52 := g.size
    clear l0 l1 l2 l3 l4 lS
    have l0 := S.ltc (g := w.heap.size) (o := 0) (x := .bool a0) (by simp)
    have l1 := S.ltc (g := w.heap.size + 1) (o := 0) (x := .bool a1) (by simp)
    have l2 := S.ltc (g := w29.heap.size) (o := 0) (x := .bool false) (by simp)
    have l3 := S.ltc (g := w32.heap.size) (o := 0) (x := .slice p31 n31 c31) (by simp)
    have l4 := S.ltc (g := w38.heap.size) (o := 0) (x := .bool b37) (by simp)
    have lS := S.size
    go_wp2_with fail
    refine hK.out _ _ ?hSq50 (fun hHeld => ?_)
    case hSq50 => exact Cl.step (cs := [(w38.heap.size, 0, .bool b37), (w38.heap.size, 1, .slice p37 n37 c37), (w38.heap.size, 2, .bool d37), (w38.heap.size, 3, .slice q37 m37 f37), (w.heap.size, 0, .bool a0), (w.heap.size, 1, .slice p15 n15 c15)]) g (by assumption)
    clear hK K g h
    try simp only [List.setIfInBounds_toArray, List.set_cons_zero, List.set_cons_succ]
    obtain ⟨z54, ez54⟩ : ∃ t : Rat, qOf z48 z51 = t := ⟨_, rfl⟩
    have E54 := Lib.hid ez54
    clear ez54
    refine wpAnyH_ready (rs := [7]) (by kernel_rfl) (by simp) ?_
    refine AllReadyH.cons (o := _) rfl (fun K hK => ?_) AllReadyH.nil
    go_simp
    go_at_call 35
    with_reducible refine (Make_h N48.out N51.out (by omega) E54.out).mono ?_
    rintro e w55 ⟨p54, n54, c54, b54, q54, m54, f54, d54, rfl, h, g⟩
    replace N15 := Lib.hid (N15.out.kp (Kp.of g))
    replace N18 := Lib.hid (N18.out.kp (Kp.of g))
    replace N31 := Lib.hid (N31.out.kp (Kp.of g))
    replace N37 := Lib.hid (N37.out.kp (Kp.of g))
    clear N48 N51
    have N54 := Lib.hid (h)
    replace S := S.step g
    have lg55 := g.size
    clear l0 l1 l2 l3 l4 lS
    have l0 := S.ltc (g := w.heap.size) (o := 0) (x := .bool a0) (by simp)
    have l1 := S.ltc (g := w.heap.size + 1) (o := 0) (x := .bool a1) (by simp)
    have l2 := S.ltc (g := w29.heap.size) (o := 0) (x := .bool false) (by simp)
    have l3 := S.ltc (g := w32.heap.size) (o := 0) (x := .slice p31 n31 c31) (by simp)
    have l4 := S.ltc (g := w38.heap.size) (o := 0) (x := .bool b37) (by simp)
    have lS := S.size
    go_wp2_with fail
    refine hK.out _ _ ?hSq53 (fun hHeld => ?_)
    case hSq53 => exact Cl.step (cs := [(w38.heap.size, 0, .bool b37), (w38.heap.size, 1, .slice p37 n37 c37), (w38.heap.size, 2, .bool d37), (w38.heap.size, 3, .slice q37 m37 f37), (w.heap.size, 0, .bool a0), (w.heap.size, 1, .slice p15 n15 c15)]) g (by assumption)
    clear hK K g h
    try simp only [List.setIfInBounds_toArray, List.set_cons_zero, List.set_cons_succ]
    refine wpAnyH_ready (rs := [9]) (by kernel_rfl) (by simp) ?_
    refine AllReadyH.cons (o := _) rfl (fun K hK => ?_) AllReadyH.nil
    go_simp
    go_at_call 34
    with_reducible refine (Is_q N54.out N37.out (by omega) (by rw [← E54.out, ← E51.out, ← E48.out, ← E37.out]; exact qOf_ne K0.out)).mono ?_
    rintro e w57 ⟨rfl, g⟩
    replace N15 := Lib.hid (N15.out.kp (Kp.of g))
    replace N18 := Lib.hid (N18.out.kp (Kp.of g))
    replace N31 := Lib.hid (N31.out.kp (Kp.of g))
    clear N37 N54
    replace S := S.step g
    have lg57 := g.size
    clear l0 l1 l2 l3 l4 lS
    have l0 := S.ltc (g := w.heap.size) (o := 0) (x := .bool a0) (by simp)
    have l1 := S.ltc (g := w.heap.size + 1) (o := 0) (x := .bool a1) (by simp)
    have l2 := S.ltc (g := w29.heap.size) (o := 0) (x := .bool false) (by simp)
    have l3 := S.ltc (g := w32.heap.size) (o := 0) (x := .slice p31 n31 c31) (by simp)
    have l4 := S.ltc (g := w38.heap.size) (o := 0) (x := .bool b37) (by simp)
    have lS := S.size
    go_wp2_with fail
    refine hK.out _ _ ?hSq56 (fun hHeld => ?_)
    case hSq56 => exact Cl.step (cs := [(w38.heap.size, 0, .bool b37), (w38.heap.size, 1, .slice p37 n37 c37), (w38.heap.size, 2, .bool d37), (w38.heap.size, 3, .slice q37 m37 f37), (w.heap.size, 0, .bool a0), (w.heap.size, 1, .slice p15 n15 c15)]) g (by assumption)
    clear hK K g
    try simp only [List.setIfInBounds_toArray, List.set_cons_zero, List.set_cons_succ]
    refine wpAnyH_take (i := 10) (oi := _) (v := ?vq58) rfl (by kernel_rfl) (by kernel_rfl) (by kernel_rfl) (fun _ _ _ h => h) (Or.inl ⟨by rfl, ?hyq58⟩) (by assumption) ?restq58
    case hyq58 => (intro w hSw; (try dsimp only at hSw); go_simp; try with_reducible rfl)
    try simp only [Act.put, List.getElem_toArray, List.getElem_cons_zero, List.getElem_cons_succ, List.setIfInBounds_toArray, List.set_cons_zero, List.set_cons_succ]
    refine wpAnyH_take (i := 11) (oi := _) (v := ?vq59) rfl (by kernel_rfl) (by kernel_rfl) (by kernel_rfl) (fun _ _ _ h => h) (Or.inl ⟨by rfl, ?hyq59⟩) (by assumption) ?restq59
    case hyq59 => (intro w hSw; (try dsimp only at hSw); go_simp; try with_reducible rfl)
    try simp only [Act.put, List.getElem_toArray, List.getElem_cons_zero, List.getElem_cons_succ, List.setIfInBounds_toArray, List.set_cons_zero, List.set_cons_succ]
    refine wpAnyH_take (i := 12) (oi := _) (v := ?vq60) rfl (by kernel_rfl) (by kernel_rfl) (by kernel_rfl) (fun _ _ _ h => h) (Or.inl ⟨by rfl, ?hyq60⟩) (by assumption) ?restq60
    case hyq60 => (intro w hSw; (try dsimp only at hSw); go_simp; try with_reducible rfl)
    try simp only [Act.put, List.getElem_toArray, List.getElem_cons_zero, List.getElem_cons_succ, List.setIfInBounds_toArray, List.set_cons_zero, List.set_cons_succ]
    refine wpAnyH_take (i := 16) (oi := _) (v := ?vq61) rfl (by kernel_rfl) (by kernel_rfl) (by kernel_rfl) (fun _ _ _ h => h) (Or.inl ⟨by rfl, ?hyq61⟩) (by assumption) ?restq61
    case hyq61 => (intro w hSw; (try dsimp only at hSw); go_simp; try with_reducible rfl)
    try simp only [Act.put, List.getElem_toArray, List.getElem_cons_zero, List.getElem_cons_succ, List.setIfInBounds_toArray, List.set_cons_zero, List.set_cons_succ]
    refine wpAnyH_ready (rs := [13]) (by kernel_rfl) (by simp) ?_
    refine AllReadyH.cons (o := _) rfl (fun K hK => ?_) AllReadyH.nil
    go_simp
    go_at_call 19
    with_reducible refine (From_h N15.out (by omega)).mono ?_
    rintro e w64 ⟨p63, n63, c63, b63, rfl, h, g⟩
    replace N15 := Lib.hid (N15.out.kp (Kp.of g))
    replace N18 := Lib.hid (N18.out.kp (Kp.of g))
    replace N31 := Lib.hid (N31.out.kp (Kp.of g))
    have N63 := Lib.hid (h)
    replace S := S.step g
    have lg64 := g.size
    clear l0 l1 l2 l3 l4 lS
    have l0 := S.ltc (g := w.heap.size) (o := 0) (x := .bool a0) (by simp)
    have l1 := S.ltc (g := w.heap.size + 1) (o := 0) (x := .bool a1) (by simp)
    have l2 := S.ltc (g := w29.heap.size) (o := 0) (x := .bool false) (by simp)
    have l3 := S.ltc (g := w32.heap.size) (o := 0) (x := .slice p31 n31 c31) (by simp)
    have l4 := S.ltc (g := w38.heap.size) (o := 0) (x := .bool b37) (by simp)
    have lS := S.size
    go_wp2_with fail
    refine hK.out _ _ ?hSq62 (fun hHeld => ?_)
    case hSq62 => exact Cl.step (cs := [(w38.heap.size, 0, .bool b37), (w38.heap.size, 1, .slice p37 n37 c37), (w38.heap.size, 2, .bool d37), (w38.heap.size, 3, .slice q37 m37 f37), (w.heap.size, 0, .bool a0), (w.heap.size, 1, .slice p15 n15 c15)]) g (by assumption)
    clear hK K g h
    try simp only [List.setIfInBounds_toArray, List.set_cons_zero, List.set_cons_succ]
    obtain ⟨z66, ez66⟩ : ∃ t : Int, (1 : Int) = t := ⟨_, rfl⟩
    have E66 := Lib.hid ez66
    clear ez66
    refine wpAnyH_ready (rs := [14]) (by kernel_rfl) (by simp) ?_
    refine AllReadyH.cons (o := _) rfl (fun K hK => ?_) AllReadyH.nil
    go_simp
    go_at_call 38
    with_reducible refine (Of_h 1 (by decide) (by decide) E66.out).mono ?_
    rintro e w67 ⟨p66, n66, c66, b66, rfl, h, g⟩
    replace N15 := Lib.hid (N15.out.kp (Kp.of g))
    replace N18 := Lib.hid (N18.out.kp (Kp.of g))
    replace N31 := Lib.hid (N31.out.kp (Kp.of g))
    replace N63 := Lib.hid (N63.out.kp (Kp.of g))
    have N66 := Lib.hid (h)
    replace S := S.step g
    have lg67 := g.size
    clear l0 l1 l2 l3 l4 lS
    have l0 := S.ltc (g := w.heap.size) (o := 0) (x := .bool a0) (by simp)
    have l1 := S.ltc (g := w.heap.size + 1) (o := 0) (x := .bool a1) (by simp)
    have l2 := S.ltc (g := w29.heap.size) (o := 0) (x := .bool false) (by simp)
    have l3 := S.ltc (g := w32.heap.size) (o := 0) (x := .slice p31 n31 c31) (by simp)
    have l4 := S.ltc (g := w38.heap.size) (o := 0) (x := .bool b37) (by simp)
    have lS := S.size
    go_wp2_with fail
    refine hK.out _ _ ?hSq65 (fun hHeld => ?_)
    case hSq65 => exact Cl.step (cs := [(w38.heap.size, 0, .bool b37), (w38.heap.size, 1, .slice p37 n37 c37), (w38.heap.size, 2, .bool d37), (w38.heap.size, 3, .slice q37 m37 f37), (w.heap.size, 0, .bool a0), (w.heap.size, 1, .slice p15 n15 c15)]) g (by assumption)
    clear hK K g h
    try simp only [List.setIfInBounds_toArray, List.set_cons_zero, List.set_cons_succ]
    obtain ⟨z69, ez69⟩ : ∃ t : Rat, qOf z0 z66 = t := ⟨_, rfl⟩
    have E69 := Lib.hid ez69
    clear ez69
    refine wpAnyH_ready (rs := [15]) (by kernel_rfl) (by simp) ?_
    refine AllReadyH.cons (o := _) rfl (fun K hK => ?_) AllReadyH.nil
    go_simp
    go_at_call 35
    with_reducible refine (Make_h N63.out N66.out (by omega) E69.out).mono ?_
    rintro e w70 ⟨p69, n69, c69, b69, q69, m69, f69, d69, rfl, h, g⟩
    replace N15 := Lib.hid (N15.out.kp (Kp.of g))
    replace N18 := Lib.hid (N18.out.kp (Kp.of g))
    replace N31 := Lib.hid (N31.out.kp (Kp.of g))
    replace N63 := Lib.hid (N63.out.kp (Kp.of g))
    replace N66 := Lib.hid (N66.out.kp (Kp.of g))
    have N69 := Lib.hid (h)
    replace S := S.step g
    have lg70 := g.size
    clear l0 l1 l2 l3 l4 lS
    have l0 := S.ltc (g := w.heap.size) (o := 0) (x := .bool a0) (by simp)
    have l1 := S.ltc (g := w.heap.size + 1) (o := 0) (x := .bool a1) (by simp)
    have l2 := S.ltc (g := w29.heap.size) (o := 0) (x := .bool false) (by simp)
    have l3 := S.ltc (g := w32.heap.size) (o := 0) (x := .slice p31 n31 c31) (by simp)
    have l4 := S.ltc (g := w38.heap.size) (o := 0) (x := .bool b37) (by simp)
    have lS := S.size
    go_wp2_with fail
    refine hK.out _ _ ?hSq68 (fun hHeld => ?_)
    case hSq68 => exact Cl.step (cs := [(w38.heap.size, 0, .bool b37), (w38.heap.size, 1, .slice p37 n37 c37), (w38.heap.size, 2, .bool d37), (w38.heap.size, 3, .slice q37 m37 f37), (w.heap.size, 0, .bool a0), (w.heap.size, 1, .slice p15 n15 c15)]) g (by assumption)
    clear hK K g h
    try simp only [List.setIfInBounds_toArray, List.set_cons_zero, List.set_cons_succ]
    obtain ⟨z72, ez72⟩ : ∃ t : Rat, ((z0 : Int) : Rat) = t := ⟨_, rfl⟩
    have E72 := Lib.hid ez72
    clear ez72
    refine wpAnyH_ready (rs := [17]) (by kernel_rfl) (by simp) ?_
    refine AllReadyH.cons (o := _) rfl (fun K hK => ?_) AllReadyH.nil
    go_simp
    go_at_call 39
    with_reducible refine (RInt_z N15.out (by omega) E72.out).mono ?_
    rintro e w73 ⟨b72, p72, n72, c72, d72, q72, m72, f72, rfl, h, g⟩
    replace N15 := Lib.hid (N15.out.kp (Kp.of g))
    replace N18 := Lib.hid (N18.out.kp (Kp.of g))
    replace N31 := Lib.hid (N31.out.kp (Kp.of g))
    replace N63 := Lib.hid (N63.out.kp (Kp.of g))
    replace N66 := Lib.hid (N66.out.kp (Kp.of g))
    replace N69 := Lib.hid (N69.out.kp (Kp.of g))
    have N72 := Lib.hid (h)
    replace S := S.step g
    have lg73 := g.size
    clear l0 l1 l2 l3 l4 lS
    have l0 := S.ltc (g := w.heap.size) (o := 0) (x := .bool a0) (by simp)
    have l1 := S.ltc (g := w.heap.size + 1) (o := 0) (x := .bool a1) (by simp)
    have l2 := S.ltc (g := w29.heap.size) (o := 0) (x := .bool false) (by simp)
    have l3 := S.ltc (g := w32.heap.size) (o := 0) (x := .slice p31 n31 c31) (by simp)
    have l4 := S.ltc (g := w38.heap.size) (o := 0) (x := .bool b37) (by simp)
    have lS := S.size
    go_wp2_with fail
    refine hK.out _ _ ?hSq71 (fun hHeld => ?_)
    case hSq71 => exact Cl.step (cs := [(w38.heap.size, 0, .bool b37), (w38.heap.size, 1, .slice p37 n37 c37), (w38.heap.size, 2, .bool d37), (w38.heap.size, 3, .slice q37 m37 f37), (w.heap.size, 0, .bool a0), (w.heap.size, 1, .slice p15 n15 c15)]) g (by assumption)
    clear hK K g h
    try simp only [List.setIfInBounds_toArray, List.set_cons_zero, List.set_cons_succ]
    refine wpAnyH_ready (rs := [18]) (by kernel_rfl) (by simp) ?_
    refine AllReadyH.cons (o := _) rfl (fun K hK => ?_) AllReadyH.nil
    go_simp
    go_at_call 34
    with_reducible refine (Is_q N69.out N72.out (by omega) (by rw [← E72.out, ← E69.out, ← E66.out]; exact qOf_int z0)).mono ?_
    rintro e w75 ⟨rfl, g⟩
    replace N15 := Lib.hid (N15.out.kp (Kp.of g))
    replace N18 := Lib.hid (N18.out.kp (Kp.of g))
    replace N31 := Lib.hid (N31.out.kp (Kp.of g))
    replace N63 := Lib.hid (N63.out.kp (Kp.of g))
    replace N66 := Lib.hid (N66.out.kp (Kp.of g))
    replace N69 := Lib.hid (N69.out.kp (Kp.of g))
    clear N72
    replace S := S.step g
    have lg75 := g.size
    clear l0 l1 l2 l3 l4 lS
    have l0 := S.ltc (g := w.heap.size) (o := 0) (x := .bool a0) (by simp)
    have l1 := S.ltc (g := w.heap.size + 1) (o := 0) (x := .bool a1) (by simp)
    have l2 := S.ltc (g := w29.heap.size) (o := 0) (x := .bool false) (by simp)
    have l3 := S.ltc (g := w32.heap.size) (o := 0) (x := .slice p31 n31 c31) (by simp)
    have l4 := S.ltc (g := w38.heap.size) (o := 0) (x := .bool b37) (by simp)
    have lS := S.size
    go_wp2_with fail
    refine hK.out _ _ ?hSq74 (fun hHeld => ?_)
    case hSq74 => exact Cl.step (cs := [(w38.heap.size, 0, .bool b37), (w38.heap.size, 1, .slice p37 n37 c37), (w38.heap.size, 2, .bool d37), (w38.heap.size, 3, .slice q37 m37 f37), (w.heap.size, 0, .bool a0), (w.heap.size, 1, .slice p15 n15 c15)]) g (by assumption)
    clear hK K g
    try simp only [List.setIfInBounds_toArray, List.set_cons_zero, List.set_cons_succ]
    refine wpAnyH_take (i := 19) (oi := _) (v := ?vq76) rfl (by kernel_rfl) (by kernel_rfl) (by kernel_rfl) (fun _ _ _ h => h) (Or.inl ⟨by rfl, ?hyq76⟩) (by assumption) ?restq76
    case hyq76 => (intro w hSw; (try dsimp only at hSw); go_simp; try with_reducible rfl)
    try simp only [Act.put, List.getElem_toArray, List.getElem_cons_zero, List.getElem_cons_succ, List.setIfInBounds_toArray, List.set_cons_zero, List.set_cons_succ]
    refine wpAnyH_take (i := 20) (oi := _) (v := ?vq77) rfl (by kernel_rfl) (by kernel_rfl) (by kernel_rfl) (fun _ _ _ h => h) (Or.inl ⟨by rfl, ?hyq77⟩) (by assumption) ?restq77
    case hyq77 => (intro w hSw; (try dsimp only at hSw); go_simp; try with_reducible rfl)
    try simp only [Act.put, List.getElem_toArray, List.getElem_cons_zero, List.getElem_cons_succ, List.setIfInBounds_toArray, List.set_cons_zero, List.set_cons_succ]
    refine wpAnyH_ready (rs := [21]) (by kernel_rfl) (by simp) ?_
    refine AllReadyH.cons (o := _) rfl (fun K hK => ?_) AllReadyH.nil
    go_simp
    go_at_call 37
    with_reducible refine (wakes4 _).mono ?_
    rintro e w79 ⟨rfl, g⟩
    replace N15 := Lib.hid (N15.out.kp (Kp.of g))
    replace N18 := Lib.hid (N18.out.kp (Kp.of g))
    replace N31 := Lib.hid (N31.out.kp (Kp.of g))
    replace N63 := Lib.hid (N63.out.kp (Kp.of g))
    replace N66 := Lib.hid (N66.out.kp (Kp.of g))
    replace N69 := Lib.hid (N69.out.kp (Kp.of g))
    replace S := S.step g
    have lg79 := g.size
    clear l0 l1 l2 l3 l4 lS
    have l0 := S.ltc (g := w.heap.size) (o := 0) (x := .bool a0) (by simp)
    have l1 := S.ltc (g := w.heap.size + 1) (o := 0) (x := .bool a1) (by simp)
    have l2 := S.ltc (g := w29.heap.size) (o := 0) (x := .bool false) (by simp)
    have l3 := S.ltc (g := w32.heap.size) (o := 0) (x := .slice p31 n31 c31) (by simp)
    have l4 := S.ltc (g := w38.heap.size) (o := 0) (x := .bool b37) (by simp)
    have lS := S.size
    go_wp2_with fail
    refine hK.out _ _ ?hSq78 (fun hHeld => ?_)
    case hSq78 => exact Cl.step (cs := [(w38.heap.size, 0, .bool b37), (w38.heap.size, 1, .slice p37 n37 c37), (w38.heap.size, 2, .bool d37), (w38.heap.size, 3, .slice q37 m37 f37), (w.heap.size, 0, .bool a0), (w.heap.size, 1, .slice p15 n15 c15)]) g (by assumption)
    clear hK K g
    try simp only [List.setIfInBounds_toArray, List.set_cons_zero, List.set_cons_succ]
    refine wpAnyH_take (i := 22) (oi := _) (v := ?vq80) rfl (by kernel_rfl) (by kernel_rfl) (by kernel_rfl) (fun _ _ _ h => h) (Or.inl ⟨by rfl, ?hyq80⟩) (by assumption) ?restq80
    case hyq80 => (intro w hSw; (try dsimp only at hSw); go_simp; try with_reducible rfl)
    try simp only [Act.put, List.getElem_toArray, List.getElem_cons_zero, List.getElem_cons_succ, List.setIfInBounds_toArray, List.set_cons_zero, List.set_cons_succ]
    refine wpAnyH_take (i := 23) (oi := _) (v := ?vq81) rfl (by kernel_rfl) (by kernel_rfl) (by kernel_rfl) (fun _ _ _ h => h) (Or.inl ⟨by rfl, ?hyq81⟩) (by assumption) ?restq81
    case hyq81 => (intro w hSw; (try dsimp only at hSw); go_simp; try with_reducible rfl)
    try simp only [Act.put, List.getElem_toArray, List.getElem_cons_zero, List.getElem_cons_succ, List.setIfInBounds_toArray, List.set_cons_zero, List.set_cons_succ]
    refine wpAnyH_done (by kernel_rfl) ?_ _
    refine NoPanic.normal ?_
    obtain ⟨e0, e1, e2, e3, e4, e5, e6, e7, e8, e9, e10, e11, e12, e13, h0, i0, h1, i1, h2, i2, h3, i3, h4, i4, h5, i5, h6, i6, h7, i7, h8, i8, h9, i9, h10, i10, h11, i11, h12, i12, h13, i13, G⟩ := id S
    go_wp2_with fail
    clear e0 e1 e2 e3 e4 e5 e6 e7 e8 e9 e10 e11 e12 e13 h0 i0 h1 i1 h2 i2 h3 i3 h4 i4 h5 i5 h6 i6 h7 i7 h8 i8 h9 i9 h10 i10 h11 i11 h12 i12 h13 i13 G
    go_ret
    exact ⟨rfl, S.all⟩
  · have B0 := Lib.hid hb
    clear hb
    obtain ⟨z28, ez28⟩ : ∃ t : Rat, Rat.divInt z0 z1 = t := ⟨_, rfl⟩
    have E28 := Lib.hid ez28
    clear ez28
    go_at_call 32
    with_reducible refine (RMake_g N15.out N18.out (by omega) B0.out E28.out).mono ?_
    rintro e w29 ⟨b28, p28, n28, c28, d28, q28, m28, f28, rfl, h, g⟩
    replace N15 := Lib.hid (N15.out.kp (Kp.of g))
    replace N18 := Lib.hid (N18.out.kp (Kp.of g))
    have N28 := Lib.hid (h)
    replace S := S.step g
    have lg29 := g.size
    clear g h l0 l1 lS
    have l0 := S.ltc (g := w.heap.size) (o := 0) (x := .bool a0) (by simp)
    have l1 := S.ltc (g := w.heap.size + 1) (o := 0) (x := .bool a1) (by simp)
    have lS := S.size
    obtain ⟨e0, e1, e2, e3, h0, i0, h1, i1, h2, i2, h3, i3, G⟩ := id S
    go_wp2_with fail
    clear e0 e1 e2 e3 h0 i0 h1 i1 h2 i2 h3 i3 G
    replace S : St w [(w29.heap.size, 0, .bool b28), (w29.heap.size, 1, .slice p28 n28 c28), (w29.heap.size, 2, .bool d28), (w29.heap.size, 3, .slice q28 m28 f28), (w.heap.size + 1, 0, .bool a1), (w.heap.size + 1, 1, .slice p18 n18 c18), (w.heap.size, 0, .bool a0), (w.heap.size, 1, .slice p15 n15 c15)] [(w29.heap.size, 0), (w29.heap.size, 1), (w29.heap.size, 2), (w29.heap.size, 3), (w.heap.size + 1, 0), (w.heap.size + 1, 1), (w.heap.size, 0), (w.heap.size, 1)] (w29.alloc (.cells #[.bool b28, .slice p28 n28 c28, .bool d28, .slice q28 m28 f28] 46)) := S.made (w29.heap.size) [.bool b28, .slice p28 n28 c28, .bool d28, .slice q28 m28 f28] 46 (by simp)
    replace N15 := Lib.hid (N15.out.kp (Kp.of (grown_alloc w29 (.cells #[.bool b28, .slice p28 n28 c28, .bool d28, .slice q28 m28 f28] 46) none)))
    replace N18 := Lib.hid (N18.out.kp (Kp.of (grown_alloc w29 (.cells #[.bool b28, .slice p28 n28 c28, .bool d28, .slice q28 m28 f28] 46) none)))
    replace N28 := Lib.hid (N28.out.kp (Kp.of (grown_alloc w29 (.cells #[.bool b28, .slice p28 n28 c28, .bool d28, .slice q28 m28 f28] 46) none)))
    have sz30 : (w29.alloc (.cells #[.bool b28, .slice p28 n28 c28, .bool d28, .slice q28 m28 f28] 46)).heap.size = w29.heap.size + 1 := by simp
    generalize (w29.alloc (.cells #[.bool b28, .slice p28 n28 c28, .bool d28, .slice q28 m28 f28] 46)) = W30 at *
    go_at_call 19
    with_reducible refine (From_h N18.out (by omega)).mono ?_
    rintro e w32 ⟨p31, n31, c31, b31, rfl, h, g⟩
    replace N15 := Lib.hid (N15.out.kp (Kp.of g))
    clear N18
    replace N28 := Lib.hid (N28.out.kp (Kp.of g))
    have N31 := Lib.hid (h)
    replace S := S.step g
    have lg32 := g.size
    clear g h l0 l1 lS
    have l0 := S.ltc (g := w.heap.size) (o := 0) (x := .bool a0) (by simp)
    have l1 := S.ltc (g := w.heap.size + 1) (o := 0) (x := .bool a1) (by simp)
    have l2 := S.ltc (g := w29.heap.size) (o := 0) (x := .bool b28) (by simp)
    have lS := S.size
    obtain ⟨e0, e1, e2, e3, e4, e5, e6, e7, h0, i0, h1, i1, h2, i2, h3, i3, h4, i4, h5, i5, h6, i6, h7, i7, G⟩ := id S
    go_wp2_with fail
    clear e0 e1 e2 e3 e4 e5 e6 e7 h0 i0 h1 i1 h2 i2 h3 i3 h4 i4 h5 i5 h6 i6 h7 i7 G
    replace S : St w [(w32.heap.size, 0, .slice p31 n31 c31), (w32.heap.size, 1, .bool b31), (w29.heap.size, 0, .bool b28), (w29.heap.size, 1, .slice p28 n28 c28), (w29.heap.size, 2, .bool d28), (w29.heap.size, 3, .slice q28 m28 f28), (w.heap.size + 1, 0, .bool a1), (w.heap.size + 1, 1, .slice p18 n18 c18), (w.heap.size, 0, .bool a0), (w.heap.size, 1, .slice p15 n15 c15)] [(w32.heap.size, 0), (w32.heap.size, 1), (w29.heap.size, 0), (w29.heap.size, 1), (w29.heap.size, 2), (w29.heap.size, 3), (w.heap.size + 1, 0), (w.heap.size + 1, 1), (w.heap.size, 0), (w.heap.size, 1)] (w32.alloc (.cells #[.slice p31 n31 c31, .bool b31] 31)) := S.made (w32.heap.size) [.slice p31 n31 c31, .bool b31] 31 (by simp)
    replace N15 := Lib.hid (N15.out.kp (Kp.of (grown_alloc w32 (.cells #[.slice p31 n31 c31, .bool b31] 31) none)))
    replace N28 := Lib.hid (N28.out.kp (Kp.of (grown_alloc w32 (.cells #[.slice p31 n31 c31, .bool b31] 31) none)))
    replace N31 := Lib.hid (N31.out.kp (Kp.of (grown_alloc w32 (.cells #[.slice p31 n31 c31, .bool b31] 31) none)))
    have sz33 : (w32.alloc (.cells #[.slice p31 n31 c31, .bool b31] 31)).heap.size = w32.heap.size + 1 := by simp
    generalize (w32.alloc (.cells #[.slice p31 n31 c31, .bool b31] 31)) = W33 at *
    go_at_call 33
    with_reducible refine (Zero_h N31.out (decide_eq_false B0.out)).mono ?_
    rintro e w34 ⟨rfl, g⟩
    replace N15 := Lib.hid (N15.out.kp (Kp.of g))
    replace N28 := Lib.hid (N28.out.kp (Kp.of g))
    replace N31 := Lib.hid (N31.out.kp (Kp.of g))
    replace S := S.step g
    have lg34 := g.size
    clear g l0 l1 l2 lS
    have l0 := S.ltc (g := w.heap.size) (o := 0) (x := .bool a0) (by simp)
    have l1 := S.ltc (g := w.heap.size + 1) (o := 0) (x := .bool a1) (by simp)
    have l2 := S.ltc (g := w29.heap.size) (o := 0) (x := .bool b28) (by simp)
    have l3 := S.ltc (g := w32.heap.size) (o := 0) (x := .slice p31 n31 c31) (by simp)
    have lS := S.size
    obtain ⟨e0, e1, e2, e3, e4, e5, e6, e7, e8, e9, h0, i0, h1, i1, h2, i2, h3, i3, h4, i4, h5, i5, h6, i6, h7, i7, h8, i8, h9, i9, G⟩ := id S
    go_wp2_with fail
    clear e0 e1 e2 e3 e4 e5 e6 e7 e8 e9 h0 i0 h1 i1 h2 i2 h3 i3 h4 i4 h5 i5 h6 i6 h7 i7 h8 i8 h9 i9 G
    have T0 : Cl [(w.heap.size, 0, .bool a0), (w.heap.size, 1, .slice p15 n15 c15), (w32.heap.size, 0, .slice p31 n31 c31), (w32.heap.size, 1, .bool b31), (w29.heap.size, 0, .bool b28), (w29.heap.size, 1, .slice p28 n28 c28), (w29.heap.size, 2, .bool d28), (w29.heap.size, 3, .slice q28 m28 f28)] w34 := S.cl (by simp)
    refine wp_region_noPanic ?_
    refine wp_region_held_drew (S := fun w' => w'.cell? ⟨w.heap.size, 0, none⟩ = some (.bool a0) ∧ w'.cell? ⟨w.heap.size, 1, none⟩ = some (.slice p15 n15 c15) ∧ w'.cell? ⟨w32.heap.size, 0, none⟩ = some (.slice p31 n31 c31) ∧ w'.cell? ⟨w32.heap.size, 1, none⟩ = some (.bool b31) ∧ w'.cell? ⟨w29.heap.size, 0, none⟩ = some (.bool b28) ∧ w'.cell? ⟨w29.heap.size, 1, none⟩ = some (.slice p28 n28 c28) ∧ w'.cell? ⟨w29.heap.size, 2, none⟩ = some (.bool d28) ∧ w'.cell? ⟨w29.heap.size, 3, none⟩ = some (.slice q28 m28 f28) ∧ True) (by kernel_rfl) (by exact Cl.step (cs := [(w.heap.size, 0, .bool a0), (w.heap.size, 1, .slice p15 n15 c15), (w32.heap.size, 0, .slice p31 n31 c31), (w32.heap.size, 1, .bool b31), (w29.heap.size, 0, .bool b28), (w29.heap.size, 1, .slice p28 n28 c28), (w29.heap.size, 2, .bool d28), (w29.heap.size, 3, .slice q28 m28 f28)]) (grown_drew _ _) T0) (fun hHeld => ?_)
    change wpAnyH _ _ _ _ _ 11 #[false, false, false, false, false, false, false, false, false, false, false] _ _
    replace S := S.step (grown_drew w34 none)
    replace N15 := Lib.hid (N15.out.kp (Kp.of (grown_drew w34 none)))
    replace N28 := Lib.hid (N28.out.kp (Kp.of (grown_drew w34 none)))
    replace N31 := Lib.hid (N31.out.kp (Kp.of (grown_drew w34 none)))
    have lg35 := (grown_drew w34 none).size
    clear T0
    generalize w34.drew = wr35 at *
    clear l0 l1 l2 l3 lS
    have l0 := S.ltc (g := w.heap.size) (o := 0) (x := .bool a0) (by simp)
    have l1 := S.ltc (g := w.heap.size + 1) (o := 0) (x := .bool a1) (by simp)
    have l2 := S.ltc (g := w29.heap.size) (o := 0) (x := .bool b28) (by simp)
    have l3 := S.ltc (g := w32.heap.size) (o := 0) (x := .slice p31 n31 c31) (by simp)
    have lS := S.size
    refine wpAnyH_take (i := 0) (oi := _) (v := ?vu36) rfl (by kernel_rfl) (by kernel_rfl) (by kernel_rfl) (fun _ _ _ h => h) (Or.inl ⟨by rfl, ?hyu36⟩) (by assumption) ?restu36
    case hyu36 => (intro w hSw; (try dsimp only at hSw); go_simp; try with_reducible rfl)
    try simp only [Act.put, List.getElem_toArray, List.getElem_cons_zero, List.setIfInBounds_toArray, List.set_cons_zero, List.set_cons_succ]
    refine wpAnyH_take (i := 1) (oi := _) (v := .bool false) rfl (by kernel_rfl) (by kernel_rfl) (by kernel_rfl) (fun _ _ _ h => h) (Or.inl ⟨by rfl, ?hyu37⟩) (by assumption) ?restu37
    case hyu37 => (intro w hSw; (try dsimp only at hSw); go_simp; try simp only [decide_true, decide_false])
    try simp only [Act.put, List.getElem_toArray, List.getElem_cons_zero, List.getElem_cons_succ, List.setIfInBounds_toArray, List.set_cons_zero, List.set_cons_succ]
    refine wpAnyH_take (i := 2) (oi := _) (v := .bool false) rfl (by kernel_rfl) (by kernel_rfl) (by kernel_rfl) (fun _ _ _ h => h) (Or.inl ⟨by rfl, ?hyu38⟩) (by assumption) ?restu38
    case hyu38 => (intro w hSw; (try dsimp only at hSw); go_simp; try simp only [decide_true, decide_false])
    try simp only [Act.put, List.getElem_toArray, List.getElem_cons_zero, List.getElem_cons_succ, List.setIfInBounds_toArray, List.set_cons_zero, List.set_cons_succ]
    refine wpAnyH_take (i := 3) (oi := _) (v := ?vu39) rfl (by kernel_rfl) (by kernel_rfl) (by kernel_rfl) (fun _ _ _ h => h) (Or.inl ⟨by rfl, ?hyu39⟩) (by assumption) ?restu39
    case hyu39 => (intro w hSw; (try dsimp only at hSw); go_simp; try with_reducible rfl)
    try simp only [Act.put, List.getElem_toArray, List.getElem_cons_zero, List.getElem_cons_succ, List.setIfInBounds_toArray, List.set_cons_zero, List.set_cons_succ]
    refine wpAnyH_take (i := 5) (oi := _) (v := ?vu40) rfl (by kernel_rfl) (by kernel_rfl) (by kernel_rfl) (fun _ _ _ h => h) (Or.inl ⟨by rfl, ?hyu40⟩) (by assumption) ?restu40
    case hyu40 => (intro w hSw; (try dsimp only at hSw); go_simp; try with_reducible rfl)
    try simp only [Act.put, List.getElem_toArray, List.getElem_cons_zero, List.getElem_cons_succ, List.setIfInBounds_toArray, List.set_cons_zero, List.set_cons_succ]
    refine wpAnyH_take (i := 7) (oi := _) (v := ?vu41) rfl (by kernel_rfl) (by kernel_rfl) (by kernel_rfl) (fun _ _ _ h => h) (Or.inl ⟨by rfl, ?hyu41⟩) (by assumption) ?restu41
    case hyu41 => (intro w hSw; (try dsimp only at hSw); go_simp; try with_reducible rfl)
    try simp only [Act.put, List.getElem_toArray, List.getElem_cons_zero, List.getElem_cons_succ, List.setIfInBounds_toArray, List.set_cons_zero, List.set_cons_succ]
    refine wpAnyH_ready (rs := [4]) (by kernel_rfl) (by simp) ?_
    refine AllReadyH.cons (o := _) rfl (fun K hK => ?_) AllReadyH.nil
    go_simp
    go_at_call 19
    with_reducible refine (From_h N15.out (by omega)).mono ?_
    rintro e w44 ⟨p43, n43, c43, b43, rfl, h, g⟩
    replace N15 := Lib.hid (N15.out.kp (Kp.of g))
    replace N28 := Lib.hid (N28.out.kp (Kp.of g))
    replace N31 := Lib.hid (N31.out.kp (Kp.of g))
    have N43 := Lib.hid (h)
    replace S := S.step g
    have lg44 := g.size
    clear l0 l1 l2 l3 lS
    have l0 := S.ltc (g := w.heap.size) (o := 0) (x := .bool a0) (by simp)
    have l1 := S.ltc (g := w.heap.size + 1) (o := 0) (x := .bool a1) (by simp)
    have l2 := S.ltc (g := w29.heap.size) (o := 0) (x := .bool b28) (by simp)
    have l3 := S.ltc (g := w32.heap.size) (o := 0) (x := .slice p31 n31 c31) (by simp)
    have lS := S.size
    go_wp2_with fail
    refine hK.out _ _ ?hSu42 (fun hHeld => ?_)
    case hSu42 => exact Cl.step (cs := [(w.heap.size, 0, .bool a0), (w.heap.size, 1, .slice p15 n15 c15), (w32.heap.size, 0, .slice p31 n31 c31), (w32.heap.size, 1, .bool b31), (w29.heap.size, 0, .bool b28), (w29.heap.size, 1, .slice p28 n28 c28), (w29.heap.size, 2, .bool d28), (w29.heap.size, 3, .slice q28 m28 f28)]) g (by assumption)
    clear hK K g h
    try simp only [List.setIfInBounds_toArray, List.set_cons_zero, List.set_cons_succ]
    obtain ⟨z46, ez46⟩ : ∃ t : Rat, qOf z0 z1 = t := ⟨_, rfl⟩
    have E46 := Lib.hid ez46
    clear ez46
    refine wpAnyH_ready (rs := [6]) (by kernel_rfl) (by simp) ?_
    refine AllReadyH.cons (o := _) rfl (fun K hK => ?_) AllReadyH.nil
    go_simp
    go_at_call 35
    with_reducible refine (Make_h N43.out N31.out (by omega) E46.out).mono ?_
    rintro e w47 ⟨p46, n46, c46, b46, q46, m46, f46, d46, rfl, h, g⟩
    replace N15 := Lib.hid (N15.out.kp (Kp.of g))
    replace N28 := Lib.hid (N28.out.kp (Kp.of g))
    clear N31 N43
    have N46 := Lib.hid (h)
    replace S := S.step g
    have lg47 := g.size
    clear l0 l1 l2 l3 lS
    have l0 := S.ltc (g := w.heap.size) (o := 0) (x := .bool a0) (by simp)
    have l1 := S.ltc (g := w.heap.size + 1) (o := 0) (x := .bool a1) (by simp)
    have l2 := S.ltc (g := w29.heap.size) (o := 0) (x := .bool b28) (by simp)
    have l3 := S.ltc (g := w32.heap.size) (o := 0) (x := .slice p31 n31 c31) (by simp)
    have lS := S.size
    go_wp2_with fail
    refine hK.out _ _ ?hSu45 (fun hHeld => ?_)
    case hSu45 => exact Cl.step (cs := [(w.heap.size, 0, .bool a0), (w.heap.size, 1, .slice p15 n15 c15), (w32.heap.size, 0, .slice p31 n31 c31), (w32.heap.size, 1, .bool b31), (w29.heap.size, 0, .bool b28), (w29.heap.size, 1, .slice p28 n28 c28), (w29.heap.size, 2, .bool d28), (w29.heap.size, 3, .slice q28 m28 f28)]) g (by assumption)
    clear hK K g h
    try simp only [List.setIfInBounds_toArray, List.set_cons_zero, List.set_cons_succ]
    refine wpAnyH_ready (rs := [8]) (by kernel_rfl) (by simp) ?_
    refine AllReadyH.cons (o := _) rfl (fun K hK => ?_) AllReadyH.nil
    go_simp
    go_at_call 34
    with_reducible refine (Is_q N46.out N28.out (by omega) (by rw [← E46.out, ← E28.out]; exact qOf_ne B0.out)).mono ?_
    rintro e w49 ⟨rfl, g⟩
    replace N15 := Lib.hid (N15.out.kp (Kp.of g))
    clear N28 N46
    replace S := S.step g
    have lg49 := g.size
    clear l0 l1 l2 l3 lS
    have l0 := S.ltc (g := w.heap.size) (o := 0) (x := .bool a0) (by simp)
    have l1 := S.ltc (g := w.heap.size + 1) (o := 0) (x := .bool a1) (by simp)
    have l2 := S.ltc (g := w29.heap.size) (o := 0) (x := .bool b28) (by simp)
    have l3 := S.ltc (g := w32.heap.size) (o := 0) (x := .slice p31 n31 c31) (by simp)
    have lS := S.size
    go_wp2_with fail
    refine hK.out _ _ ?hSu48 (fun hHeld => ?_)
    case hSu48 => exact Cl.step (cs := [(w.heap.size, 0, .bool a0), (w.heap.size, 1, .slice p15 n15 c15), (w32.heap.size, 0, .slice p31 n31 c31), (w32.heap.size, 1, .bool b31), (w29.heap.size, 0, .bool b28), (w29.heap.size, 1, .slice p28 n28 c28), (w29.heap.size, 2, .bool d28), (w29.heap.size, 3, .slice q28 m28 f28)]) g (by assumption)
    clear hK K g
    try simp only [List.setIfInBounds_toArray, List.set_cons_zero, List.set_cons_succ]
    refine wpAnyH_take (i := 9) (oi := _) (v := ?vu50) rfl (by kernel_rfl) (by kernel_rfl) (by kernel_rfl) (fun _ _ _ h => h) (Or.inl ⟨by rfl, ?hyu50⟩) (by assumption) ?restu50
    case hyu50 => (intro w hSw; (try dsimp only at hSw); go_simp; try with_reducible rfl)
    try simp only [Act.put, List.getElem_toArray, List.getElem_cons_zero, List.getElem_cons_succ, List.setIfInBounds_toArray, List.set_cons_zero, List.set_cons_succ]
    refine wpAnyH_take (i := 10) (oi := _) (v := ?vu51) rfl (by kernel_rfl) (by kernel_rfl) (by kernel_rfl) (fun _ _ _ h => h) (Or.inl ⟨by rfl, ?hyu51⟩) (by assumption) ?restu51
    case hyu51 => (intro w hSw; (try dsimp only at hSw); go_simp; try with_reducible rfl)
    try simp only [Act.put, List.getElem_toArray, List.getElem_cons_zero, List.getElem_cons_succ, List.setIfInBounds_toArray, List.set_cons_zero, List.set_cons_succ]
    refine wpAnyH_done (by kernel_rfl) ?_ _
    refine NoPanic.normal ?_
    obtain ⟨e0, e1, e2, e3, e4, e5, e6, e7, e8, e9, h0, i0, h1, i1, h2, i2, h3, i3, h4, i4, h5, i5, h6, i6, h7, i7, h8, i8, h9, i9, G⟩ := id S
    go_wp2_with fail
    clear e0 e1 e2 e3 e4 e5 e6 e7 e8 e9 h0 i0 h1 i1 h2 i2 h3 i3 h4 i4 h5 i5 h6 i6 h7 i7 h8 i8 h9 i9 G
    obtain ⟨z52, ez52⟩ : ∃ t : Rat, Rat.divInt i k = t := ⟨_, rfl⟩
    have E52 := Lib.hid ez52
    clear ez52
    go_at_call 36
    with_reducible refine (ROf_g i k i1 i2 k1 k2 K0.out E52.out).mono ?_
    rintro e w53 ⟨b52, p52, n52, c52, d52, q52, m52, f52, rfl, h, g⟩
    replace N15 := Lib.hid (N15.out.kp (Kp.of g))
    have N52 := Lib.hid (h)
    replace S := S.step g
    have lg53 := g.size
    clear g h l0 l1 l2 l3 lS
    have l0 := S.ltc (g := w.heap.size) (o := 0) (x := .bool a0) (by simp)
    have l1 := S.ltc (g := w.heap.size + 1) (o := 0) (x := .bool a1) (by simp)
    have l2 := S.ltc (g := w29.heap.size) (o := 0) (x := .bool b28) (by simp)
    have l3 := S.ltc (g := w32.heap.size) (o := 0) (x := .slice p31 n31 c31) (by simp)
    have lS := S.size
    obtain ⟨e0, e1, e2, e3, e4, e5, e6, e7, e8, e9, h0, i0, h1, i1, h2, i2, h3, i3, h4, i4, h5, i5, h6, i6, h7, i7, h8, i8, h9, i9, G⟩ := id S
    go_wp2_with fail
    clear e0 e1 e2 e3 e4 e5 e6 e7 e8 e9 h0 i0 h1 i1 h2 i2 h3 i3 h4 i4 h5 i5 h6 i6 h7 i7 h8 i8 h9 i9 G
    replace S : St w [(w53.heap.size, 0, .bool b52), (w53.heap.size, 1, .slice p52 n52 c52), (w53.heap.size, 2, .bool d52), (w53.heap.size, 3, .slice q52 m52 f52), (w32.heap.size, 0, .slice p31 n31 c31), (w32.heap.size, 1, .bool b31), (w29.heap.size, 0, .bool b28), (w29.heap.size, 1, .slice p28 n28 c28), (w29.heap.size, 2, .bool d28), (w29.heap.size, 3, .slice q28 m28 f28), (w.heap.size + 1, 0, .bool a1), (w.heap.size + 1, 1, .slice p18 n18 c18), (w.heap.size, 0, .bool a0), (w.heap.size, 1, .slice p15 n15 c15)] [(w53.heap.size, 0), (w53.heap.size, 1), (w53.heap.size, 2), (w53.heap.size, 3), (w32.heap.size, 0), (w32.heap.size, 1), (w29.heap.size, 0), (w29.heap.size, 1), (w29.heap.size, 2), (w29.heap.size, 3), (w.heap.size + 1, 0), (w.heap.size + 1, 1), (w.heap.size, 0), (w.heap.size, 1)] (w53.alloc (.cells #[.bool b52, .slice p52 n52 c52, .bool d52, .slice q52 m52 f52] 46)) := S.made (w53.heap.size) [.bool b52, .slice p52 n52 c52, .bool d52, .slice q52 m52 f52] 46 (by simp)
    replace N15 := Lib.hid (N15.out.kp (Kp.of (grown_alloc w53 (.cells #[.bool b52, .slice p52 n52 c52, .bool d52, .slice q52 m52 f52] 46) none)))
    replace N52 := Lib.hid (N52.out.kp (Kp.of (grown_alloc w53 (.cells #[.bool b52, .slice p52 n52 c52, .bool d52, .slice q52 m52 f52] 46) none)))
    have sz54 : (w53.alloc (.cells #[.bool b52, .slice p52 n52 c52, .bool d52, .slice q52 m52 f52] 46)).heap.size = w53.heap.size + 1 := by simp
    generalize (w53.alloc (.cells #[.bool b52, .slice p52 n52 c52, .bool d52, .slice q52 m52 f52] 46)) = W54 at *
    have T0 : Cl [(w53.heap.size, 0, .bool b52), (w53.heap.size, 1, .slice p52 n52 c52), (w53.heap.size, 2, .bool d52), (w53.heap.size, 3, .slice q52 m52 f52), (w.heap.size, 0, .bool a0), (w.heap.size, 1, .slice p15 n15 c15)] W54 := S.cl (by simp)
    refine wp_region_noPanic ?_
    refine wp_region_held_drew (S := fun w' => w'.cell? ⟨w53.heap.size, 0, none⟩ = some (.bool b52) ∧ w'.cell? ⟨w53.heap.size, 1, none⟩ = some (.slice p52 n52 c52) ∧ w'.cell? ⟨w53.heap.size, 2, none⟩ = some (.bool d52) ∧ w'.cell? ⟨w53.heap.size, 3, none⟩ = some (.slice q52 m52 f52) ∧ w'.cell? ⟨w.heap.size, 0, none⟩ = some (.bool a0) ∧ w'.cell? ⟨w.heap.size, 1, none⟩ = some (.slice p15 n15 c15) ∧ True) (by kernel_rfl) (by exact Cl.step (cs := [(w53.heap.size, 0, .bool b52), (w53.heap.size, 1, .slice p52 n52 c52), (w53.heap.size, 2, .bool d52), (w53.heap.size, 3, .slice q52 m52 f52), (w.heap.size, 0, .bool a0), (w.heap.size, 1, .slice p15 n15 c15)]) (grown_drew _ _) T0) (fun hHeld => ?_)
    change wpAnyH _ _ _ _ _ 24 #[false, false, false, false, false, false, false, false, false, false, false, false, false, false, false, false, false, false, false, false, false, false, false, false] _ _
    replace S := S.step (grown_drew W54 none)
    replace N15 := Lib.hid (N15.out.kp (Kp.of (grown_drew W54 none)))
    replace N52 := Lib.hid (N52.out.kp (Kp.of (grown_drew W54 none)))
    have lg55 := (grown_drew W54 none).size
    clear T0
    generalize W54.drew = wr55 at *
    clear l0 l1 l2 l3 lS
    have l0 := S.ltc (g := w.heap.size) (o := 0) (x := .bool a0) (by simp)
    have l1 := S.ltc (g := w.heap.size + 1) (o := 0) (x := .bool a1) (by simp)
    have l2 := S.ltc (g := w29.heap.size) (o := 0) (x := .bool b28) (by simp)
    have l3 := S.ltc (g := w32.heap.size) (o := 0) (x := .slice p31 n31 c31) (by simp)
    have l4 := S.ltc (g := w53.heap.size) (o := 0) (x := .bool b52) (by simp)
    have lS := S.size
    refine wpAnyH_take (i := 0) (oi := _) (v := ?vu56) rfl (by kernel_rfl) (by kernel_rfl) (by kernel_rfl) (fun _ _ _ h => h) (Or.inl ⟨by rfl, ?hyu56⟩) (by assumption) ?restu56
    case hyu56 => (intro w hSw; (try dsimp only at hSw); go_simp; try with_reducible rfl)
    try simp only [Act.put, List.getElem_toArray, List.getElem_cons_zero, List.setIfInBounds_toArray, List.set_cons_zero, List.set_cons_succ]
    refine wpAnyH_take (i := 1) (oi := _) (v := .bool true) rfl (by kernel_rfl) (by kernel_rfl) (by kernel_rfl) (fun _ _ _ h => h) (Or.inl ⟨by rfl, ?hyu57⟩) (by assumption) ?restu57
    case hyu57 => (intro w hSw; (try dsimp only at hSw); go_simp; try simp only [decide_true, decide_false])
    try simp only [Act.put, List.getElem_toArray, List.getElem_cons_zero, List.getElem_cons_succ, List.setIfInBounds_toArray, List.set_cons_zero, List.set_cons_succ]
    refine wpAnyH_take (i := 2) (oi := _) (v := .bool true) rfl (by kernel_rfl) (by kernel_rfl) (by kernel_rfl) (fun _ _ _ h => h) (Or.inl ⟨by rfl, ?hyu58⟩) (by assumption) ?restu58
    case hyu58 => (intro w hSw; (try dsimp only at hSw); go_simp; try simp only [decide_true, decide_false])
    try simp only [Act.put, List.getElem_toArray, List.getElem_cons_zero, List.getElem_cons_succ, List.setIfInBounds_toArray, List.set_cons_zero, List.set_cons_succ]
    refine wpAnyH_take (i := 3) (oi := _) (v := ?vu59) rfl (by kernel_rfl) (by kernel_rfl) (by kernel_rfl) (fun _ _ _ h => h) (Or.inl ⟨by rfl, ?hyu59⟩) (by assumption) ?restu59
    case hyu59 => (intro w hSw; (try dsimp only at hSw); go_simp; try with_reducible rfl)
    try simp only [Act.put, List.getElem_toArray, List.getElem_cons_zero, List.getElem_cons_succ, List.setIfInBounds_toArray, List.set_cons_zero, List.set_cons_succ]
    refine wpAnyH_take (i := 5) (oi := _) (v := ?vu60) rfl (by kernel_rfl) (by kernel_rfl) (by kernel_rfl) (fun _ _ _ h => h) (Or.inl ⟨by rfl, ?hyu60⟩) (by assumption) ?restu60
    case hyu60 => (intro w hSw; (try dsimp only at hSw); go_simp; try with_reducible rfl)
    try simp only [Act.put, List.getElem_toArray, List.getElem_cons_zero, List.getElem_cons_succ, List.setIfInBounds_toArray, List.set_cons_zero, List.set_cons_succ]
    refine wpAnyH_take (i := 8) (oi := _) (v := ?vu61) rfl (by kernel_rfl) (by kernel_rfl) (by kernel_rfl) (fun _ _ _ h => h) (Or.inl ⟨by rfl, ?hyu61⟩) (by assumption) ?restu61
    case hyu61 => (intro w hSw; (try dsimp only at hSw); go_simp; try with_reducible rfl)
    try simp only [Act.put, List.getElem_toArray, List.getElem_cons_zero, List.getElem_cons_succ, List.setIfInBounds_toArray, List.set_cons_zero, List.set_cons_succ]
    obtain ⟨z63, ez63⟩ : ∃ t : Int, (i : Int) = t := ⟨_, rfl⟩
    have E63 := Lib.hid ez63
    clear ez63
    refine wpAnyH_ready (rs := [4]) (by kernel_rfl) (by simp) ?_
    refine AllReadyH.cons (o := _) rfl (fun K hK => ?_) AllReadyH.nil
    go_simp
    go_at_call 38
    with_reducible refine (Of_h i i1 i2 E63.out).mono ?_
    rintro e w64 ⟨p63, n63, c63, b63, rfl, h, g⟩
    replace N15 := Lib.hid (N15.out.kp (Kp.of g))
    replace N52 := Lib.hid (N52.out.kp (Kp.of g))
    have N63 := Lib.hid (h)
    replace S := S.step g
    have lg64 := g.size
    clear l0 l1 l2 l3 l4 lS
    have l0 := S.ltc (g := w.heap.size) (o := 0) (x := .bool a0) (by simp)
    have l1 := S.ltc (g := w.heap.size + 1) (o := 0) (x := .bool a1) (by simp)
    have l2 := S.ltc (g := w29.heap.size) (o := 0) (x := .bool b28) (by simp)
    have l3 := S.ltc (g := w32.heap.size) (o := 0) (x := .slice p31 n31 c31) (by simp)
    have l4 := S.ltc (g := w53.heap.size) (o := 0) (x := .bool b52) (by simp)
    have lS := S.size
    go_wp2_with fail
    refine hK.out _ _ ?hSu62 (fun hHeld => ?_)
    case hSu62 => exact Cl.step (cs := [(w53.heap.size, 0, .bool b52), (w53.heap.size, 1, .slice p52 n52 c52), (w53.heap.size, 2, .bool d52), (w53.heap.size, 3, .slice q52 m52 f52), (w.heap.size, 0, .bool a0), (w.heap.size, 1, .slice p15 n15 c15)]) g (by assumption)
    clear hK K g h
    try simp only [List.setIfInBounds_toArray, List.set_cons_zero, List.set_cons_succ]
    obtain ⟨z66, ez66⟩ : ∃ t : Int, (k : Int) = t := ⟨_, rfl⟩
    have E66 := Lib.hid ez66
    clear ez66
    refine wpAnyH_ready (rs := [6]) (by kernel_rfl) (by simp) ?_
    refine AllReadyH.cons (o := _) rfl (fun K hK => ?_) AllReadyH.nil
    go_simp
    go_at_call 38
    with_reducible refine (Of_h k k1 k2 E66.out).mono ?_
    rintro e w67 ⟨p66, n66, c66, b66, rfl, h, g⟩
    replace N15 := Lib.hid (N15.out.kp (Kp.of g))
    replace N52 := Lib.hid (N52.out.kp (Kp.of g))
    replace N63 := Lib.hid (N63.out.kp (Kp.of g))
    have N66 := Lib.hid (h)
    replace S := S.step g
    have lg67 := g.size
    clear l0 l1 l2 l3 l4 lS
    have l0 := S.ltc (g := w.heap.size) (o := 0) (x := .bool a0) (by simp)
    have l1 := S.ltc (g := w.heap.size + 1) (o := 0) (x := .bool a1) (by simp)
    have l2 := S.ltc (g := w29.heap.size) (o := 0) (x := .bool b28) (by simp)
    have l3 := S.ltc (g := w32.heap.size) (o := 0) (x := .slice p31 n31 c31) (by simp)
    have l4 := S.ltc (g := w53.heap.size) (o := 0) (x := .bool b52) (by simp)
    have lS := S.size
    go_wp2_with fail
    refine hK.out _ _ ?hSu65 (fun hHeld => ?_)
    case hSu65 => exact Cl.step (cs := [(w53.heap.size, 0, .bool b52), (w53.heap.size, 1, .slice p52 n52 c52), (w53.heap.size, 2, .bool d52), (w53.heap.size, 3, .slice q52 m52 f52), (w.heap.size, 0, .bool a0), (w.heap.size, 1, .slice p15 n15 c15)]) g (by assumption)
    clear hK K g h
    try simp only [List.setIfInBounds_toArray, List.set_cons_zero, List.set_cons_succ]
    obtain ⟨z69, ez69⟩ : ∃ t : Rat, qOf z63 z66 = t := ⟨_, rfl⟩
    have E69 := Lib.hid ez69
    clear ez69
    refine wpAnyH_ready (rs := [7]) (by kernel_rfl) (by simp) ?_
    refine AllReadyH.cons (o := _) rfl (fun K hK => ?_) AllReadyH.nil
    go_simp
    go_at_call 35
    with_reducible refine (Make_h N63.out N66.out (by omega) E69.out).mono ?_
    rintro e w70 ⟨p69, n69, c69, b69, q69, m69, f69, d69, rfl, h, g⟩
    replace N15 := Lib.hid (N15.out.kp (Kp.of g))
    replace N52 := Lib.hid (N52.out.kp (Kp.of g))
    clear N63 N66
    have N69 := Lib.hid (h)
    replace S := S.step g
    have lg70 := g.size
    clear l0 l1 l2 l3 l4 lS
    have l0 := S.ltc (g := w.heap.size) (o := 0) (x := .bool a0) (by simp)
    have l1 := S.ltc (g := w.heap.size + 1) (o := 0) (x := .bool a1) (by simp)
    have l2 := S.ltc (g := w29.heap.size) (o := 0) (x := .bool b28) (by simp)
    have l3 := S.ltc (g := w32.heap.size) (o := 0) (x := .slice p31 n31 c31) (by simp)
    have l4 := S.ltc (g := w53.heap.size) (o := 0) (x := .bool b52) (by simp)
    have lS := S.size
    go_wp2_with fail
    refine hK.out _ _ ?hSu68 (fun hHeld => ?_)
    case hSu68 => exact Cl.step (cs := [(w53.heap.size, 0, .bool b52), (w53.heap.size, 1, .slice p52 n52 c52), (w53.heap.size, 2, .bool d52), (w53.heap.size, 3, .slice q52 m52 f52), (w.heap.size, 0, .bool a0), (w.heap.size, 1, .slice p15 n15 c15)]) g (by assumption)
    clear hK K g h
    try simp only [List.setIfInBounds_toArray, List.set_cons_zero, List.set_cons_succ]
    refine wpAnyH_ready (rs := [9]) (by kernel_rfl) (by simp) ?_
    refine AllReadyH.cons (o := _) rfl (fun K hK => ?_) AllReadyH.nil
    go_simp
    go_at_call 34
    with_reducible refine (Is_q N69.out N52.out (by omega) (by rw [← E69.out, ← E66.out, ← E63.out, ← E52.out]; exact qOf_ne K0.out)).mono ?_
    rintro e w72 ⟨rfl, g⟩
    replace N15 := Lib.hid (N15.out.kp (Kp.of g))
    clear N52 N69
    replace S := S.step g
    have lg72 := g.size
    clear l0 l1 l2 l3 l4 lS
    have l0 := S.ltc (g := w.heap.size) (o := 0) (x := .bool a0) (by simp)
    have l1 := S.ltc (g := w.heap.size + 1) (o := 0) (x := .bool a1) (by simp)
    have l2 := S.ltc (g := w29.heap.size) (o := 0) (x := .bool b28) (by simp)
    have l3 := S.ltc (g := w32.heap.size) (o := 0) (x := .slice p31 n31 c31) (by simp)
    have l4 := S.ltc (g := w53.heap.size) (o := 0) (x := .bool b52) (by simp)
    have lS := S.size
    go_wp2_with fail
    refine hK.out _ _ ?hSu71 (fun hHeld => ?_)
    case hSu71 => exact Cl.step (cs := [(w53.heap.size, 0, .bool b52), (w53.heap.size, 1, .slice p52 n52 c52), (w53.heap.size, 2, .bool d52), (w53.heap.size, 3, .slice q52 m52 f52), (w.heap.size, 0, .bool a0), (w.heap.size, 1, .slice p15 n15 c15)]) g (by assumption)
    clear hK K g
    try simp only [List.setIfInBounds_toArray, List.set_cons_zero, List.set_cons_succ]
    refine wpAnyH_take (i := 10) (oi := _) (v := ?vu73) rfl (by kernel_rfl) (by kernel_rfl) (by kernel_rfl) (fun _ _ _ h => h) (Or.inl ⟨by rfl, ?hyu73⟩) (by assumption) ?restu73
    case hyu73 => (intro w hSw; (try dsimp only at hSw); go_simp; try with_reducible rfl)
    try simp only [Act.put, List.getElem_toArray, List.getElem_cons_zero, List.getElem_cons_succ, List.setIfInBounds_toArray, List.set_cons_zero, List.set_cons_succ]
    refine wpAnyH_take (i := 11) (oi := _) (v := ?vu74) rfl (by kernel_rfl) (by kernel_rfl) (by kernel_rfl) (fun _ _ _ h => h) (Or.inl ⟨by rfl, ?hyu74⟩) (by assumption) ?restu74
    case hyu74 => (intro w hSw; (try dsimp only at hSw); go_simp; try with_reducible rfl)
    try simp only [Act.put, List.getElem_toArray, List.getElem_cons_zero, List.getElem_cons_succ, List.setIfInBounds_toArray, List.set_cons_zero, List.set_cons_succ]
    refine wpAnyH_take (i := 12) (oi := _) (v := ?vu75) rfl (by kernel_rfl) (by kernel_rfl) (by kernel_rfl) (fun _ _ _ h => h) (Or.inl ⟨by rfl, ?hyu75⟩) (by assumption) ?restu75
    case hyu75 => (intro w hSw; (try dsimp only at hSw); go_simp; try with_reducible rfl)
    try simp only [Act.put, List.getElem_toArray, List.getElem_cons_zero, List.getElem_cons_succ, List.setIfInBounds_toArray, List.set_cons_zero, List.set_cons_succ]
    refine wpAnyH_take (i := 16) (oi := _) (v := ?vu76) rfl (by kernel_rfl) (by kernel_rfl) (by kernel_rfl) (fun _ _ _ h => h) (Or.inl ⟨by rfl, ?hyu76⟩) (by assumption) ?restu76
    case hyu76 => (intro w hSw; (try dsimp only at hSw); go_simp; try with_reducible rfl)
    try simp only [Act.put, List.getElem_toArray, List.getElem_cons_zero, List.getElem_cons_succ, List.setIfInBounds_toArray, List.set_cons_zero, List.set_cons_succ]
    refine wpAnyH_ready (rs := [13]) (by kernel_rfl) (by simp) ?_
    refine AllReadyH.cons (o := _) rfl (fun K hK => ?_) AllReadyH.nil
    go_simp
    go_at_call 19
    with_reducible refine (From_h N15.out (by omega)).mono ?_
    rintro e w79 ⟨p78, n78, c78, b78, rfl, h, g⟩
    replace N15 := Lib.hid (N15.out.kp (Kp.of g))
    have N78 := Lib.hid (h)
    replace S := S.step g
    have lg79 := g.size
    clear l0 l1 l2 l3 l4 lS
    have l0 := S.ltc (g := w.heap.size) (o := 0) (x := .bool a0) (by simp)
    have l1 := S.ltc (g := w.heap.size + 1) (o := 0) (x := .bool a1) (by simp)
    have l2 := S.ltc (g := w29.heap.size) (o := 0) (x := .bool b28) (by simp)
    have l3 := S.ltc (g := w32.heap.size) (o := 0) (x := .slice p31 n31 c31) (by simp)
    have l4 := S.ltc (g := w53.heap.size) (o := 0) (x := .bool b52) (by simp)
    have lS := S.size
    go_wp2_with fail
    refine hK.out _ _ ?hSu77 (fun hHeld => ?_)
    case hSu77 => exact Cl.step (cs := [(w53.heap.size, 0, .bool b52), (w53.heap.size, 1, .slice p52 n52 c52), (w53.heap.size, 2, .bool d52), (w53.heap.size, 3, .slice q52 m52 f52), (w.heap.size, 0, .bool a0), (w.heap.size, 1, .slice p15 n15 c15)]) g (by assumption)
    clear hK K g h
    try simp only [List.setIfInBounds_toArray, List.set_cons_zero, List.set_cons_succ]
    obtain ⟨z81, ez81⟩ : ∃ t : Int, (1 : Int) = t := ⟨_, rfl⟩
    have E81 := Lib.hid ez81
    clear ez81
    refine wpAnyH_ready (rs := [14]) (by kernel_rfl) (by simp) ?_
    refine AllReadyH.cons (o := _) rfl (fun K hK => ?_) AllReadyH.nil
    go_simp
    go_at_call 38
    with_reducible refine (Of_h 1 (by decide) (by decide) E81.out).mono ?_
    rintro e w82 ⟨p81, n81, c81, b81, rfl, h, g⟩
    replace N15 := Lib.hid (N15.out.kp (Kp.of g))
    replace N78 := Lib.hid (N78.out.kp (Kp.of g))
    have N81 := Lib.hid (h)
    replace S := S.step g
    have lg82 := g.size
    clear l0 l1 l2 l3 l4 lS
    have l0 := S.ltc (g := w.heap.size) (o := 0) (x := .bool a0) (by simp)
    have l1 := S.ltc (g := w.heap.size + 1) (o := 0) (x := .bool a1) (by simp)
    have l2 := S.ltc (g := w29.heap.size) (o := 0) (x := .bool b28) (by simp)
    have l3 := S.ltc (g := w32.heap.size) (o := 0) (x := .slice p31 n31 c31) (by simp)
    have l4 := S.ltc (g := w53.heap.size) (o := 0) (x := .bool b52) (by simp)
    have lS := S.size
    go_wp2_with fail
    refine hK.out _ _ ?hSu80 (fun hHeld => ?_)
    case hSu80 => exact Cl.step (cs := [(w53.heap.size, 0, .bool b52), (w53.heap.size, 1, .slice p52 n52 c52), (w53.heap.size, 2, .bool d52), (w53.heap.size, 3, .slice q52 m52 f52), (w.heap.size, 0, .bool a0), (w.heap.size, 1, .slice p15 n15 c15)]) g (by assumption)
    clear hK K g h
    try simp only [List.setIfInBounds_toArray, List.set_cons_zero, List.set_cons_succ]
    obtain ⟨z84, ez84⟩ : ∃ t : Rat, qOf z0 z81 = t := ⟨_, rfl⟩
    have E84 := Lib.hid ez84
    clear ez84
    refine wpAnyH_ready (rs := [15]) (by kernel_rfl) (by simp) ?_
    refine AllReadyH.cons (o := _) rfl (fun K hK => ?_) AllReadyH.nil
    go_simp
    go_at_call 35
    with_reducible refine (Make_h N78.out N81.out (by omega) E84.out).mono ?_
    rintro e w85 ⟨p84, n84, c84, b84, q84, m84, f84, d84, rfl, h, g⟩
    replace N15 := Lib.hid (N15.out.kp (Kp.of g))
    clear N78 N81
    have N84 := Lib.hid (h)
    replace S := S.step g
    have lg85 := g.size
    clear l0 l1 l2 l3 l4 lS
    have l0 := S.ltc (g := w.heap.size) (o := 0) (x := .bool a0) (by simp)
    have l1 := S.ltc (g := w.heap.size + 1) (o := 0) (x := .bool a1) (by simp)
    have l2 := S.ltc (g := w29.heap.size) (o := 0) (x := .bool b28) (by simp)
    have l3 := S.ltc (g := w32.heap.size) (o := 0) (x := .slice p31 n31 c31) (by simp)
    have l4 := S.ltc (g := w53.heap.size) (o := 0) (x := .bool b52) (by simp)
    have lS := S.size
    go_wp2_with fail
    refine hK.out _ _ ?hSu83 (fun hHeld => ?_)
    case hSu83 => exact Cl.step (cs := [(w53.heap.size, 0, .bool b52), (w53.heap.size, 1, .slice p52 n52 c52), (w53.heap.size, 2, .bool d52), (w53.heap.size, 3, .slice q52 m52 f52), (w.heap.size, 0, .bool a0), (w.heap.size, 1, .slice p15 n15 c15)]) g (by assumption)
    clear hK K g h
    try simp only [List.setIfInBounds_toArray, List.set_cons_zero, List.set_cons_succ]
    obtain ⟨z87, ez87⟩ : ∃ t : Rat, ((z0 : Int) : Rat) = t := ⟨_, rfl⟩
    have E87 := Lib.hid ez87
    clear ez87
    refine wpAnyH_ready (rs := [17]) (by kernel_rfl) (by simp) ?_
    refine AllReadyH.cons (o := _) rfl (fun K hK => ?_) AllReadyH.nil
    go_simp
    go_at_call 39
    with_reducible refine (RInt_z N15.out (by omega) E87.out).mono ?_
    rintro e w88 ⟨b87, p87, n87, c87, d87, q87, m87, f87, rfl, h, g⟩
    clear N15
    replace N84 := Lib.hid (N84.out.kp (Kp.of g))
    have N87 := Lib.hid (h)
    replace S := S.step g
    have lg88 := g.size
    clear l0 l1 l2 l3 l4 lS
    have l0 := S.ltc (g := w.heap.size) (o := 0) (x := .bool a0) (by simp)
    have l1 := S.ltc (g := w.heap.size + 1) (o := 0) (x := .bool a1) (by simp)
    have l2 := S.ltc (g := w29.heap.size) (o := 0) (x := .bool b28) (by simp)
    have l3 := S.ltc (g := w32.heap.size) (o := 0) (x := .slice p31 n31 c31) (by simp)
    have l4 := S.ltc (g := w53.heap.size) (o := 0) (x := .bool b52) (by simp)
    have lS := S.size
    go_wp2_with fail
    refine hK.out _ _ ?hSu86 (fun hHeld => ?_)
    case hSu86 => exact Cl.step (cs := [(w53.heap.size, 0, .bool b52), (w53.heap.size, 1, .slice p52 n52 c52), (w53.heap.size, 2, .bool d52), (w53.heap.size, 3, .slice q52 m52 f52), (w.heap.size, 0, .bool a0), (w.heap.size, 1, .slice p15 n15 c15)]) g (by assumption)
    clear hK K g h
    try simp only [List.setIfInBounds_toArray, List.set_cons_zero, List.set_cons_succ]
    refine wpAnyH_ready (rs := [18]) (by kernel_rfl) (by simp) ?_
    refine AllReadyH.cons (o := _) rfl (fun K hK => ?_) AllReadyH.nil
    go_simp
    go_at_call 34
    with_reducible refine (Is_q N84.out N87.out (by omega) (by rw [← E87.out, ← E84.out, ← E81.out]; exact qOf_int z0)).mono ?_
    rintro e w90 ⟨rfl, g⟩
    clear N84 N87
    replace S := S.step g
    have lg90 := g.size
    clear l0 l1 l2 l3 l4 lS
    have l0 := S.ltc (g := w.heap.size) (o := 0) (x := .bool a0) (by simp)
    have l1 := S.ltc (g := w.heap.size + 1) (o := 0) (x := .bool a1) (by simp)
    have l2 := S.ltc (g := w29.heap.size) (o := 0) (x := .bool b28) (by simp)
    have l3 := S.ltc (g := w32.heap.size) (o := 0) (x := .slice p31 n31 c31) (by simp)
    have l4 := S.ltc (g := w53.heap.size) (o := 0) (x := .bool b52) (by simp)
    have lS := S.size
    go_wp2_with fail
    refine hK.out _ _ ?hSu89 (fun hHeld => ?_)
    case hSu89 => exact Cl.step (cs := [(w53.heap.size, 0, .bool b52), (w53.heap.size, 1, .slice p52 n52 c52), (w53.heap.size, 2, .bool d52), (w53.heap.size, 3, .slice q52 m52 f52), (w.heap.size, 0, .bool a0), (w.heap.size, 1, .slice p15 n15 c15)]) g (by assumption)
    clear hK K g
    try simp only [List.setIfInBounds_toArray, List.set_cons_zero, List.set_cons_succ]
    refine wpAnyH_take (i := 19) (oi := _) (v := ?vu91) rfl (by kernel_rfl) (by kernel_rfl) (by kernel_rfl) (fun _ _ _ h => h) (Or.inl ⟨by rfl, ?hyu91⟩) (by assumption) ?restu91
    case hyu91 => (intro w hSw; (try dsimp only at hSw); go_simp; try with_reducible rfl)
    try simp only [Act.put, List.getElem_toArray, List.getElem_cons_zero, List.getElem_cons_succ, List.setIfInBounds_toArray, List.set_cons_zero, List.set_cons_succ]
    refine wpAnyH_take (i := 20) (oi := _) (v := ?vu92) rfl (by kernel_rfl) (by kernel_rfl) (by kernel_rfl) (fun _ _ _ h => h) (Or.inl ⟨by rfl, ?hyu92⟩) (by assumption) ?restu92
    case hyu92 => (intro w hSw; (try dsimp only at hSw); go_simp; try with_reducible rfl)
    try simp only [Act.put, List.getElem_toArray, List.getElem_cons_zero, List.getElem_cons_succ, List.setIfInBounds_toArray, List.set_cons_zero, List.set_cons_succ]
    refine wpAnyH_ready (rs := [21]) (by kernel_rfl) (by simp) ?_
    refine AllReadyH.cons (o := _) rfl (fun K hK => ?_) AllReadyH.nil
    go_simp
    go_at_call 37
    with_reducible refine (wakes4 _).mono ?_
    rintro e w94 ⟨rfl, g⟩
    replace S := S.step g
    have lg94 := g.size
    clear l0 l1 l2 l3 l4 lS
    have l0 := S.ltc (g := w.heap.size) (o := 0) (x := .bool a0) (by simp)
    have l1 := S.ltc (g := w.heap.size + 1) (o := 0) (x := .bool a1) (by simp)
    have l2 := S.ltc (g := w29.heap.size) (o := 0) (x := .bool b28) (by simp)
    have l3 := S.ltc (g := w32.heap.size) (o := 0) (x := .slice p31 n31 c31) (by simp)
    have l4 := S.ltc (g := w53.heap.size) (o := 0) (x := .bool b52) (by simp)
    have lS := S.size
    go_wp2_with fail
    refine hK.out _ _ ?hSu93 (fun hHeld => ?_)
    case hSu93 => exact Cl.step (cs := [(w53.heap.size, 0, .bool b52), (w53.heap.size, 1, .slice p52 n52 c52), (w53.heap.size, 2, .bool d52), (w53.heap.size, 3, .slice q52 m52 f52), (w.heap.size, 0, .bool a0), (w.heap.size, 1, .slice p15 n15 c15)]) g (by assumption)
    clear hK K g
    try simp only [List.setIfInBounds_toArray, List.set_cons_zero, List.set_cons_succ]
    refine wpAnyH_take (i := 22) (oi := _) (v := ?vu95) rfl (by kernel_rfl) (by kernel_rfl) (by kernel_rfl) (fun _ _ _ h => h) (Or.inl ⟨by rfl, ?hyu95⟩) (by assumption) ?restu95
    case hyu95 => (intro w hSw; (try dsimp only at hSw); go_simp; try with_reducible rfl)
    try simp only [Act.put, List.getElem_toArray, List.getElem_cons_zero, List.getElem_cons_succ, List.setIfInBounds_toArray, List.set_cons_zero, List.set_cons_succ]
    refine wpAnyH_take (i := 23) (oi := _) (v := ?vu96) rfl (by kernel_rfl) (by kernel_rfl) (by kernel_rfl) (fun _ _ _ h => h) (Or.inl ⟨by rfl, ?hyu96⟩) (by assumption) ?restu96
    case hyu96 => (intro w hSw; (try dsimp only at hSw); go_simp; try with_reducible rfl)
    try simp only [Act.put, List.getElem_toArray, List.getElem_cons_zero, List.getElem_cons_succ, List.setIfInBounds_toArray, List.set_cons_zero, List.set_cons_succ]
    refine wpAnyH_done (by kernel_rfl) ?_ _
    refine NoPanic.normal ?_
    obtain ⟨e0, e1, e2, e3, e4, e5, e6, e7, e8, e9, e10, e11, e12, e13, h0, i0, h1, i1, h2, i2, h3, i3, h4, i4, h5, i5, h6, i6, h7, i7, h8, i8, h9, i9, h10, i10, h11, i11, h12, i12, h13, i13, G⟩ := id S
    go_wp2_with fail
    clear e0 e1 e2 e3 e4 e5 e6 e7 e8 e9 e10 e11 e12 e13 h0 i0 h1 i1 h2 i2 h3 i3 h4 i4 h5 i5 h6 i6 h7 i7 h8 i8 h9 i9 h10 i10 h11 i11 h12 i12 h13 i13 G
    go_ret
    exact ⟨rfl, S.all⟩

set_option maxHeartbeats 16000000 in
set_option maxRecDepth 100000 in
theorem walk_0 {a0 a1 : Bool} {s0 s1 : Value} {xs0 xs1 : List Nat} {w : World} (hx0 : Sl w .u32 s0 xs0) (ax0 : All 4294967296 xs0) (hx1 : Sl w .u32 s1 xs1) (ax1 : All 4294967296 xs1) (i : Int) (i1 : -9223372036854775808 ≤ i) (i2 : i ≤ 9223372036854775807) :
    Calls Tryz.prog 8 #[.agg #[.bool a0, s0], .agg #[.bool a1, s1], .int .i64 i, .int .i64 0] w (Bool_ w true) := by
  obtain ⟨p0, c0, rfl, -⟩ := id hx0
  have X0 := Lib.hid hx0
  have AX0 := Lib.hid ax0
  obtain ⟨z0, hz0⟩ : ∃ z, sg a0 (val 4294967296 (xs0.take 8)) = z := ⟨_, rfl⟩
  have HZ0 := Lib.hid hz0
  clear hx0 ax0 hz0
  obtain ⟨p1, c1, rfl, -⟩ := id hx1
  have X1 := Lib.hid hx1
  have AX1 := Lib.hid ax1
  obtain ⟨z1, hz1⟩ : ∃ z, sg a1 (val 4294967296 (xs1.take 8)) = z := ⟨_, rfl⟩
  have HZ1 := Lib.hid hz1
  clear hx1 ax1 hz1
  have S : St w [] [] w := St.start w
  go_enter Tryz.func8, Tryz.ntmps8
  have G := S
  go_wp2_with fail
  clear G
  replace S : St w [(w.heap.size, 0, .bool a0), (w.heap.size, 1, .slice p0 xs0.length c0)] [(w.heap.size, 0), (w.heap.size, 1)] (w.alloc (.cells #[.bool a0, .slice p0 xs0.length c0] 24)) := S.made (w.heap.size) [.bool a0, .slice p0 xs0.length c0] 24 (by simp)
  replace S : St w [(w.heap.size + 1, 0, .bool a1), (w.heap.size + 1, 1, .slice p1 xs1.length c1), (w.heap.size, 0, .bool a0), (w.heap.size, 1, .slice p0 xs0.length c0)] [(w.heap.size + 1, 0), (w.heap.size + 1, 1), (w.heap.size, 0), (w.heap.size, 1)] ((w.alloc (.cells #[.bool a0, .slice p0 xs0.length c0] 24)).alloc (.cells #[.bool a1, .slice p1 xs1.length c1] 24)) := S.made (w.heap.size + 1) [.bool a1, .slice p1 xs1.length c1] 24 (by simp)
  replace X0 := Lib.hid (X0.out.kp ((Kp.of (grown_alloc w (.cells #[.bool a0, .slice p0 xs0.length c0] 24) none)).trans (Kp.of (grown_alloc ((w.alloc (.cells #[.bool a0, .slice p0 xs0.length c0] 24))) (.cells #[.bool a1, .slice p1 xs1.length c1] 24) none))))
  replace X1 := Lib.hid (X1.out.kp ((Kp.of (grown_alloc w (.cells #[.bool a0, .slice p0 xs0.length c0] 24) none)).trans (Kp.of (grown_alloc ((w.alloc (.cells #[.bool a0, .slice p0 xs0.length c0] 24))) (.cells #[.bool a1, .slice p1 xs1.length c1] 24) none))))
  have sz10 : ((w.alloc (.cells #[.bool a0, .slice p0 xs0.length c0] 24)).alloc (.cells #[.bool a1, .slice p1 xs1.length c1] 24)).heap.size = w.heap.size + 2 := by simp
  generalize ((w.alloc (.cells #[.bool a0, .slice p0 xs0.length c0] 24)).alloc (.cells #[.bool a1, .slice p1 xs1.length c1] 24)) = W10 at *
  have T0 : Cl [(w.heap.size, 0, .bool a0), (w.heap.size, 1, .slice p0 xs0.length c0), (w.heap.size + 1, 0, .bool a1), (w.heap.size + 1, 1, .slice p1 xs1.length c1)] W10 := S.cl (by simp)
  refine wp_region_noPanic ?_
  refine AnyUntil.start (T := fun w' => w'.cell? ⟨w.heap.size, 0, none⟩ = some (.bool a0) ∧ w'.cell? ⟨w.heap.size, 1, none⟩ = some (.slice p0 xs0.length c0) ∧ w'.cell? ⟨w.heap.size + 1, 0, none⟩ = some (.bool a1) ∧ w'.cell? ⟨w.heap.size + 1, 1, none⟩ = some (.slice p1 xs1.length c1) ∧ True) 4 (by kernel_rfl) (by exact Cl.step (cs := [(w.heap.size, 0, .bool a0), (w.heap.size, 1, .slice p0 xs0.length c0), (w.heap.size + 1, 0, .bool a1), (w.heap.size + 1, 1, .slice p1 xs1.length c1)]) (grown_drew _ _) T0) (fun hHeld => ?_)
  change AnyUntil _ _ _ _ _ _ 6 #[false, false, false, false, false, false] _ _
  replace S := S.step (grown_drew W10 none)
  replace X0 := Lib.hid (X0.out.kp (Kp.of (grown_drew W10 none)))
  replace X1 := Lib.hid (X1.out.kp (Kp.of (grown_drew W10 none)))
  have lg11 := (grown_drew W10 none).size
  clear T0
  generalize W10.drew = wr11 at *
  have l0 := S.ltc (g := w.heap.size) (o := 0) (x := .bool a0) (by simp)
  have l1 := S.ltc (g := w.heap.size + 1) (o := 0) (x := .bool a1) (by simp)
  have lS := S.size
  refine AnyUntil.take [4, 1] (i := 0) (oi := _) (v := ?vq12) rfl (by kernel_rfl) (by kernel_rfl) (by kernel_rfl) (by kernel_rfl) (fun _ _ _ h => h) (Or.inl ⟨by rfl, ?hyq12⟩) (by assumption) ?restq12
  case hyq12 => (intro w hSw; (try dsimp only at hSw); go_simp; try with_reducible rfl)
  try simp only [Act.put, List.getElem_toArray, List.getElem_cons_zero, List.setIfInBounds_toArray, List.set_cons_zero, List.set_cons_succ]
  refine AnyUntil.take [4, 3] (i := 2) (oi := _) (v := ?vq13) rfl (by kernel_rfl) (by kernel_rfl) (by kernel_rfl) (by kernel_rfl) (fun _ _ _ h => h) (Or.inl ⟨by rfl, ?hyq13⟩) (by assumption) ?restq13
  case hyq13 => (intro w hSw; (try dsimp only at hSw); go_simp; try with_reducible rfl)
  try simp only [Act.put, List.getElem_toArray, List.getElem_cons_zero, List.getElem_cons_succ, List.setIfInBounds_toArray, List.set_cons_zero, List.set_cons_succ]
  refine AnyUntil.ready (rs := [1]) (by kernel_rfl) (by simp) ?_
  refine Each.held (o := _) rfl (fun K hK => ?_) Each.nil
  go_simp
  go_at_call 16
  with_reducible refine (KInt_v 8 (by decide) X0.out AX0.out HZ0.out).mono ?_
  rintro e w16 ⟨p15, n15, c15, rfl, h, g⟩
  clear X0
  replace X1 := Lib.hid (X1.out.kp (Kp.of g))
  have N15 := Lib.hid (h)
  replace S := S.step g
  have lg16 := g.size
  clear l0 l1 lS
  have l0 := S.ltc (g := w.heap.size) (o := 0) (x := .bool a0) (by simp)
  have l1 := S.ltc (g := w.heap.size + 1) (o := 0) (x := .bool a1) (by simp)
  have lS := S.size
  go_wp2_with fail
  refine hK.out _ _ ?hSq14 (fun hHeld => ?_)
  case hSq14 => exact Cl.step (cs := [(w.heap.size, 0, .bool a0), (w.heap.size, 1, .slice p0 xs0.length c0), (w.heap.size + 1, 0, .bool a1), (w.heap.size + 1, 1, .slice p1 xs1.length c1)]) g (by assumption)
  clear hK K g h
  try simp only [List.setIfInBounds_toArray, List.set_cons_zero, List.set_cons_succ]
  refine AnyUntil.ready (rs := [3]) (by kernel_rfl) (by simp) ?_
  refine Each.held (o := _) rfl (fun K hK => ?_) Each.nil
  go_simp
  go_at_call 16
  with_reducible refine (KInt_v 8 (by decide) X1.out AX1.out HZ1.out).mono ?_
  rintro e w19 ⟨p18, n18, c18, rfl, h, g⟩
  clear X1
  replace N15 := Lib.hid (N15.out.kp (Kp.of g))
  have N18 := Lib.hid (h)
  replace S := S.step g
  have lg19 := g.size
  clear l0 l1 lS
  have l0 := S.ltc (g := w.heap.size) (o := 0) (x := .bool a0) (by simp)
  have l1 := S.ltc (g := w.heap.size + 1) (o := 0) (x := .bool a1) (by simp)
  have lS := S.size
  go_wp2_with fail
  refine hK.out _ _ ?hSq17 (fun hHeld => ?_)
  case hSq17 => exact Cl.step (cs := [(w.heap.size, 0, .bool a0), (w.heap.size, 1, .slice p0 xs0.length c0), (w.heap.size + 1, 0, .bool a1), (w.heap.size + 1, 1, .slice p1 xs1.length c1)]) g (by assumption)
  clear hK K g h
  try simp only [List.setIfInBounds_toArray, List.set_cons_zero, List.set_cons_succ]
  obtain ⟨e0, e1, e2, e3, h0, i0, h1, i1, h2, i2, h3, i3, G⟩ := id S
  refine AnyUntil.ready (rs := [4]) (by kernel_rfl) (by simp) ?_
  refine Each.free (o := _) (by kernel_rfl) rfl (fun K hK => ?_) Each.nil
  go_simp
  refine hK.out _ _ ?_
  clear hK K
  try simp only [List.setIfInBounds_toArray, List.set_cons_zero, List.set_cons_succ]
  clear e0 e1 e2 e3 h0 i0 h1 i1 h2 i2 h3 i3 G
  have K21 : Kp w19 (w19.setCell ⟨w.heap.size, 0, none⟩ (.bool a0)) := S.kp (g := w.heap.size) (o := 0) (x := .bool a0) (.bool a0) (by simp) (by simp)
  replace S : St w [(w.heap.size, 0, .bool a0), (w.heap.size + 1, 0, .bool a1), (w.heap.size + 1, 1, .slice p1 xs1.length c1), (w.heap.size, 1, .slice p0 xs0.length c0)] [(w.heap.size + 1, 0), (w.heap.size + 1, 1), (w.heap.size, 0), (w.heap.size, 1)] (w19.setCell ⟨w.heap.size, 0, none⟩ (.bool a0)) := S.set (g := w.heap.size) (o := 0) (.bool a0) (by simp) (by simp <;> omega) (by omega)
  have K22 : Kp (w19.setCell ⟨w.heap.size, 0, none⟩ (.bool a0)) ((w19.setCell ⟨w.heap.size, 0, none⟩ (.bool a0)).setCell ⟨w.heap.size, 1, none⟩ (.slice p15 n15 c15)) := S.kp (g := w.heap.size) (o := 1) (x := .slice p0 xs0.length c0) (.slice p15 n15 c15) (by simp) (by simp)
  replace S : St w [(w.heap.size, 1, .slice p15 n15 c15), (w.heap.size + 1, 0, .bool a1), (w.heap.size + 1, 1, .slice p1 xs1.length c1), (w.heap.size, 0, .bool a0)] [(w.heap.size + 1, 0), (w.heap.size + 1, 1), (w.heap.size, 0), (w.heap.size, 1)] ((w19.setCell ⟨w.heap.size, 0, none⟩ (.bool a0)).setCell ⟨w.heap.size, 1, none⟩ (.slice p15 n15 c15)) := S.set (g := w.heap.size) (o := 1) (.slice p15 n15 c15) (by simp) (by simp <;> omega) (by omega)
  replace S : St w [(w.heap.size + 1, 0, .bool a1), (w.heap.size + 1, 1, .slice p1 xs1.length c1), (w.heap.size, 0, .bool a0), (w.heap.size, 1, .slice p15 n15 c15)] [(w.heap.size + 1, 0), (w.heap.size + 1, 1), (w.heap.size, 0), (w.heap.size, 1)] ((w19.setCell ⟨w.heap.size, 0, none⟩ (.bool a0)).setCell ⟨w.heap.size, 1, none⟩ (.slice p15 n15 c15)) := S.sub (by simp) (by simp)
  replace N15 := Lib.hid (N15.out.kp (K21.trans K22))
  replace N18 := Lib.hid (N18.out.kp (K21.trans K22))
  clear K21 K22
  have sz23 : ((w19.setCell ⟨w.heap.size, 0, none⟩ (.bool a0)).setCell ⟨w.heap.size, 1, none⟩ (.slice p15 n15 c15)).heap.size = w19.heap.size := by simp
  generalize ((w19.setCell ⟨w.heap.size, 0, none⟩ (.bool a0)).setCell ⟨w.heap.size, 1, none⟩ (.slice p15 n15 c15)) = W23 at *
  clear l0 l1 lS
  have l0 := S.ltc (g := w.heap.size) (o := 0) (x := .bool a0) (by simp)
  have l1 := S.ltc (g := w.heap.size + 1) (o := 0) (x := .bool a1) (by simp)
  have lS := S.size
  obtain ⟨e0, e1, e2, e3, h0, i0, h1, i1, h2, i2, h3, i3, G⟩ := id S
  refine AnyUntil.ready (rs := [5]) (by kernel_rfl) (by simp) ?_
  refine Each.free (o := _) (by kernel_rfl) rfl (fun K hK => ?_) Each.nil
  go_simp
  refine hK.out _ _ ?_
  clear hK K
  try simp only [List.setIfInBounds_toArray, List.set_cons_zero, List.set_cons_succ]
  clear e0 e1 e2 e3 h0 i0 h1 i1 h2 i2 h3 i3 G
  have K25 : Kp W23 (W23.setCell ⟨w.heap.size + 1, 0, none⟩ (.bool a1)) := S.kp (g := w.heap.size + 1) (o := 0) (x := .bool a1) (.bool a1) (by simp) (by simp)
  replace S : St w [(w.heap.size + 1, 0, .bool a1), (w.heap.size + 1, 1, .slice p1 xs1.length c1), (w.heap.size, 0, .bool a0), (w.heap.size, 1, .slice p15 n15 c15)] [(w.heap.size + 1, 0), (w.heap.size + 1, 1), (w.heap.size, 0), (w.heap.size, 1)] (W23.setCell ⟨w.heap.size + 1, 0, none⟩ (.bool a1)) := S.set (g := w.heap.size + 1) (o := 0) (.bool a1) (by simp) (by simp <;> omega) (by omega)
  have K26 : Kp (W23.setCell ⟨w.heap.size + 1, 0, none⟩ (.bool a1)) ((W23.setCell ⟨w.heap.size + 1, 0, none⟩ (.bool a1)).setCell ⟨w.heap.size + 1, 1, none⟩ (.slice p18 n18 c18)) := S.kp (g := w.heap.size + 1) (o := 1) (x := .slice p1 xs1.length c1) (.slice p18 n18 c18) (by simp) (by simp)
  replace S : St w [(w.heap.size + 1, 1, .slice p18 n18 c18), (w.heap.size + 1, 0, .bool a1), (w.heap.size, 0, .bool a0), (w.heap.size, 1, .slice p15 n15 c15)] [(w.heap.size + 1, 0), (w.heap.size + 1, 1), (w.heap.size, 0), (w.heap.size, 1)] ((W23.setCell ⟨w.heap.size + 1, 0, none⟩ (.bool a1)).setCell ⟨w.heap.size + 1, 1, none⟩ (.slice p18 n18 c18)) := S.set (g := w.heap.size + 1) (o := 1) (.slice p18 n18 c18) (by simp) (by simp <;> omega) (by omega)
  replace S : St w [(w.heap.size + 1, 0, .bool a1), (w.heap.size + 1, 1, .slice p18 n18 c18), (w.heap.size, 0, .bool a0), (w.heap.size, 1, .slice p15 n15 c15)] [(w.heap.size + 1, 0), (w.heap.size + 1, 1), (w.heap.size, 0), (w.heap.size, 1)] ((W23.setCell ⟨w.heap.size + 1, 0, none⟩ (.bool a1)).setCell ⟨w.heap.size + 1, 1, none⟩ (.slice p18 n18 c18)) := S.sub (by simp) (by simp)
  replace N15 := Lib.hid (N15.out.kp (K25.trans K26))
  replace N18 := Lib.hid (N18.out.kp (K25.trans K26))
  clear K25 K26
  have sz27 : ((W23.setCell ⟨w.heap.size + 1, 0, none⟩ (.bool a1)).setCell ⟨w.heap.size + 1, 1, none⟩ (.slice p18 n18 c18)).heap.size = W23.heap.size := by simp
  generalize ((W23.setCell ⟨w.heap.size + 1, 0, none⟩ (.bool a1)).setCell ⟨w.heap.size + 1, 1, none⟩ (.slice p18 n18 c18)) = W27 at *
  clear l0 l1 lS
  have l0 := S.ltc (g := w.heap.size) (o := 0) (x := .bool a0) (by simp)
  have l1 := S.ltc (g := w.heap.size + 1) (o := 0) (x := .bool a1) (by simp)
  have lS := S.size
  refine AnyUntil.end (by kernel_rfl) ?_ _
  refine NoPanic.normal ?_
  obtain ⟨e0, e1, e2, e3, h0, i0, h1, i1, h2, i2, h3, i3, G⟩ := id S
  go_wp2_with fail
  clear e0 e1 e2 e3 h0 i0 h1 i1 h2 i2 h3 i3 G
  by_cases hb : z1 = 0
  · have B0 := Lib.hid hb
    clear hb
    go_at_call 32
    with_reducible refine (RMake_0 N15.out N18.out (by omega) B0.out).mono ?_
    rintro e w29 ⟨rfl, g⟩
    replace N15 := Lib.hid (N15.out.kp (Kp.of g))
    replace N18 := Lib.hid (N18.out.kp (Kp.of g))
    replace S := S.step g
    have lg29 := g.size
    clear g l0 l1 lS
    have l0 := S.ltc (g := w.heap.size) (o := 0) (x := .bool a0) (by simp)
    have l1 := S.ltc (g := w.heap.size + 1) (o := 0) (x := .bool a1) (by simp)
    have lS := S.size
    obtain ⟨e0, e1, e2, e3, h0, i0, h1, i1, h2, i2, h3, i3, G⟩ := id S
    go_wp2_with fail
    clear e0 e1 e2 e3 h0 i0 h1 i1 h2 i2 h3 i3 G
    replace S : St w [(w29.heap.size, 0, .bool false), (w29.heap.size, 1, .slice none 0 0), (w29.heap.size, 2, .bool false), (w29.heap.size, 3, .slice none 0 0), (w.heap.size + 1, 0, .bool a1), (w.heap.size + 1, 1, .slice p18 n18 c18), (w.heap.size, 0, .bool a0), (w.heap.size, 1, .slice p15 n15 c15)] [(w29.heap.size, 0), (w29.heap.size, 1), (w29.heap.size, 2), (w29.heap.size, 3), (w.heap.size + 1, 0), (w.heap.size + 1, 1), (w.heap.size, 0), (w.heap.size, 1)] (w29.alloc (.cells #[.bool false, .slice none 0 0, .bool false, .slice none 0 0] 46)) := S.made (w29.heap.size) [.bool false, .slice none 0 0, .bool false, .slice none 0 0] 46 (by simp)
    replace N15 := Lib.hid (N15.out.kp (Kp.of (grown_alloc w29 (.cells #[.bool false, .slice none 0 0, .bool false, .slice none 0 0] 46) none)))
    replace N18 := Lib.hid (N18.out.kp (Kp.of (grown_alloc w29 (.cells #[.bool false, .slice none 0 0, .bool false, .slice none 0 0] 46) none)))
    have sz30 : (w29.alloc (.cells #[.bool false, .slice none 0 0, .bool false, .slice none 0 0] 46)).heap.size = w29.heap.size + 1 := by simp
    generalize (w29.alloc (.cells #[.bool false, .slice none 0 0, .bool false, .slice none 0 0] 46)) = W30 at *
    go_at_call 19
    with_reducible refine (From_h N18.out (by omega)).mono ?_
    rintro e w32 ⟨p31, n31, c31, b31, rfl, h, g⟩
    replace N15 := Lib.hid (N15.out.kp (Kp.of g))
    replace N18 := Lib.hid (N18.out.kp (Kp.of g))
    have N31 := Lib.hid (h)
    replace S := S.step g
    have lg32 := g.size
    clear g h l0 l1 lS
    have l0 := S.ltc (g := w.heap.size) (o := 0) (x := .bool a0) (by simp)
    have l1 := S.ltc (g := w.heap.size + 1) (o := 0) (x := .bool a1) (by simp)
    have l2 := S.ltc (g := w29.heap.size) (o := 0) (x := .bool false) (by simp)
    have lS := S.size
    obtain ⟨e0, e1, e2, e3, e4, e5, e6, e7, h0, i0, h1, i1, h2, i2, h3, i3, h4, i4, h5, i5, h6, i6, h7, i7, G⟩ := id S
    go_wp2_with fail
    clear e0 e1 e2 e3 e4 e5 e6 e7 h0 i0 h1 i1 h2 i2 h3 i3 h4 i4 h5 i5 h6 i6 h7 i7 G
    replace S : St w [(w32.heap.size, 0, .slice p31 n31 c31), (w32.heap.size, 1, .bool b31), (w29.heap.size, 0, .bool false), (w29.heap.size, 1, .slice none 0 0), (w29.heap.size, 2, .bool false), (w29.heap.size, 3, .slice none 0 0), (w.heap.size + 1, 0, .bool a1), (w.heap.size + 1, 1, .slice p18 n18 c18), (w.heap.size, 0, .bool a0), (w.heap.size, 1, .slice p15 n15 c15)] [(w32.heap.size, 0), (w32.heap.size, 1), (w29.heap.size, 0), (w29.heap.size, 1), (w29.heap.size, 2), (w29.heap.size, 3), (w.heap.size + 1, 0), (w.heap.size + 1, 1), (w.heap.size, 0), (w.heap.size, 1)] (w32.alloc (.cells #[.slice p31 n31 c31, .bool b31] 31)) := S.made (w32.heap.size) [.slice p31 n31 c31, .bool b31] 31 (by simp)
    replace N15 := Lib.hid (N15.out.kp (Kp.of (grown_alloc w32 (.cells #[.slice p31 n31 c31, .bool b31] 31) none)))
    replace N18 := Lib.hid (N18.out.kp (Kp.of (grown_alloc w32 (.cells #[.slice p31 n31 c31, .bool b31] 31) none)))
    replace N31 := Lib.hid (N31.out.kp (Kp.of (grown_alloc w32 (.cells #[.slice p31 n31 c31, .bool b31] 31) none)))
    have sz33 : (w32.alloc (.cells #[.slice p31 n31 c31, .bool b31] 31)).heap.size = w32.heap.size + 1 := by simp
    generalize (w32.alloc (.cells #[.slice p31 n31 c31, .bool b31] 31)) = W33 at *
    go_at_call 33
    with_reducible refine (Zero_h N31.out (decide_eq_true B0.out)).mono ?_
    rintro e w34 ⟨rfl, g⟩
    replace N15 := Lib.hid (N15.out.kp (Kp.of g))
    replace N18 := Lib.hid (N18.out.kp (Kp.of g))
    replace N31 := Lib.hid (N31.out.kp (Kp.of g))
    replace S := S.step g
    have lg34 := g.size
    clear g l0 l1 l2 lS
    have l0 := S.ltc (g := w.heap.size) (o := 0) (x := .bool a0) (by simp)
    have l1 := S.ltc (g := w.heap.size + 1) (o := 0) (x := .bool a1) (by simp)
    have l2 := S.ltc (g := w29.heap.size) (o := 0) (x := .bool false) (by simp)
    have l3 := S.ltc (g := w32.heap.size) (o := 0) (x := .slice p31 n31 c31) (by simp)
    have lS := S.size
    obtain ⟨e0, e1, e2, e3, e4, e5, e6, e7, e8, e9, h0, i0, h1, i1, h2, i2, h3, i3, h4, i4, h5, i5, h6, i6, h7, i7, h8, i8, h9, i9, G⟩ := id S
    go_wp2_with fail
    clear e0 e1 e2 e3 e4 e5 e6 e7 e8 e9 h0 i0 h1 i1 h2 i2 h3 i3 h4 i4 h5 i5 h6 i6 h7 i7 h8 i8 h9 i9 G
    go_at_call 23
    with_reducible refine (IZero_0 _).mono ?_
    rintro e w35 ⟨rfl, g⟩
    replace N15 := Lib.hid (N15.out.kp (Kp.of g))
    replace N18 := Lib.hid (N18.out.kp (Kp.of g))
    replace N31 := Lib.hid (N31.out.kp (Kp.of g))
    replace S := S.step g
    have lg35 := g.size
    clear g l0 l1 l2 l3 lS
    have l0 := S.ltc (g := w.heap.size) (o := 0) (x := .bool a0) (by simp)
    have l1 := S.ltc (g := w.heap.size + 1) (o := 0) (x := .bool a1) (by simp)
    have l2 := S.ltc (g := w29.heap.size) (o := 0) (x := .bool false) (by simp)
    have l3 := S.ltc (g := w32.heap.size) (o := 0) (x := .slice p31 n31 c31) (by simp)
    have lS := S.size
    obtain ⟨e0, e1, e2, e3, e4, e5, e6, e7, e8, e9, h0, i0, h1, i1, h2, i2, h3, i3, h4, i4, h5, i5, h6, i6, h7, i7, h8, i8, h9, i9, G⟩ := id S
    go_wp2_with fail
    clear e0 e1 e2 e3 e4 e5 e6 e7 e8 e9 h0 i0 h1 i1 h2 i2 h3 i3 h4 i4 h5 i5 h6 i6 h7 i7 h8 i8 h9 i9 G
    go_at_call 23
    with_reducible refine (IZero_0 _).mono ?_
    rintro e w36 ⟨rfl, g⟩
    replace N15 := Lib.hid (N15.out.kp (Kp.of g))
    replace N18 := Lib.hid (N18.out.kp (Kp.of g))
    replace N31 := Lib.hid (N31.out.kp (Kp.of g))
    replace S := S.step g
    have lg36 := g.size
    clear g l0 l1 l2 l3 lS
    have l0 := S.ltc (g := w.heap.size) (o := 0) (x := .bool a0) (by simp)
    have l1 := S.ltc (g := w.heap.size + 1) (o := 0) (x := .bool a1) (by simp)
    have l2 := S.ltc (g := w29.heap.size) (o := 0) (x := .bool false) (by simp)
    have l3 := S.ltc (g := w32.heap.size) (o := 0) (x := .slice p31 n31 c31) (by simp)
    have lS := S.size
    obtain ⟨e0, e1, e2, e3, e4, e5, e6, e7, e8, e9, h0, i0, h1, i1, h2, i2, h3, i3, h4, i4, h5, i5, h6, i6, h7, i7, h8, i8, h9, i9, G⟩ := id S
    go_wp2_with fail
    clear e0 e1 e2 e3 e4 e5 e6 e7 e8 e9 h0 i0 h1 i1 h2 i2 h3 i3 h4 i4 h5 i5 h6 i6 h7 i7 h8 i8 h9 i9 G
    go_at_call 36
    with_reducible refine (ROf_0 i 0 i1 i2 (by decide) (by decide) rfl).mono ?_
    rintro e w38 ⟨rfl, g⟩
    replace N15 := Lib.hid (N15.out.kp (Kp.of g))
    replace N18 := Lib.hid (N18.out.kp (Kp.of g))
    replace N31 := Lib.hid (N31.out.kp (Kp.of g))
    replace S := S.step g
    have lg38 := g.size
    clear g l0 l1 l2 l3 lS
    have l0 := S.ltc (g := w.heap.size) (o := 0) (x := .bool a0) (by simp)
    have l1 := S.ltc (g := w.heap.size + 1) (o := 0) (x := .bool a1) (by simp)
    have l2 := S.ltc (g := w29.heap.size) (o := 0) (x := .bool false) (by simp)
    have l3 := S.ltc (g := w32.heap.size) (o := 0) (x := .slice p31 n31 c31) (by simp)
    have lS := S.size
    obtain ⟨e0, e1, e2, e3, e4, e5, e6, e7, e8, e9, h0, i0, h1, i1, h2, i2, h3, i3, h4, i4, h5, i5, h6, i6, h7, i7, h8, i8, h9, i9, G⟩ := id S
    go_wp2_with fail
    clear e0 e1 e2 e3 e4 e5 e6 e7 e8 e9 h0 i0 h1 i1 h2 i2 h3 i3 h4 i4 h5 i5 h6 i6 h7 i7 h8 i8 h9 i9 G
    replace S : St w [(w38.heap.size, 0, .bool false), (w38.heap.size, 1, .slice none 0 0), (w38.heap.size, 2, .bool false), (w38.heap.size, 3, .slice none 0 0), (w32.heap.size, 0, .slice p31 n31 c31), (w32.heap.size, 1, .bool b31), (w29.heap.size, 0, .bool false), (w29.heap.size, 1, .slice none 0 0), (w29.heap.size, 2, .bool false), (w29.heap.size, 3, .slice none 0 0), (w.heap.size + 1, 0, .bool a1), (w.heap.size + 1, 1, .slice p18 n18 c18), (w.heap.size, 0, .bool a0), (w.heap.size, 1, .slice p15 n15 c15)] [(w38.heap.size, 0), (w38.heap.size, 1), (w38.heap.size, 2), (w38.heap.size, 3), (w32.heap.size, 0), (w32.heap.size, 1), (w29.heap.size, 0), (w29.heap.size, 1), (w29.heap.size, 2), (w29.heap.size, 3), (w.heap.size + 1, 0), (w.heap.size + 1, 1), (w.heap.size, 0), (w.heap.size, 1)] (w38.alloc (.cells #[.bool false, .slice none 0 0, .bool false, .slice none 0 0] 46)) := S.made (w38.heap.size) [.bool false, .slice none 0 0, .bool false, .slice none 0 0] 46 (by simp)
    replace N15 := Lib.hid (N15.out.kp (Kp.of (grown_alloc w38 (.cells #[.bool false, .slice none 0 0, .bool false, .slice none 0 0] 46) none)))
    replace N18 := Lib.hid (N18.out.kp (Kp.of (grown_alloc w38 (.cells #[.bool false, .slice none 0 0, .bool false, .slice none 0 0] 46) none)))
    replace N31 := Lib.hid (N31.out.kp (Kp.of (grown_alloc w38 (.cells #[.bool false, .slice none 0 0, .bool false, .slice none 0 0] 46) none)))
    have sz39 : (w38.alloc (.cells #[.bool false, .slice none 0 0, .bool false, .slice none 0 0] 46)).heap.size = w38.heap.size + 1 := by simp
    generalize (w38.alloc (.cells #[.bool false, .slice none 0 0, .bool false, .slice none 0 0] 46)) = W39 at *
    go_at_call 23
    with_reducible refine (IZero_0 _).mono ?_
    rintro e w40 ⟨rfl, g⟩
    replace N15 := Lib.hid (N15.out.kp (Kp.of g))
    replace N18 := Lib.hid (N18.out.kp (Kp.of g))
    replace N31 := Lib.hid (N31.out.kp (Kp.of g))
    replace S := S.step g
    have lg40 := g.size
    clear g l0 l1 l2 l3 lS
    have l0 := S.ltc (g := w.heap.size) (o := 0) (x := .bool a0) (by simp)
    have l1 := S.ltc (g := w.heap.size + 1) (o := 0) (x := .bool a1) (by simp)
    have l2 := S.ltc (g := w29.heap.size) (o := 0) (x := .bool false) (by simp)
    have l3 := S.ltc (g := w32.heap.size) (o := 0) (x := .slice p31 n31 c31) (by simp)
    have l4 := S.ltc (g := w38.heap.size) (o := 0) (x := .bool false) (by simp)
    have lS := S.size
    obtain ⟨e0, e1, e2, e3, e4, e5, e6, e7, e8, e9, e10, e11, e12, e13, h0, i0, h1, i1, h2, i2, h3, i3, h4, i4, h5, i5, h6, i6, h7, i7, h8, i8, h9, i9, h10, i10, h11, i11, h12, i12, h13, i13, G⟩ := id S
    go_wp2_with fail
    clear e0 e1 e2 e3 e4 e5 e6 e7 e8 e9 e10 e11 e12 e13 h0 i0 h1 i1 h2 i2 h3 i3 h4 i4 h5 i5 h6 i6 h7 i7 h8 i8 h9 i9 h10 i10 h11 i11 h12 i12 h13 i13 G
    go_at_call 37
    with_reducible refine (wakes4 _).mono ?_
    rintro e w41 ⟨rfl, g⟩
    replace N15 := Lib.hid (N15.out.kp (Kp.of g))
    replace N18 := Lib.hid (N18.out.kp (Kp.of g))
    replace N31 := Lib.hid (N31.out.kp (Kp.of g))
    replace S := S.step g
    have lg41 := g.size
    clear g l0 l1 l2 l3 l4 lS
    have l0 := S.ltc (g := w.heap.size) (o := 0) (x := .bool a0) (by simp)
    have l1 := S.ltc (g := w.heap.size + 1) (o := 0) (x := .bool a1) (by simp)
    have l2 := S.ltc (g := w29.heap.size) (o := 0) (x := .bool false) (by simp)
    have l3 := S.ltc (g := w32.heap.size) (o := 0) (x := .slice p31 n31 c31) (by simp)
    have l4 := S.ltc (g := w38.heap.size) (o := 0) (x := .bool false) (by simp)
    have lS := S.size
    obtain ⟨e0, e1, e2, e3, e4, e5, e6, e7, e8, e9, e10, e11, e12, e13, h0, i0, h1, i1, h2, i2, h3, i3, h4, i4, h5, i5, h6, i6, h7, i7, h8, i8, h9, i9, h10, i10, h11, i11, h12, i12, h13, i13, G⟩ := id S
    go_wp2_with fail
    clear e0 e1 e2 e3 e4 e5 e6 e7 e8 e9 e10 e11 e12 e13 h0 i0 h1 i1 h2 i2 h3 i3 h4 i4 h5 i5 h6 i6 h7 i7 h8 i8 h9 i9 h10 i10 h11 i11 h12 i12 h13 i13 G
    go_ret
    exact ⟨rfl, S.all⟩
  · have B0 := Lib.hid hb
    clear hb
    obtain ⟨z28, ez28⟩ : ∃ t : Rat, Rat.divInt z0 z1 = t := ⟨_, rfl⟩
    have E28 := Lib.hid ez28
    clear ez28
    go_at_call 32
    with_reducible refine (RMake_g N15.out N18.out (by omega) B0.out E28.out).mono ?_
    rintro e w29 ⟨b28, p28, n28, c28, d28, q28, m28, f28, rfl, h, g⟩
    replace N15 := Lib.hid (N15.out.kp (Kp.of g))
    replace N18 := Lib.hid (N18.out.kp (Kp.of g))
    have N28 := Lib.hid (h)
    replace S := S.step g
    have lg29 := g.size
    clear g h l0 l1 lS
    have l0 := S.ltc (g := w.heap.size) (o := 0) (x := .bool a0) (by simp)
    have l1 := S.ltc (g := w.heap.size + 1) (o := 0) (x := .bool a1) (by simp)
    have lS := S.size
    obtain ⟨e0, e1, e2, e3, h0, i0, h1, i1, h2, i2, h3, i3, G⟩ := id S
    go_wp2_with fail
    clear e0 e1 e2 e3 h0 i0 h1 i1 h2 i2 h3 i3 G
    replace S : St w [(w29.heap.size, 0, .bool b28), (w29.heap.size, 1, .slice p28 n28 c28), (w29.heap.size, 2, .bool d28), (w29.heap.size, 3, .slice q28 m28 f28), (w.heap.size + 1, 0, .bool a1), (w.heap.size + 1, 1, .slice p18 n18 c18), (w.heap.size, 0, .bool a0), (w.heap.size, 1, .slice p15 n15 c15)] [(w29.heap.size, 0), (w29.heap.size, 1), (w29.heap.size, 2), (w29.heap.size, 3), (w.heap.size + 1, 0), (w.heap.size + 1, 1), (w.heap.size, 0), (w.heap.size, 1)] (w29.alloc (.cells #[.bool b28, .slice p28 n28 c28, .bool d28, .slice q28 m28 f28] 46)) := S.made (w29.heap.size) [.bool b28, .slice p28 n28 c28, .bool d28, .slice q28 m28 f28] 46 (by simp)
    replace N15 := Lib.hid (N15.out.kp (Kp.of (grown_alloc w29 (.cells #[.bool b28, .slice p28 n28 c28, .bool d28, .slice q28 m28 f28] 46) none)))
    replace N18 := Lib.hid (N18.out.kp (Kp.of (grown_alloc w29 (.cells #[.bool b28, .slice p28 n28 c28, .bool d28, .slice q28 m28 f28] 46) none)))
    replace N28 := Lib.hid (N28.out.kp (Kp.of (grown_alloc w29 (.cells #[.bool b28, .slice p28 n28 c28, .bool d28, .slice q28 m28 f28] 46) none)))
    have sz30 : (w29.alloc (.cells #[.bool b28, .slice p28 n28 c28, .bool d28, .slice q28 m28 f28] 46)).heap.size = w29.heap.size + 1 := by simp
    generalize (w29.alloc (.cells #[.bool b28, .slice p28 n28 c28, .bool d28, .slice q28 m28 f28] 46)) = W30 at *
    go_at_call 19
    with_reducible refine (From_h N18.out (by omega)).mono ?_
    rintro e w32 ⟨p31, n31, c31, b31, rfl, h, g⟩
    replace N15 := Lib.hid (N15.out.kp (Kp.of g))
    clear N18
    replace N28 := Lib.hid (N28.out.kp (Kp.of g))
    have N31 := Lib.hid (h)
    replace S := S.step g
    have lg32 := g.size
    clear g h l0 l1 lS
    have l0 := S.ltc (g := w.heap.size) (o := 0) (x := .bool a0) (by simp)
    have l1 := S.ltc (g := w.heap.size + 1) (o := 0) (x := .bool a1) (by simp)
    have l2 := S.ltc (g := w29.heap.size) (o := 0) (x := .bool b28) (by simp)
    have lS := S.size
    obtain ⟨e0, e1, e2, e3, e4, e5, e6, e7, h0, i0, h1, i1, h2, i2, h3, i3, h4, i4, h5, i5, h6, i6, h7, i7, G⟩ := id S
    go_wp2_with fail
    clear e0 e1 e2 e3 e4 e5 e6 e7 h0 i0 h1 i1 h2 i2 h3 i3 h4 i4 h5 i5 h6 i6 h7 i7 G
    replace S : St w [(w32.heap.size, 0, .slice p31 n31 c31), (w32.heap.size, 1, .bool b31), (w29.heap.size, 0, .bool b28), (w29.heap.size, 1, .slice p28 n28 c28), (w29.heap.size, 2, .bool d28), (w29.heap.size, 3, .slice q28 m28 f28), (w.heap.size + 1, 0, .bool a1), (w.heap.size + 1, 1, .slice p18 n18 c18), (w.heap.size, 0, .bool a0), (w.heap.size, 1, .slice p15 n15 c15)] [(w32.heap.size, 0), (w32.heap.size, 1), (w29.heap.size, 0), (w29.heap.size, 1), (w29.heap.size, 2), (w29.heap.size, 3), (w.heap.size + 1, 0), (w.heap.size + 1, 1), (w.heap.size, 0), (w.heap.size, 1)] (w32.alloc (.cells #[.slice p31 n31 c31, .bool b31] 31)) := S.made (w32.heap.size) [.slice p31 n31 c31, .bool b31] 31 (by simp)
    replace N15 := Lib.hid (N15.out.kp (Kp.of (grown_alloc w32 (.cells #[.slice p31 n31 c31, .bool b31] 31) none)))
    replace N28 := Lib.hid (N28.out.kp (Kp.of (grown_alloc w32 (.cells #[.slice p31 n31 c31, .bool b31] 31) none)))
    replace N31 := Lib.hid (N31.out.kp (Kp.of (grown_alloc w32 (.cells #[.slice p31 n31 c31, .bool b31] 31) none)))
    have sz33 : (w32.alloc (.cells #[.slice p31 n31 c31, .bool b31] 31)).heap.size = w32.heap.size + 1 := by simp
    generalize (w32.alloc (.cells #[.slice p31 n31 c31, .bool b31] 31)) = W33 at *
    go_at_call 33
    with_reducible refine (Zero_h N31.out (decide_eq_false B0.out)).mono ?_
    rintro e w34 ⟨rfl, g⟩
    replace N15 := Lib.hid (N15.out.kp (Kp.of g))
    replace N28 := Lib.hid (N28.out.kp (Kp.of g))
    replace N31 := Lib.hid (N31.out.kp (Kp.of g))
    replace S := S.step g
    have lg34 := g.size
    clear g l0 l1 l2 lS
    have l0 := S.ltc (g := w.heap.size) (o := 0) (x := .bool a0) (by simp)
    have l1 := S.ltc (g := w.heap.size + 1) (o := 0) (x := .bool a1) (by simp)
    have l2 := S.ltc (g := w29.heap.size) (o := 0) (x := .bool b28) (by simp)
    have l3 := S.ltc (g := w32.heap.size) (o := 0) (x := .slice p31 n31 c31) (by simp)
    have lS := S.size
    obtain ⟨e0, e1, e2, e3, e4, e5, e6, e7, e8, e9, h0, i0, h1, i1, h2, i2, h3, i3, h4, i4, h5, i5, h6, i6, h7, i7, h8, i8, h9, i9, G⟩ := id S
    go_wp2_with fail
    clear e0 e1 e2 e3 e4 e5 e6 e7 e8 e9 h0 i0 h1 i1 h2 i2 h3 i3 h4 i4 h5 i5 h6 i6 h7 i7 h8 i8 h9 i9 G
    have T0 : Cl [(w.heap.size, 0, .bool a0), (w.heap.size, 1, .slice p15 n15 c15), (w32.heap.size, 0, .slice p31 n31 c31), (w32.heap.size, 1, .bool b31), (w29.heap.size, 0, .bool b28), (w29.heap.size, 1, .slice p28 n28 c28), (w29.heap.size, 2, .bool d28), (w29.heap.size, 3, .slice q28 m28 f28)] w34 := S.cl (by simp)
    refine wp_region_noPanic ?_
    refine wp_region_held_drew (S := fun w' => w'.cell? ⟨w.heap.size, 0, none⟩ = some (.bool a0) ∧ w'.cell? ⟨w.heap.size, 1, none⟩ = some (.slice p15 n15 c15) ∧ w'.cell? ⟨w32.heap.size, 0, none⟩ = some (.slice p31 n31 c31) ∧ w'.cell? ⟨w32.heap.size, 1, none⟩ = some (.bool b31) ∧ w'.cell? ⟨w29.heap.size, 0, none⟩ = some (.bool b28) ∧ w'.cell? ⟨w29.heap.size, 1, none⟩ = some (.slice p28 n28 c28) ∧ w'.cell? ⟨w29.heap.size, 2, none⟩ = some (.bool d28) ∧ w'.cell? ⟨w29.heap.size, 3, none⟩ = some (.slice q28 m28 f28) ∧ True) (by kernel_rfl) (by exact Cl.step (cs := [(w.heap.size, 0, .bool a0), (w.heap.size, 1, .slice p15 n15 c15), (w32.heap.size, 0, .slice p31 n31 c31), (w32.heap.size, 1, .bool b31), (w29.heap.size, 0, .bool b28), (w29.heap.size, 1, .slice p28 n28 c28), (w29.heap.size, 2, .bool d28), (w29.heap.size, 3, .slice q28 m28 f28)]) (grown_drew _ _) T0) (fun hHeld => ?_)
    change wpAnyH _ _ _ _ _ 11 #[false, false, false, false, false, false, false, false, false, false, false] _ _
    replace S := S.step (grown_drew w34 none)
    replace N15 := Lib.hid (N15.out.kp (Kp.of (grown_drew w34 none)))
    replace N28 := Lib.hid (N28.out.kp (Kp.of (grown_drew w34 none)))
    replace N31 := Lib.hid (N31.out.kp (Kp.of (grown_drew w34 none)))
    have lg35 := (grown_drew w34 none).size
    clear T0
    generalize w34.drew = wr35 at *
    clear l0 l1 l2 l3 lS
    have l0 := S.ltc (g := w.heap.size) (o := 0) (x := .bool a0) (by simp)
    have l1 := S.ltc (g := w.heap.size + 1) (o := 0) (x := .bool a1) (by simp)
    have l2 := S.ltc (g := w29.heap.size) (o := 0) (x := .bool b28) (by simp)
    have l3 := S.ltc (g := w32.heap.size) (o := 0) (x := .slice p31 n31 c31) (by simp)
    have lS := S.size
    refine wpAnyH_take (i := 0) (oi := _) (v := ?vu36) rfl (by kernel_rfl) (by kernel_rfl) (by kernel_rfl) (fun _ _ _ h => h) (Or.inl ⟨by rfl, ?hyu36⟩) (by assumption) ?restu36
    case hyu36 => (intro w hSw; (try dsimp only at hSw); go_simp; try with_reducible rfl)
    try simp only [Act.put, List.getElem_toArray, List.getElem_cons_zero, List.setIfInBounds_toArray, List.set_cons_zero, List.set_cons_succ]
    refine wpAnyH_take (i := 1) (oi := _) (v := .bool false) rfl (by kernel_rfl) (by kernel_rfl) (by kernel_rfl) (fun _ _ _ h => h) (Or.inl ⟨by rfl, ?hyu37⟩) (by assumption) ?restu37
    case hyu37 => (intro w hSw; (try dsimp only at hSw); go_simp; try simp only [decide_true, decide_false])
    try simp only [Act.put, List.getElem_toArray, List.getElem_cons_zero, List.getElem_cons_succ, List.setIfInBounds_toArray, List.set_cons_zero, List.set_cons_succ]
    refine wpAnyH_take (i := 2) (oi := _) (v := .bool false) rfl (by kernel_rfl) (by kernel_rfl) (by kernel_rfl) (fun _ _ _ h => h) (Or.inl ⟨by rfl, ?hyu38⟩) (by assumption) ?restu38
    case hyu38 => (intro w hSw; (try dsimp only at hSw); go_simp; try simp only [decide_true, decide_false])
    try simp only [Act.put, List.getElem_toArray, List.getElem_cons_zero, List.getElem_cons_succ, List.setIfInBounds_toArray, List.set_cons_zero, List.set_cons_succ]
    refine wpAnyH_take (i := 3) (oi := _) (v := ?vu39) rfl (by kernel_rfl) (by kernel_rfl) (by kernel_rfl) (fun _ _ _ h => h) (Or.inl ⟨by rfl, ?hyu39⟩) (by assumption) ?restu39
    case hyu39 => (intro w hSw; (try dsimp only at hSw); go_simp; try with_reducible rfl)
    try simp only [Act.put, List.getElem_toArray, List.getElem_cons_zero, List.getElem_cons_succ, List.setIfInBounds_toArray, List.set_cons_zero, List.set_cons_succ]
    refine wpAnyH_take (i := 5) (oi := _) (v := ?vu40) rfl (by kernel_rfl) (by kernel_rfl) (by kernel_rfl) (fun _ _ _ h => h) (Or.inl ⟨by rfl, ?hyu40⟩) (by assumption) ?restu40
    case hyu40 => (intro w hSw; (try dsimp only at hSw); go_simp; try with_reducible rfl)
    try simp only [Act.put, List.getElem_toArray, List.getElem_cons_zero, List.getElem_cons_succ, List.setIfInBounds_toArray, List.set_cons_zero, List.set_cons_succ]
    refine wpAnyH_take (i := 7) (oi := _) (v := ?vu41) rfl (by kernel_rfl) (by kernel_rfl) (by kernel_rfl) (fun _ _ _ h => h) (Or.inl ⟨by rfl, ?hyu41⟩) (by assumption) ?restu41
    case hyu41 => (intro w hSw; (try dsimp only at hSw); go_simp; try with_reducible rfl)
    try simp only [Act.put, List.getElem_toArray, List.getElem_cons_zero, List.getElem_cons_succ, List.setIfInBounds_toArray, List.set_cons_zero, List.set_cons_succ]
    refine wpAnyH_ready (rs := [4]) (by kernel_rfl) (by simp) ?_
    refine AllReadyH.cons (o := _) rfl (fun K hK => ?_) AllReadyH.nil
    go_simp
    go_at_call 19
    with_reducible refine (From_h N15.out (by omega)).mono ?_
    rintro e w44 ⟨p43, n43, c43, b43, rfl, h, g⟩
    clear N15
    replace N28 := Lib.hid (N28.out.kp (Kp.of g))
    replace N31 := Lib.hid (N31.out.kp (Kp.of g))
    have N43 := Lib.hid (h)
    replace S := S.step g
    have lg44 := g.size
    clear l0 l1 l2 l3 lS
    have l0 := S.ltc (g := w.heap.size) (o := 0) (x := .bool a0) (by simp)
    have l1 := S.ltc (g := w.heap.size + 1) (o := 0) (x := .bool a1) (by simp)
    have l2 := S.ltc (g := w29.heap.size) (o := 0) (x := .bool b28) (by simp)
    have l3 := S.ltc (g := w32.heap.size) (o := 0) (x := .slice p31 n31 c31) (by simp)
    have lS := S.size
    go_wp2_with fail
    refine hK.out _ _ ?hSu42 (fun hHeld => ?_)
    case hSu42 => exact Cl.step (cs := [(w.heap.size, 0, .bool a0), (w.heap.size, 1, .slice p15 n15 c15), (w32.heap.size, 0, .slice p31 n31 c31), (w32.heap.size, 1, .bool b31), (w29.heap.size, 0, .bool b28), (w29.heap.size, 1, .slice p28 n28 c28), (w29.heap.size, 2, .bool d28), (w29.heap.size, 3, .slice q28 m28 f28)]) g (by assumption)
    clear hK K g h
    try simp only [List.setIfInBounds_toArray, List.set_cons_zero, List.set_cons_succ]
    obtain ⟨z46, ez46⟩ : ∃ t : Rat, qOf z0 z1 = t := ⟨_, rfl⟩
    have E46 := Lib.hid ez46
    clear ez46
    refine wpAnyH_ready (rs := [6]) (by kernel_rfl) (by simp) ?_
    refine AllReadyH.cons (o := _) rfl (fun K hK => ?_) AllReadyH.nil
    go_simp
    go_at_call 35
    with_reducible refine (Make_h N43.out N31.out (by omega) E46.out).mono ?_
    rintro e w47 ⟨p46, n46, c46, b46, q46, m46, f46, d46, rfl, h, g⟩
    replace N28 := Lib.hid (N28.out.kp (Kp.of g))
    clear N31 N43
    have N46 := Lib.hid (h)
    replace S := S.step g
    have lg47 := g.size
    clear l0 l1 l2 l3 lS
    have l0 := S.ltc (g := w.heap.size) (o := 0) (x := .bool a0) (by simp)
    have l1 := S.ltc (g := w.heap.size + 1) (o := 0) (x := .bool a1) (by simp)
    have l2 := S.ltc (g := w29.heap.size) (o := 0) (x := .bool b28) (by simp)
    have l3 := S.ltc (g := w32.heap.size) (o := 0) (x := .slice p31 n31 c31) (by simp)
    have lS := S.size
    go_wp2_with fail
    refine hK.out _ _ ?hSu45 (fun hHeld => ?_)
    case hSu45 => exact Cl.step (cs := [(w.heap.size, 0, .bool a0), (w.heap.size, 1, .slice p15 n15 c15), (w32.heap.size, 0, .slice p31 n31 c31), (w32.heap.size, 1, .bool b31), (w29.heap.size, 0, .bool b28), (w29.heap.size, 1, .slice p28 n28 c28), (w29.heap.size, 2, .bool d28), (w29.heap.size, 3, .slice q28 m28 f28)]) g (by assumption)
    clear hK K g h
    try simp only [List.setIfInBounds_toArray, List.set_cons_zero, List.set_cons_succ]
    refine wpAnyH_ready (rs := [8]) (by kernel_rfl) (by simp) ?_
    refine AllReadyH.cons (o := _) rfl (fun K hK => ?_) AllReadyH.nil
    go_simp
    go_at_call 34
    with_reducible refine (Is_q N46.out N28.out (by omega) (by rw [← E46.out, ← E28.out]; exact qOf_ne B0.out)).mono ?_
    rintro e w49 ⟨rfl, g⟩
    clear N28 N46
    replace S := S.step g
    have lg49 := g.size
    clear l0 l1 l2 l3 lS
    have l0 := S.ltc (g := w.heap.size) (o := 0) (x := .bool a0) (by simp)
    have l1 := S.ltc (g := w.heap.size + 1) (o := 0) (x := .bool a1) (by simp)
    have l2 := S.ltc (g := w29.heap.size) (o := 0) (x := .bool b28) (by simp)
    have l3 := S.ltc (g := w32.heap.size) (o := 0) (x := .slice p31 n31 c31) (by simp)
    have lS := S.size
    go_wp2_with fail
    refine hK.out _ _ ?hSu48 (fun hHeld => ?_)
    case hSu48 => exact Cl.step (cs := [(w.heap.size, 0, .bool a0), (w.heap.size, 1, .slice p15 n15 c15), (w32.heap.size, 0, .slice p31 n31 c31), (w32.heap.size, 1, .bool b31), (w29.heap.size, 0, .bool b28), (w29.heap.size, 1, .slice p28 n28 c28), (w29.heap.size, 2, .bool d28), (w29.heap.size, 3, .slice q28 m28 f28)]) g (by assumption)
    clear hK K g
    try simp only [List.setIfInBounds_toArray, List.set_cons_zero, List.set_cons_succ]
    refine wpAnyH_take (i := 9) (oi := _) (v := ?vu50) rfl (by kernel_rfl) (by kernel_rfl) (by kernel_rfl) (fun _ _ _ h => h) (Or.inl ⟨by rfl, ?hyu50⟩) (by assumption) ?restu50
    case hyu50 => (intro w hSw; (try dsimp only at hSw); go_simp; try with_reducible rfl)
    try simp only [Act.put, List.getElem_toArray, List.getElem_cons_zero, List.getElem_cons_succ, List.setIfInBounds_toArray, List.set_cons_zero, List.set_cons_succ]
    refine wpAnyH_take (i := 10) (oi := _) (v := ?vu51) rfl (by kernel_rfl) (by kernel_rfl) (by kernel_rfl) (fun _ _ _ h => h) (Or.inl ⟨by rfl, ?hyu51⟩) (by assumption) ?restu51
    case hyu51 => (intro w hSw; (try dsimp only at hSw); go_simp; try with_reducible rfl)
    try simp only [Act.put, List.getElem_toArray, List.getElem_cons_zero, List.getElem_cons_succ, List.setIfInBounds_toArray, List.set_cons_zero, List.set_cons_succ]
    refine wpAnyH_done (by kernel_rfl) ?_ _
    refine NoPanic.normal ?_
    obtain ⟨e0, e1, e2, e3, e4, e5, e6, e7, e8, e9, h0, i0, h1, i1, h2, i2, h3, i3, h4, i4, h5, i5, h6, i6, h7, i7, h8, i8, h9, i9, G⟩ := id S
    go_wp2_with fail
    clear e0 e1 e2 e3 e4 e5 e6 e7 e8 e9 h0 i0 h1 i1 h2 i2 h3 i3 h4 i4 h5 i5 h6 i6 h7 i7 h8 i8 h9 i9 G
    go_at_call 36
    with_reducible refine (ROf_0 i 0 i1 i2 (by decide) (by decide) rfl).mono ?_
    rintro e w53 ⟨rfl, g⟩
    replace S := S.step g
    have lg53 := g.size
    clear g l0 l1 l2 l3 lS
    have l0 := S.ltc (g := w.heap.size) (o := 0) (x := .bool a0) (by simp)
    have l1 := S.ltc (g := w.heap.size + 1) (o := 0) (x := .bool a1) (by simp)
    have l2 := S.ltc (g := w29.heap.size) (o := 0) (x := .bool b28) (by simp)
    have l3 := S.ltc (g := w32.heap.size) (o := 0) (x := .slice p31 n31 c31) (by simp)
    have lS := S.size
    obtain ⟨e0, e1, e2, e3, e4, e5, e6, e7, e8, e9, h0, i0, h1, i1, h2, i2, h3, i3, h4, i4, h5, i5, h6, i6, h7, i7, h8, i8, h9, i9, G⟩ := id S
    go_wp2_with fail
    clear e0 e1 e2 e3 e4 e5 e6 e7 e8 e9 h0 i0 h1 i1 h2 i2 h3 i3 h4 i4 h5 i5 h6 i6 h7 i7 h8 i8 h9 i9 G
    replace S : St w [(w53.heap.size, 0, .bool false), (w53.heap.size, 1, .slice none 0 0), (w53.heap.size, 2, .bool false), (w53.heap.size, 3, .slice none 0 0), (w32.heap.size, 0, .slice p31 n31 c31), (w32.heap.size, 1, .bool b31), (w29.heap.size, 0, .bool b28), (w29.heap.size, 1, .slice p28 n28 c28), (w29.heap.size, 2, .bool d28), (w29.heap.size, 3, .slice q28 m28 f28), (w.heap.size + 1, 0, .bool a1), (w.heap.size + 1, 1, .slice p18 n18 c18), (w.heap.size, 0, .bool a0), (w.heap.size, 1, .slice p15 n15 c15)] [(w53.heap.size, 0), (w53.heap.size, 1), (w53.heap.size, 2), (w53.heap.size, 3), (w32.heap.size, 0), (w32.heap.size, 1), (w29.heap.size, 0), (w29.heap.size, 1), (w29.heap.size, 2), (w29.heap.size, 3), (w.heap.size + 1, 0), (w.heap.size + 1, 1), (w.heap.size, 0), (w.heap.size, 1)] (w53.alloc (.cells #[.bool false, .slice none 0 0, .bool false, .slice none 0 0] 46)) := S.made (w53.heap.size) [.bool false, .slice none 0 0, .bool false, .slice none 0 0] 46 (by simp)
    have sz54 : (w53.alloc (.cells #[.bool false, .slice none 0 0, .bool false, .slice none 0 0] 46)).heap.size = w53.heap.size + 1 := by simp
    generalize (w53.alloc (.cells #[.bool false, .slice none 0 0, .bool false, .slice none 0 0] 46)) = W54 at *
    go_at_call 23
    with_reducible refine (IZero_0 _).mono ?_
    rintro e w55 ⟨rfl, g⟩
    replace S := S.step g
    have lg55 := g.size
    clear g l0 l1 l2 l3 lS
    have l0 := S.ltc (g := w.heap.size) (o := 0) (x := .bool a0) (by simp)
    have l1 := S.ltc (g := w.heap.size + 1) (o := 0) (x := .bool a1) (by simp)
    have l2 := S.ltc (g := w29.heap.size) (o := 0) (x := .bool b28) (by simp)
    have l3 := S.ltc (g := w32.heap.size) (o := 0) (x := .slice p31 n31 c31) (by simp)
    have l4 := S.ltc (g := w53.heap.size) (o := 0) (x := .bool false) (by simp)
    have lS := S.size
    obtain ⟨e0, e1, e2, e3, e4, e5, e6, e7, e8, e9, e10, e11, e12, e13, h0, i0, h1, i1, h2, i2, h3, i3, h4, i4, h5, i5, h6, i6, h7, i7, h8, i8, h9, i9, h10, i10, h11, i11, h12, i12, h13, i13, G⟩ := id S
    go_wp2_with fail
    clear e0 e1 e2 e3 e4 e5 e6 e7 e8 e9 e10 e11 e12 e13 h0 i0 h1 i1 h2 i2 h3 i3 h4 i4 h5 i5 h6 i6 h7 i7 h8 i8 h9 i9 h10 i10 h11 i11 h12 i12 h13 i13 G
    go_at_call 37
    with_reducible refine (wakes4 _).mono ?_
    rintro e w56 ⟨rfl, g⟩
    replace S := S.step g
    have lg56 := g.size
    clear g l0 l1 l2 l3 l4 lS
    have l0 := S.ltc (g := w.heap.size) (o := 0) (x := .bool a0) (by simp)
    have l1 := S.ltc (g := w.heap.size + 1) (o := 0) (x := .bool a1) (by simp)
    have l2 := S.ltc (g := w29.heap.size) (o := 0) (x := .bool b28) (by simp)
    have l3 := S.ltc (g := w32.heap.size) (o := 0) (x := .slice p31 n31 c31) (by simp)
    have l4 := S.ltc (g := w53.heap.size) (o := 0) (x := .bool false) (by simp)
    have lS := S.size
    obtain ⟨e0, e1, e2, e3, e4, e5, e6, e7, e8, e9, e10, e11, e12, e13, h0, i0, h1, i1, h2, i2, h3, i3, h4, i4, h5, i5, h6, i6, h7, i7, h8, i8, h9, i9, h10, i10, h11, i11, h12, i12, h13, i13, G⟩ := id S
    go_wp2_with fail
    clear e0 e1 e2 e3 e4 e5 e6 e7 e8 e9 e10 e11 e12 e13 h0 i0 h1 i1 h2 i2 h3 i3 h4 i4 h5 i5 h6 i6 h7 i7 h8 i8 h9 i9 h10 i10 h11 i11 h12 i12 h13 i13 G
    go_ret
    exact ⟨rfl, S.all⟩

theorem walk {a0 a1 : Bool} {s0 s1 : Value} {xs0 xs1 : List Nat} {w : World} (hx0 : Sl w .u32 s0 xs0) (ax0 : All 4294967296 xs0) (hx1 : Sl w .u32 s1 xs1) (ax1 : All 4294967296 xs1) (i : Int) (i1 : -9223372036854775808 ≤ i) (i2 : i ≤ 9223372036854775807) (k : Int) (k1 : -9223372036854775808 ≤ k) (k2 : k ≤ 9223372036854775807) :
    Calls Tryz.prog 8 #[.agg #[.bool a0, s0], .agg #[.bool a1, s1], .int .i64 i, .int .i64 k] w (Bool_ w true) := by
  by_cases hk : k = 0
  · subst hk; exact walk_0 hx0 ax0 hx1 ax1 i i1 i2
  · exact walk_k hx0 ax0 hx1 ax1 i i1 i2 k k1 k2 hk
set_option maxRecDepth 100000 in
theorem lifted (os : Os) (started : os.Started) (H : Type) (enc : TypeId × Value → H) :
    ReturnsInHanded {} Tryz.checked os 8 .any (fun w args => (Rows.ratioMakesSpec.pre enc Tryz.prog Tryz.f8 [] false w args ∧ laidMetH Tryz.prog Rows.ratioMakesRow.laid w) ∧ sizedMet enc Tryz.prog Tryz.f8 (OpenSpec.ofChange Rows.ratioMakesSpec) false w args) (Rows.ratioMakesSpec.post enc Tryz.prog Tryz.f8 false true false false) := by
  refine returnsInHanded_of_change_and (C := Tryz.checked) (X := fun w _ => laidMetH Tryz.prog Rows.ratioMakesRow.laid w) (fun _ _ _ hh h => h.of_heap hh) Tryz.own started (by kernel_rfl) Tryz.func8
    (ChangeSpec.witness_at (enc := enc) (C := Tryz.checked) (os := os) (X := fun w _ => laidMetH Tryz.prog Rows.ratioMakesRow.laid w) false (World.laidAll Tryz.prog os Rows.ratioMakesRow.laid) #[.agg #[.bool false, .slice none 0 0], .agg #[.bool false, .slice none 0 0], .int .i64 0, .int .i64 0] 8 (World.laidAll_os _ _ _) (by kernel_rfl) (by kernel_rfl) (by kernel_rfl) (by kernel_rfl) (by kernel_rfl)
      (by rw [MakeChecks.laidMetH_plain _ _ _ (by kernel_rfl)]; exact laidMet_laidAll _ (by kernel_rfl) (by kernel_rfl))) ?_
  intro W base args ds gs before hval0 hW _ _ _ _
  have hval : ∀ (j : Nat) t v, Tryz.f8.params[j]? = some t → args[j]? = some v → Value.okWide Tryz.prog W .any base t v := hval0
  obtain ⟨p, q, hA0, hV, rfl, _, _⟩ := id hW
  have hA : DataW.TrodAll enc Tryz.prog W 0 (fun _ => true) true Tryz.f8.params.toList args.toList ds p := hA0
  rw [Tryz.params8] at hA hval
  obtain ⟨v0, vs0, d0, ds0, p0, q0, hargs, rfl, rfl, h0, r0⟩ := trodAll_cons hA
  obtain ⟨v1, vs1, d1, ds1, p1, q1, rfl, rfl, rfl, h1, r1⟩ := trodAll_cons r0
  obtain ⟨v2, vs2, d2, ds2, p2, q2, rfl, rfl, rfl, h2, r2⟩ := trodAll_cons r1
  obtain ⟨v3, vs3, d3, ds3, p3, q3, rfl, rfl, rfl, h3, r3⟩ := trodAll_cons r2
  obtain ⟨rfl, rfl, rfl⟩ := trodAll_nil r3
  obtain rfl : args = #[v0, v1, v2, v3] := by cases args; simp_all
  obtain ⟨b0, w0, xs0, rfl, s0, a0⟩ := int_of_trod h0 (hval 0 24 v0 rfl rfl)
  obtain ⟨b1, w1, xs1, rfl, s1, a1⟩ := int_of_trod h1 (hval 1 24 v1 rfl rfl)
  obtain ⟨n2, rfl, rfl, rfl, f2⟩ := open_int Tryz.underlying3 (hval 2 3 v2 rfl rfl) h2
  obtain ⟨n3, rfl, rfl, rfl, f3⟩ := open_int Tryz.underlying3 (hval 3 3 v3 rfl rfl) h3
  refine (walk s0 a0 s1 a1 n2 (wf_lo f2) (wf_hi f2) n3 (wf_lo f3) (wf_hi f3)).mono fun e W' ⟨he, hg⟩ => ?_
  subst he
  refine ⟨_, rfl, law_post Tryz.laidOut rfl (by kernel_rfl) Tryz.underlying4 ?_ ?_ hW hg⟩
  · rw [Tryz.params8]; decide +kernel
  · rw [Tryz.params8]
    intro ds h
    match ds, h with
    | [_, _, _, _], _ => rfl

theorem row_holds : Rows.RatioMakesSaid :=
  OpenClaim.holds_of_wide 8 Tryz.f8 rfl rfl rfl rfl rfl rfl rfl ⟨rfl, rfl, rfl, rfl, rfl⟩ rfl rfl rfl rfl rfl (by kernel_rfl) Tryz.func8 (by kernel_rfl)
    (of_decide_eq_true (by kernel_rfl)) (by unfold Func.isWrapper; first | (rw [if_pos (by decide +kernel)]; kernel_rfl) | (rw [if_neg (by decide +kernel)]; exact ⟨rfl, rfl⟩))
    (fun os started H enc _ => lifted os started H enc)
theorem holds : Rows.RatioMakesCardSaid :=
  Claim7.holds_tied_plain_at .later [] Rows.ratioMakesCard.laidKinds true Rows.ratioMakesCard.stood.harness true
    row_holds (fun _ h => by cases h) (by kernel_rfl) (fun _ h => by cases h) ratioMakes_row_tie rfl ⟨rfl, rfl⟩ (by kernel_rfl) rfl
    (fun f fn hf hfn => by
      obtain rfl : f = 8 := Option.some.inj ((show Tryz.prog.funcNamed "orrery/orrerylaw04.RatioMakes" = some 8 by kernel_rfl).symm.trans hf) |>.symm
      obtain rfl : fn = Tryz.f8 := (Option.some.inj (Tryz.func8.symm.trans hfn)).symm
      exact ⟨by kernel_rfl, fun j t ht => by rw [Tryz.params8] at ht; exact stand_no t (by rcases j with _ | _ | _ | _ | _ | j <;> simp at ht <;> simp [← ht])⟩)
    (by kernel_rfl)

end Go.Proofs.YtmkplojojaopmaaGreatDoor.rmakes
