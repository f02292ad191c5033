/- The reference's rationals: Quo, Make. -/
import Derived.Test.YtigkehblnlghkaaGreatRats
namespace Go.Proofs.YtigkehblnlghkaaGreat
open Go.RowKit

theorem decI_mk {w : World} {X k cap n : Nat} {p : Option Addr} {z : Int} {c : Bool} (b : Bool) (h : Dec w (.slice p n cap) X k) (hn : n = (dig 10000 X).length) (hz : z = sg b X) (hc : c = (b && decide (0 < n))) : DecI w (.agg #[.slice p n cap, .bool c]) z k := by
  subst hn hz hc
  refine ⟨p, cap, ?_, ?_⟩
  · rw [sg_neg, sg_abs, dig_some _ _ (by omega)]
  · rw [sg_abs]; exact h
theorem DecI.flag {w : World} {p : Option Addr} {n c k : Nat} {b : Bool} {z : Int} (h : DecI w (.agg #[.slice p n c, .bool b]) z k) : b = decide (z < 0) ∧ n = (dig 10000 z.natAbs).length := by
  obtain ⟨p', c', e, -⟩ := h
  simp only [Value.agg.injEq, Array.mk.injEq, List.cons.injEq, Value.bool.injEq, Value.slice.injEq, and_true] at e
  exact ⟨e.2, e.1.2.1⟩
/-- One digit, in memory. -/
def Cel (w : World) (blk off : Nat) (x : Int) : Prop := w.cell? ⟨blk, off, none⟩ = some (.int .i64 x)
theorem Cel.kp {w w' : World} {blk off : Nat} {x : Int} (h : Cel w blk off x) (g : Kp w w') : Cel w' blk off x := g.2 _ _ _ h
theorem dig_len_one {X : Nat} (h : (dig 10000 X).length = 1) : 0 < X ∧ X < 10000 := by
  have h1 := dig_lt_pow (b := 10000) (by omega) X
  rw [h] at h1
  refine ⟨?_, by omega⟩
  rcases Nat.eq_zero_or_pos X with rfl | h2
  · have := (dig_len_zero (b := 10000) (by omega) (n := 0)).2 rfl; omega
  · exact h2
theorem DecI.one {w : World} {p : Option Addr} {c k : Nat} {b : Bool} {z : Int} (h : DecI w (.agg #[.slice p 1 c, .bool b]) z k) : ∃ blk off, p = some ⟨blk, off, none⟩ ∧ Cel w blk off (z.natAbs : Nat) := by
  obtain ⟨-, hn⟩ := h.flag
  obtain ⟨p', c', e, h2⟩ := h
  simp only [Value.agg.injEq, Array.mk.injEq, List.cons.injEq, Value.bool.injEq, Value.slice.injEq, and_true] at e
  obtain ⟨⟨rfl, -, rfl⟩, -⟩ := e
  obtain ⟨q, c2, e2, -, -, h3⟩ := h2.1
  simp only [Value.slice.injEq, true_and] at e2
  obtain ⟨rfl, rfl⟩ := e2
  have hx := dig_len_one hn.symm
  rcases h3 with h3 | ⟨blk, off, rfl, -, h3⟩
  · rw [h3] at hn; cases hn
  · refine ⟨blk, off, rfl, ?_⟩
    have := h3 0 (by omega)
    rw [dig_small (by omega) hx.1 hx.2] at this
    exact this
theorem num_one (z : Int) : (Rat.divInt z 1).num = z := by rw [Rat.num_divInt]; simp
theorem den_one (z : Int) : ((Rat.divInt z 1).den : Int) = 1 := by rw [Rat.den_divInt]; simp
theorem byOf_pos {z y : Int} (h : 0 < y) : byOf z y = (Int.gcd z y : Int) := by rw [byOf, if_neg (by omega)]

set_option maxHeartbeats 4000000 in
set_option maxRecDepth 100000 in
theorem Quo_d {b b' : Bool} {p q : Option Addr} {n m cap cap' X Y i j : Nat} {w : World} (hx : Dec w (.slice p n cap) X i) (hy : Dec w (.slice q m cap') Y j) (hi : i + j ≤ 900000) (hY : 0 < Y) :
    Calls Tryz.prog 77 #[.agg #[.slice p n cap, .bool b], .agg #[.slice q m cap', .bool b']] w (GotD w (sg (b != b') (X / Y)) i) := by
  have Hx := Lib.hid hx
  have Hy := Lib.hid hy
  have S0 : Kept w [(w.heap.size + 1, 0, (.slice q m cap')), (w.heap.size + 1, 1, (.bool b')), (w.heap.size, 0, (.slice p n cap)), (w.heap.size, 1, (.bool b))] [w.heap.size + 1 + 1] (((w.alloc (.cells #[.slice p n cap, .bool b] 51)).alloc (.cells #[.slice q m cap', .bool b'] 51)).alloc (.cells #[.slice none 0 0, .bool false] 51)) := (((Kept.start w).box _ _ _ _ rfl).box _ _ _ _ (by simp)).res _ _ _ _ _ (by simp)
  clear hx hy
  go_enter Tryz.func77, Tryz.ntmps77
  go_wp2_with fail
  refine (DivD_n (Hx.out.grown (Kept.all _ _ S0)) (Hy.out.grown (Kept.all _ _ S0)) (by omega) hY).mono ?_
  rintro e w1 ⟨vq, vr, rfl, hq, hr, bq, br, hg⟩
  obtain ⟨pq, cq, rfl⟩ := hq.slice
  obtain ⟨pr, cr, rfl⟩ := hr.slice
  have Hq := Lib.hid hq
  have Bq := Lib.hid bq
  replace S0 := Kept.grown _ _ S0 hg
  have s2 := S0.lt (g := w.heap.size + 1 + 1) (by simp)
  clear hg hq hr bq br
  obtain ⟨l, hl⟩ : ∃ l, (dig 10000 (X / Y)).length = l := ⟨_, rfl⟩
  rw [hl] at Hq
  rw [hl]
  have Hl := Lib.hid hl
  clear hl
  obtain ⟨c0, c1, c2, c3, r0, r1, f0, f1, G⟩ := id S0
  go_wp2_with fail
  refine (made_any _ _ _ _ _).mono ?_
  rintro e w2 ⟨rfl, hg⟩
  replace S0 := Kept.grown _ _ S0 hg
  replace Hq := Lib.hid (Hq.out.grown hg (.inl rfl))
  clear hg c0 c1 c2 c3 r0 r1 f0 f1 G
  obtain ⟨c0, c1, c2, c3, r0, r1, f0, f1, G⟩ := id S0
  go_wp2_with fail
  have G2 := Kept.all _ _ (Kept.set (g := w.heap.size + 1 + 1) (u := .slice pq l cq) (v := .bool ((b != b') && decide (0 < l))) _ _ (by simp <;> omega) (by omega) S0)
  refine post_D Tryz.results77 rfl rfl (set2_fst r0) (set2_snd r1) (GotD.mk (decI_mk (b != b') (X := X / Y) ?_ Hl.out.symm rfl rfl) G2)
  exact ⟨(Hq.out.grown (set2_grown _ _ _ _) (own_ne Hq.out (by first | omega | (simp <;> omega)))).sl, Bq.out⟩
set_option maxHeartbeats 4000000 in
set_option maxRecDepth 100000 in
theorem Quo_h {v u : Value} {z y t : Int} {i j : Nat} {w : World} (hx : DecI w v z i) (hy : DecI w u y j) (hi : i + j ≤ 900000) (h0 : y ≠ 0) (hd : y ∣ z) (ht : z / y = t) :
    Calls Tryz.prog 77 #[v, u] w (GotD w t i) := by
  subst ht
  obtain ⟨b, p, n, cap, X, rfl, dx, rfl⟩ := hx.open
  obtain ⟨b', q, m, cap', Y, rfl, dy, rfl⟩ := hy.open
  have hY : Y ≠ 0 := by rintro rfl; exact h0 (by cases b' <;> rfl)
  have hR : X % Y = 0 := by
    have := Int.natAbs_dvd_natAbs.2 hd
    rw [sg_abs, sg_abs] at this
    exact Nat.mod_eq_zero_of_dvd this
  rw [(div_plain (b := b) (b' := b') hY (.inr hR)).1]
  exact Quo_d dx dy hi (Nat.pos_of_ne_zero hY)
set_option maxHeartbeats 4000000 in
set_option maxRecDepth 100000 in
theorem Make_zero_one {b0 b1 : Bool} {p0 p1 : Option Addr} {n0 c0 n1 c1 : Nat} {z y : Int} {i j : Nat} {w : World} (hz : DecI w (.agg #[.slice p0 n0 c0, .bool b0]) z i) (hy : DecI w (.agg #[.slice p1 n1 c1, .bool b1]) y j) (_hk : i + j ≤ 200000) (h0 : y = 0) :
    Calls Tryz.prog 26 #[.agg #[.slice p0 n0 c0, .bool b0], .agg #[.slice p1 n1 c1, .bool b1]] w (GotS w (qOf z y) (i + j + 2)) := by
  have Hz := Lib.hid hz
  have Hy := Lib.hid hy
  clear hz hy
  have Y0 := Lib.hid (decide_eq_true h0)
  clear h0
  have S : St w [] [] w := St.start w
  go_enter Tryz.func26, Tryz.ntmps26
  have G := S
  go_wp2_with fail
  clear G
  replace S : St w [(w.heap.size, 0, .slice p0 n0 c0), (w.heap.size, 1, .bool b0)] [] (w.alloc (.cells #[.slice p0 n0 c0, .bool b0] 51)) := S.box (w.heap.size) [.slice p0 n0 c0, .bool b0] 51 (by simp)
  replace S : St w [(w.heap.size + 1, 0, .slice p1 n1 c1), (w.heap.size + 1, 1, .bool b1), (w.heap.size, 0, .slice p0 n0 c0), (w.heap.size, 1, .bool b0)] [(w.heap.size + 1, 0), (w.heap.size + 1, 1)] ((w.alloc (.cells #[.slice p0 n0 c0, .bool b0] 51)).alloc (.cells #[.slice p1 n1 c1, .bool b1] 51)) := S.made (w.heap.size + 1) [.slice p1 n1 c1, .bool b1] 51 (by simp)
  replace S : St w [(w.heap.size + 1 + 1, 0, .slice none 0 0), (w.heap.size + 1 + 1, 1, .bool false), (w.heap.size + 1 + 1, 2, .slice none 0 0), (w.heap.size + 1 + 1, 3, .bool false), (w.heap.size + 1, 0, .slice p1 n1 c1), (w.heap.size + 1, 1, .bool b1), (w.heap.size, 0, .slice p0 n0 c0), (w.heap.size, 1, .bool b0)] [(w.heap.size + 1 + 1, 0), (w.heap.size + 1 + 1, 1), (w.heap.size + 1 + 1, 2), (w.heap.size + 1 + 1, 3), (w.heap.size + 1, 0), (w.heap.size + 1, 1)] (((w.alloc (.cells #[.slice p0 n0 c0, .bool b0] 51)).alloc (.cells #[.slice p1 n1 c1, .bool b1] 51)).alloc (.cells #[.slice none 0 0, .bool false, .slice none 0 0, .bool false] 53)) := S.made (w.heap.size + 1 + 1) [.slice none 0 0, .bool false, .slice none 0 0, .bool false] 53 (by simp)
  replace Hz := Lib.hid (Hz.out.kp (((Kp.of (grown_alloc w (.cells #[.slice p0 n0 c0, .bool b0] 51) none)).trans (Kp.of (grown_alloc ((w.alloc (.cells #[.slice p0 n0 c0, .bool b0] 51))) (.cells #[.slice p1 n1 c1, .bool b1] 51) none))).trans (Kp.of (grown_alloc (((w.alloc (.cells #[.slice p0 n0 c0, .bool b0] 51)).alloc (.cells #[.slice p1 n1 c1, .bool b1] 51))) (.cells #[.slice none 0 0, .bool false, .slice none 0 0, .bool false] 53) none))))
  replace Hy := Lib.hid (Hy.out.kp (((Kp.of (grown_alloc w (.cells #[.slice p0 n0 c0, .bool b0] 51) none)).trans (Kp.of (grown_alloc ((w.alloc (.cells #[.slice p0 n0 c0, .bool b0] 51))) (.cells #[.slice p1 n1 c1, .bool b1] 51) none))).trans (Kp.of (grown_alloc (((w.alloc (.cells #[.slice p0 n0 c0, .bool b0] 51)).alloc (.cells #[.slice p1 n1 c1, .bool b1] 51))) (.cells #[.slice none 0 0, .bool false, .slice none 0 0, .bool false] 53) none))))
  have sz10 : (((w.alloc (.cells #[.slice p0 n0 c0, .bool b0] 51)).alloc (.cells #[.slice p1 n1 c1, .bool b1] 51)).alloc (.cells #[.slice none 0 0, .bool false, .slice none 0 0, .bool false] 53)).heap.size = w.heap.size + 3 := by simp
  generalize (((w.alloc (.cells #[.slice p0 n0 c0, .bool b0] 51)).alloc (.cells #[.slice p1 n1 c1, .bool b1] 51)).alloc (.cells #[.slice none 0 0, .bool false, .slice none 0 0, .bool false] 53)) = W10 at *
  go_at_call 75
  with_reducible refine (Zero_h Hy.out Y0.out).mono ?_
  rintro e w11 ⟨rfl, g⟩
  replace Hz := Lib.hid (Hz.out.kp (Kp.of g))
  clear Hy
  replace S := S.step g
  have lg11 := g.size
  clear g
  have l0 := S.ltc (g := w.heap.size) (o := 0) (x := .slice p0 n0 c0) (by simp)
  have l1 := S.ltc (g := w.heap.size + 1) (o := 0) (x := .slice p1 n1 c1) (by simp)
  have l2 := S.ltc (g := w.heap.size + 1 + 1) (o := 0) (x := .slice none 0 0) (by simp)
  have lS := S.size
  obtain ⟨e0, e1, e2, e3, e4, e5, e6, e7, h0, i0, h1, i1, h2, i2, h3, i3, h4, i4, h5, i5, G⟩ := id S
  go_wp2_with fail
  clear e0 e1 e2 e3 e4 e5 e6 e7 h0 i0 h1 i1 h2 i2 h3 i3 h4 i4 h5 i5 G
  obtain ⟨z12, ez12⟩ : ∃ t : Int, (1 : Int) = t := ⟨_, rfl⟩
  have E12 := Lib.hid ez12
  clear ez12
  go_at_call 28
  with_reducible refine (Of_h 1 (by decide) (by decide) E12.out).mono ?_
  rintro e w13 ⟨p12, n12, c12, b12, rfl, h, g⟩
  replace Hz := Lib.hid (Hz.out.kp (Kp.of g))
  obtain ⟨e1, e2⟩ := h.flag
  rw [← E12.out] at e1 e2
  obtain rfl : b12 = false := e1
  obtain rfl : n12 = 1 := e2.trans (by decide +kernel)
  obtain ⟨blk, off, rfl, hc⟩ := h.one
  have C1 := Lib.hid (show Cel _ blk off 1 by rw [← E12.out] at hc; exact hc)
  clear hc e2
  have N12 := Lib.hid (h)
  have C1 := Lib.hid (C1.out)
  replace S := S.step g
  have lg13 := g.size
  clear g h l0 l1 l2 lS
  have l0 := S.ltc (g := w.heap.size) (o := 0) (x := .slice p0 n0 c0) (by simp)
  have l1 := S.ltc (g := w.heap.size + 1) (o := 0) (x := .slice p1 n1 c1) (by simp)
  have l2 := S.ltc (g := w.heap.size + 1 + 1) (o := 0) (x := .slice none 0 0) (by simp)
  have lS := S.size
  have Kc := Kp.set2 (g := w.heap.size + 1) (u := .slice (some ⟨blk, off, none⟩) 1 c12) (v := .bool false) (S.cell (g := w.heap.size + 1) (o := 0) (x := .slice p1 n1 c1) (by simp)) (S.cell (g := w.heap.size + 1) (o := 1) (x := .bool b1) (by simp)) (by simp) (by simp)
  have hcell := C1.out.kp Kc
  unfold Cel set2 at hcell
  clear Kc
  obtain ⟨e0, e1, e2, e3, e4, e5, e6, e7, h0, i0, h1, i1, h2, i2, h3, i3, h4, i4, h5, i5, G⟩ := id S
  go_wp2_with fail
  clear e0 e1 e2 e3 e4 e5 e6 e7 h0 i0 h1 i1 h2 i2 h3 i3 h4 i4 h5 i5 G hcell
  have K14 : Kp w13 (w13.setCell ⟨w.heap.size + 1, 0, none⟩ (.slice (some ⟨blk, off, none⟩) 1 c12)) := S.kp (g := w.heap.size + 1) (o := 0) (x := .slice p1 n1 c1) (.slice (some ⟨blk, off, none⟩) 1 c12) (by simp) (by simp)
  replace S : St w [(w.heap.size + 1, 0, .slice (some ⟨blk, off, none⟩) 1 c12), (w.heap.size + 1 + 1, 0, .slice none 0 0), (w.heap.size + 1 + 1, 1, .bool false), (w.heap.size + 1 + 1, 2, .slice none 0 0), (w.heap.size + 1 + 1, 3, .bool false), (w.heap.size + 1, 1, .bool b1), (w.heap.size, 0, .slice p0 n0 c0), (w.heap.size, 1, .bool b0)] [(w.heap.size + 1 + 1, 0), (w.heap.size + 1 + 1, 1), (w.heap.size + 1 + 1, 2), (w.heap.size + 1 + 1, 3), (w.heap.size + 1, 0), (w.heap.size + 1, 1)] (w13.setCell ⟨w.heap.size + 1, 0, none⟩ (.slice (some ⟨blk, off, none⟩) 1 c12)) := S.set (g := w.heap.size + 1) (o := 0) (.slice (some ⟨blk, off, none⟩) 1 c12) (by simp) (by simp <;> omega) (by omega)
  have K15 : Kp (w13.setCell ⟨w.heap.size + 1, 0, none⟩ (.slice (some ⟨blk, off, none⟩) 1 c12)) ((w13.setCell ⟨w.heap.size + 1, 0, none⟩ (.slice (some ⟨blk, off, none⟩) 1 c12)).setCell ⟨w.heap.size + 1, 1, none⟩ (.bool false)) := S.kp (g := w.heap.size + 1) (o := 1) (x := .bool b1) (.bool false) (by simp) (by simp)
  replace S : St w [(w.heap.size + 1, 1, .bool false), (w.heap.size + 1 + 1, 0, .slice none 0 0), (w.heap.size + 1 + 1, 1, .bool false), (w.heap.size + 1 + 1, 2, .slice none 0 0), (w.heap.size + 1 + 1, 3, .bool false), (w.heap.size + 1, 0, .slice (some ⟨blk, off, none⟩) 1 c12), (w.heap.size, 0, .slice p0 n0 c0), (w.heap.size, 1, .bool b0)] [(w.heap.size + 1 + 1, 0), (w.heap.size + 1 + 1, 1), (w.heap.size + 1 + 1, 2), (w.heap.size + 1 + 1, 3), (w.heap.size + 1, 0), (w.heap.size + 1, 1)] ((w13.setCell ⟨w.heap.size + 1, 0, none⟩ (.slice (some ⟨blk, off, none⟩) 1 c12)).setCell ⟨w.heap.size + 1, 1, none⟩ (.bool false)) := S.set (g := w.heap.size + 1) (o := 1) (.bool false) (by simp) (by simp <;> omega) (by omega)
  have K16 : Kp ((w13.setCell ⟨w.heap.size + 1, 0, none⟩ (.slice (some ⟨blk, off, none⟩) 1 c12)).setCell ⟨w.heap.size + 1, 1, none⟩ (.bool false)) (((w13.setCell ⟨w.heap.size + 1, 0, none⟩ (.slice (some ⟨blk, off, none⟩) 1 c12)).setCell ⟨w.heap.size + 1, 1, none⟩ (.bool false)).setCell ⟨w.heap.size + 1 + 1, 0, none⟩ (.slice p0 n0 c0)) := S.kp (g := w.heap.size + 1 + 1) (o := 0) (x := .slice none 0 0) (.slice p0 n0 c0) (by simp) (by simp)
  replace S : St w [(w.heap.size + 1 + 1, 0, .slice p0 n0 c0), (w.heap.size + 1 + 1, 1, .bool false), (w.heap.size + 1 + 1, 2, .slice none 0 0), (w.heap.size + 1 + 1, 3, .bool false), (w.heap.size + 1, 0, .slice (some ⟨blk, off, none⟩) 1 c12), (w.heap.size + 1, 1, .bool false), (w.heap.size, 0, .slice p0 n0 c0), (w.heap.size, 1, .bool b0)] [(w.heap.size + 1 + 1, 0), (w.heap.size + 1 + 1, 1), (w.heap.size + 1 + 1, 2), (w.heap.size + 1 + 1, 3), (w.heap.size + 1, 0), (w.heap.size + 1, 1)] (((w13.setCell ⟨w.heap.size + 1, 0, none⟩ (.slice (some ⟨blk, off, none⟩) 1 c12)).setCell ⟨w.heap.size + 1, 1, none⟩ (.bool false)).setCell ⟨w.heap.size + 1 + 1, 0, none⟩ (.slice p0 n0 c0)) := S.set (g := w.heap.size + 1 + 1) (o := 0) (.slice p0 n0 c0) (by simp) (by simp <;> omega) (by omega)
  have K17 : Kp (((w13.setCell ⟨w.heap.size + 1, 0, none⟩ (.slice (some ⟨blk, off, none⟩) 1 c12)).setCell ⟨w.heap.size + 1, 1, none⟩ (.bool false)).setCell ⟨w.heap.size + 1 + 1, 0, none⟩ (.slice p0 n0 c0)) ((((w13.setCell ⟨w.heap.size + 1, 0, none⟩ (.slice (some ⟨blk, off, none⟩) 1 c12)).setCell ⟨w.heap.size + 1, 1, none⟩ (.bool false)).setCell ⟨w.heap.size + 1 + 1, 0, none⟩ (.slice p0 n0 c0)).setCell ⟨w.heap.size + 1 + 1, 1, none⟩ (.bool b0)) := S.kp (g := w.heap.size + 1 + 1) (o := 1) (x := .bool false) (.bool b0) (by simp) (by simp)
  replace S : St w [(w.heap.size + 1 + 1, 1, .bool b0), (w.heap.size + 1 + 1, 0, .slice p0 n0 c0), (w.heap.size + 1 + 1, 2, .slice none 0 0), (w.heap.size + 1 + 1, 3, .bool false), (w.heap.size + 1, 0, .slice (some ⟨blk, off, none⟩) 1 c12), (w.heap.size + 1, 1, .bool false), (w.heap.size, 0, .slice p0 n0 c0), (w.heap.size, 1, .bool b0)] [(w.heap.size + 1 + 1, 0), (w.heap.size + 1 + 1, 1), (w.heap.size + 1 + 1, 2), (w.heap.size + 1 + 1, 3), (w.heap.size + 1, 0), (w.heap.size + 1, 1)] ((((w13.setCell ⟨w.heap.size + 1, 0, none⟩ (.slice (some ⟨blk, off, none⟩) 1 c12)).setCell ⟨w.heap.size + 1, 1, none⟩ (.bool false)).setCell ⟨w.heap.size + 1 + 1, 0, none⟩ (.slice p0 n0 c0)).setCell ⟨w.heap.size + 1 + 1, 1, none⟩ (.bool b0)) := S.set (g := w.heap.size + 1 + 1) (o := 1) (.bool b0) (by simp) (by simp <;> omega) (by omega)
  have K18 : Kp ((((w13.setCell ⟨w.heap.size + 1, 0, none⟩ (.slice (some ⟨blk, off, none⟩) 1 c12)).setCell ⟨w.heap.size + 1, 1, none⟩ (.bool false)).setCell ⟨w.heap.size + 1 + 1, 0, none⟩ (.slice p0 n0 c0)).setCell ⟨w.heap.size + 1 + 1, 1, none⟩ (.bool b0)) (((((w13.setCell ⟨w.heap.size + 1, 0, none⟩ (.slice (some ⟨blk, off, none⟩) 1 c12)).setCell ⟨w.heap.size + 1, 1, none⟩ (.bool false)).setCell ⟨w.heap.size + 1 + 1, 0, none⟩ (.slice p0 n0 c0)).setCell ⟨w.heap.size + 1 + 1, 1, none⟩ (.bool b0)).setCell ⟨w.heap.size + 1 + 1, 2, none⟩ (.slice (some ⟨blk, off, none⟩) 1 c12)) := S.kp (g := w.heap.size + 1 + 1) (o := 2) (x := .slice none 0 0) (.slice (some ⟨blk, off, none⟩) 1 c12) (by simp) (by simp)
  replace S : St w [(w.heap.size + 1 + 1, 2, .slice (some ⟨blk, off, none⟩) 1 c12), (w.heap.size + 1 + 1, 0, .slice p0 n0 c0), (w.heap.size + 1 + 1, 1, .bool b0), (w.heap.size + 1 + 1, 3, .bool false), (w.heap.size + 1, 0, .slice (some ⟨blk, off, none⟩) 1 c12), (w.heap.size + 1, 1, .bool false), (w.heap.size, 0, .slice p0 n0 c0), (w.heap.size, 1, .bool b0)] [(w.heap.size + 1 + 1, 0), (w.heap.size + 1 + 1, 1), (w.heap.size + 1 + 1, 2), (w.heap.size + 1 + 1, 3), (w.heap.size + 1, 0), (w.heap.size + 1, 1)] (((((w13.setCell ⟨w.heap.size + 1, 0, none⟩ (.slice (some ⟨blk, off, none⟩) 1 c12)).setCell ⟨w.heap.size + 1, 1, none⟩ (.bool false)).setCell ⟨w.heap.size + 1 + 1, 0, none⟩ (.slice p0 n0 c0)).setCell ⟨w.heap.size + 1 + 1, 1, none⟩ (.bool b0)).setCell ⟨w.heap.size + 1 + 1, 2, none⟩ (.slice (some ⟨blk, off, none⟩) 1 c12)) := S.set (g := w.heap.size + 1 + 1) (o := 2) (.slice (some ⟨blk, off, none⟩) 1 c12) (by simp) (by simp <;> omega) (by omega)
  have K19 : Kp (((((w13.setCell ⟨w.heap.size + 1, 0, none⟩ (.slice (some ⟨blk, off, none⟩) 1 c12)).setCell ⟨w.heap.size + 1, 1, none⟩ (.bool false)).setCell ⟨w.heap.size + 1 + 1, 0, none⟩ (.slice p0 n0 c0)).setCell ⟨w.heap.size + 1 + 1, 1, none⟩ (.bool b0)).setCell ⟨w.heap.size + 1 + 1, 2, none⟩ (.slice (some ⟨blk, off, none⟩) 1 c12)) ((((((w13.setCell ⟨w.heap.size + 1, 0, none⟩ (.slice (some ⟨blk, off, none⟩) 1 c12)).setCell ⟨w.heap.size + 1, 1, none⟩ (.bool false)).setCell ⟨w.heap.size + 1 + 1, 0, none⟩ (.slice p0 n0 c0)).setCell ⟨w.heap.size + 1 + 1, 1, none⟩ (.bool b0)).setCell ⟨w.heap.size + 1 + 1, 2, none⟩ (.slice (some ⟨blk, off, none⟩) 1 c12)).setCell ⟨w.heap.size + 1 + 1, 3, none⟩ (.bool false)) := S.kp (g := w.heap.size + 1 + 1) (o := 3) (x := .bool false) (.bool false) (by simp) (by simp)
  replace S : St w [(w.heap.size + 1 + 1, 3, .bool false), (w.heap.size + 1 + 1, 0, .slice p0 n0 c0), (w.heap.size + 1 + 1, 1, .bool b0), (w.heap.size + 1 + 1, 2, .slice (some ⟨blk, off, none⟩) 1 c12), (w.heap.size + 1, 0, .slice (some ⟨blk, off, none⟩) 1 c12), (w.heap.size + 1, 1, .bool false), (w.heap.size, 0, .slice p0 n0 c0), (w.heap.size, 1, .bool b0)] [(w.heap.size + 1 + 1, 0), (w.heap.size + 1 + 1, 1), (w.heap.size + 1 + 1, 2), (w.heap.size + 1 + 1, 3), (w.heap.size + 1, 0), (w.heap.size + 1, 1)] ((((((w13.setCell ⟨w.heap.size + 1, 0, none⟩ (.slice (some ⟨blk, off, none⟩) 1 c12)).setCell ⟨w.heap.size + 1, 1, none⟩ (.bool false)).setCell ⟨w.heap.size + 1 + 1, 0, none⟩ (.slice p0 n0 c0)).setCell ⟨w.heap.size + 1 + 1, 1, none⟩ (.bool b0)).setCell ⟨w.heap.size + 1 + 1, 2, none⟩ (.slice (some ⟨blk, off, none⟩) 1 c12)).setCell ⟨w.heap.size + 1 + 1, 3, none⟩ (.bool false)) := S.set (g := w.heap.size + 1 + 1) (o := 3) (.bool false) (by simp) (by simp <;> omega) (by omega)
  replace S : St w [(w.heap.size + 1 + 1, 0, .slice p0 n0 c0), (w.heap.size + 1 + 1, 1, .bool b0), (w.heap.size + 1 + 1, 2, .slice (some ⟨blk, off, none⟩) 1 c12), (w.heap.size + 1 + 1, 3, .bool false), (w.heap.size + 1, 0, .slice (some ⟨blk, off, none⟩) 1 c12), (w.heap.size + 1, 1, .bool false), (w.heap.size, 0, .slice p0 n0 c0), (w.heap.size, 1, .bool b0)] [(w.heap.size + 1 + 1, 0), (w.heap.size + 1 + 1, 1), (w.heap.size + 1 + 1, 2), (w.heap.size + 1 + 1, 3), (w.heap.size + 1, 0), (w.heap.size + 1, 1)] ((((((w13.setCell ⟨w.heap.size + 1, 0, none⟩ (.slice (some ⟨blk, off, none⟩) 1 c12)).setCell ⟨w.heap.size + 1, 1, none⟩ (.bool false)).setCell ⟨w.heap.size + 1 + 1, 0, none⟩ (.slice p0 n0 c0)).setCell ⟨w.heap.size + 1 + 1, 1, none⟩ (.bool b0)).setCell ⟨w.heap.size + 1 + 1, 2, none⟩ (.slice (some ⟨blk, off, none⟩) 1 c12)).setCell ⟨w.heap.size + 1 + 1, 3, none⟩ (.bool false)) := S.sub (by simp) (by simp)
  replace Hz := Lib.hid (Hz.out.kp (((((K14.trans K15).trans K16).trans K17).trans K18).trans K19))
  replace N12 := Lib.hid (N12.out.kp (((((K14.trans K15).trans K16).trans K17).trans K18).trans K19))
  clear C1 K14 K15 K16 K17 K18 K19
  have sz20 : ((((((w13.setCell ⟨w.heap.size + 1, 0, none⟩ (.slice (some ⟨blk, off, none⟩) 1 c12)).setCell ⟨w.heap.size + 1, 1, none⟩ (.bool false)).setCell ⟨w.heap.size + 1 + 1, 0, none⟩ (.slice p0 n0 c0)).setCell ⟨w.heap.size + 1 + 1, 1, none⟩ (.bool b0)).setCell ⟨w.heap.size + 1 + 1, 2, none⟩ (.slice (some ⟨blk, off, none⟩) 1 c12)).setCell ⟨w.heap.size + 1 + 1, 3, none⟩ (.bool false)).heap.size = w13.heap.size := by simp
  generalize ((((((w13.setCell ⟨w.heap.size + 1, 0, none⟩ (.slice (some ⟨blk, off, none⟩) 1 c12)).setCell ⟨w.heap.size + 1, 1, none⟩ (.bool false)).setCell ⟨w.heap.size + 1 + 1, 0, none⟩ (.slice p0 n0 c0)).setCell ⟨w.heap.size + 1 + 1, 1, none⟩ (.bool b0)).setCell ⟨w.heap.size + 1 + 1, 2, none⟩ (.slice (some ⟨blk, off, none⟩) 1 c12)).setCell ⟨w.heap.size + 1 + 1, 3, none⟩ (.bool false)) = W20 at *
  refine post_S Tryz.results26 rfl rfl (S.cell (g := w.heap.size + 1 + 1) (o := 0) (x := .slice p0 n0 c0) (by simp)) (S.cell (g := w.heap.size + 1 + 1) (o := 1) (x := .bool b0) (by simp)) (S.cell (g := w.heap.size + 1 + 1) (o := 2) (x := .slice (some ⟨blk, off, none⟩) 1 c12) (by simp)) (S.cell (g := w.heap.size + 1 + 1) (o := 3) (x := .bool false) (by simp)) ⟨_, _, _, _, _, _, _, _, rfl, ⟨_, _, _, _, _, _, _, _, rfl, (Hz.out.eqz (show z = _ by rw [(show qOf z y = Rat.divInt z 1 by rw [qOf, if_pos (of_decide_eq_true Y0.out)]), num_one])).more (by omega), (N12.out.eqz (show z12 = _ by rw [(show qOf z y = Rat.divInt z 1 by rw [qOf, if_pos (of_decide_eq_true Y0.out)]), den_one, ← E12.out])).more (by omega)⟩, S.all⟩

set_option maxHeartbeats 4000000 in
set_option maxRecDepth 100000 in
theorem Make_pos_one {b0 : Bool} {p0 : Option Addr} {n0 c0 c1 blk off : Nat} {z y : Int} {i j : Nat} {w : World} (hz : DecI w (.agg #[.slice p0 n0 c0, .bool b0]) z i) (hy : DecI w (.agg #[.slice (some ⟨blk, off, none⟩) 1 c1, .bool false]) y j) (_hk : i + j ≤ 200000) (h0 : 0 < y) (h1 : y.natAbs = 1) (hc : Cel w blk off (y.natAbs : Nat)) :
    Calls Tryz.prog 26 #[.agg #[.slice p0 n0 c0, .bool b0], .agg #[.slice (some ⟨blk, off, none⟩) 1 c1, .bool false]] w (GotS w (qOf z y) (i + j + 2)) := by
  have Hz := Lib.hid hz
  have Hy := Lib.hid hy
  clear hz hy
  have Y0 := Lib.hid (show decide (y = 0) = false from decide_eq_false (by omega))
  have Y1 := Lib.hid (show y = 1 by omega)
  have C1 := Lib.hid (show Cel w blk off 1 by rw [h1] at hc; exact hc)
  clear hc h1
  have S : St w [] [] w := St.start w
  go_enter Tryz.func26, Tryz.ntmps26
  have G := S
  go_wp2_with fail
  clear G
  replace S : St w [(w.heap.size, 0, .slice p0 n0 c0), (w.heap.size, 1, .bool b0)] [] (w.alloc (.cells #[.slice p0 n0 c0, .bool b0] 51)) := S.box (w.heap.size) [.slice p0 n0 c0, .bool b0] 51 (by simp)
  replace S : St w [(w.heap.size + 1, 0, .slice (some ⟨blk, off, none⟩) 1 c1), (w.heap.size + 1, 1, .bool false), (w.heap.size, 0, .slice p0 n0 c0), (w.heap.size, 1, .bool b0)] [] ((w.alloc (.cells #[.slice p0 n0 c0, .bool b0] 51)).alloc (.cells #[.slice (some ⟨blk, off, none⟩) 1 c1, .bool false] 51)) := S.box (w.heap.size + 1) [.slice (some ⟨blk, off, none⟩) 1 c1, .bool false] 51 (by simp)
  replace S : St w [(w.heap.size + 1 + 1, 0, .slice none 0 0), (w.heap.size + 1 + 1, 1, .bool false), (w.heap.size + 1 + 1, 2, .slice none 0 0), (w.heap.size + 1 + 1, 3, .bool false), (w.heap.size + 1, 0, .slice (some ⟨blk, off, none⟩) 1 c1), (w.heap.size + 1, 1, .bool false), (w.heap.size, 0, .slice p0 n0 c0), (w.heap.size, 1, .bool b0)] [(w.heap.size + 1 + 1, 0), (w.heap.size + 1 + 1, 1), (w.heap.size + 1 + 1, 2), (w.heap.size + 1 + 1, 3)] (((w.alloc (.cells #[.slice p0 n0 c0, .bool b0] 51)).alloc (.cells #[.slice (some ⟨blk, off, none⟩) 1 c1, .bool false] 51)).alloc (.cells #[.slice none 0 0, .bool false, .slice none 0 0, .bool false] 53)) := S.made (w.heap.size + 1 + 1) [.slice none 0 0, .bool false, .slice none 0 0, .bool false] 53 (by simp)
  replace Hz := Lib.hid (Hz.out.kp (((Kp.of (grown_alloc w (.cells #[.slice p0 n0 c0, .bool b0] 51) none)).trans (Kp.of (grown_alloc ((w.alloc (.cells #[.slice p0 n0 c0, .bool b0] 51))) (.cells #[.slice (some ⟨blk, off, none⟩) 1 c1, .bool false] 51) none))).trans (Kp.of (grown_alloc (((w.alloc (.cells #[.slice p0 n0 c0, .bool b0] 51)).alloc (.cells #[.slice (some ⟨blk, off, none⟩) 1 c1, .bool false] 51))) (.cells #[.slice none 0 0, .bool false, .slice none 0 0, .bool false] 53) none))))
  replace Hy := Lib.hid (Hy.out.kp (((Kp.of (grown_alloc w (.cells #[.slice p0 n0 c0, .bool b0] 51) none)).trans (Kp.of (grown_alloc ((w.alloc (.cells #[.slice p0 n0 c0, .bool b0] 51))) (.cells #[.slice (some ⟨blk, off, none⟩) 1 c1, .bool false] 51) none))).trans (Kp.of (grown_alloc (((w.alloc (.cells #[.slice p0 n0 c0, .bool b0] 51)).alloc (.cells #[.slice (some ⟨blk, off, none⟩) 1 c1, .bool false] 51))) (.cells #[.slice none 0 0, .bool false, .slice none 0 0, .bool false] 53) none))))
  replace C1 := Lib.hid (C1.out.kp (((Kp.of (grown_alloc w (.cells #[.slice p0 n0 c0, .bool b0] 51) none)).trans (Kp.of (grown_alloc ((w.alloc (.cells #[.slice p0 n0 c0, .bool b0] 51))) (.cells #[.slice (some ⟨blk, off, none⟩) 1 c1, .bool false] 51) none))).trans (Kp.of (grown_alloc (((w.alloc (.cells #[.slice p0 n0 c0, .bool b0] 51)).alloc (.cells #[.slice (some ⟨blk, off, none⟩) 1 c1, .bool false] 51))) (.cells #[.slice none 0 0, .bool false, .slice none 0 0, .bool false] 53) none))))
  have sz10 : (((w.alloc (.cells #[.slice p0 n0 c0, .bool b0] 51)).alloc (.cells #[.slice (some ⟨blk, off, none⟩) 1 c1, .bool false] 51)).alloc (.cells #[.slice none 0 0, .bool false, .slice none 0 0, .bool false] 53)).heap.size = w.heap.size + 3 := by simp
  generalize (((w.alloc (.cells #[.slice p0 n0 c0, .bool b0] 51)).alloc (.cells #[.slice (some ⟨blk, off, none⟩) 1 c1, .bool false] 51)).alloc (.cells #[.slice none 0 0, .bool false, .slice none 0 0, .bool false] 53)) = W10 at *
  go_at_call 75
  with_reducible refine (Zero_h Hy.out Y0.out).mono ?_
  rintro e w11 ⟨rfl, g⟩
  replace Hz := Lib.hid (Hz.out.kp (Kp.of g))
  replace Hy := Lib.hid (Hy.out.kp (Kp.of g))
  replace C1 := Lib.hid (C1.out.kp (Kp.of g))
  replace S := S.step g
  have lg11 := g.size
  clear g
  have l0 := S.ltc (g := w.heap.size) (o := 0) (x := .slice p0 n0 c0) (by simp)
  have l1 := S.ltc (g := w.heap.size + 1) (o := 0) (x := .slice (some ⟨blk, off, none⟩) 1 c1) (by simp)
  have l2 := S.ltc (g := w.heap.size + 1 + 1) (o := 0) (x := .slice none 0 0) (by simp)
  have lS := S.size
  have hcell := C1.out
  unfold Cel at hcell
  obtain ⟨e0, e1, e2, e3, e4, e5, e6, e7, h0, i0, h1, i1, h2, i2, h3, i3, G⟩ := id S
  go_wp2_with fail
  clear e0 e1 e2 e3 e4 e5 e6 e7 h0 i0 h1 i1 h2 i2 h3 i3 G hcell
  have K12 : Kp w11 (w11.setCell ⟨w.heap.size + 1 + 1, 0, none⟩ (.slice p0 n0 c0)) := S.kp (g := w.heap.size + 1 + 1) (o := 0) (x := .slice none 0 0) (.slice p0 n0 c0) (by simp) (by simp)
  replace S : St w [(w.heap.size + 1 + 1, 0, .slice p0 n0 c0), (w.heap.size + 1 + 1, 1, .bool false), (w.heap.size + 1 + 1, 2, .slice none 0 0), (w.heap.size + 1 + 1, 3, .bool false), (w.heap.size + 1, 0, .slice (some ⟨blk, off, none⟩) 1 c1), (w.heap.size + 1, 1, .bool false), (w.heap.size, 0, .slice p0 n0 c0), (w.heap.size, 1, .bool b0)] [(w.heap.size + 1 + 1, 0), (w.heap.size + 1 + 1, 1), (w.heap.size + 1 + 1, 2), (w.heap.size + 1 + 1, 3)] (w11.setCell ⟨w.heap.size + 1 + 1, 0, none⟩ (.slice p0 n0 c0)) := S.set (g := w.heap.size + 1 + 1) (o := 0) (.slice p0 n0 c0) (by simp) (by simp <;> omega) (by omega)
  have K13 : Kp (w11.setCell ⟨w.heap.size + 1 + 1, 0, none⟩ (.slice p0 n0 c0)) ((w11.setCell ⟨w.heap.size + 1 + 1, 0, none⟩ (.slice p0 n0 c0)).setCell ⟨w.heap.size + 1 + 1, 1, none⟩ (.bool b0)) := S.kp (g := w.heap.size + 1 + 1) (o := 1) (x := .bool false) (.bool b0) (by simp) (by simp)
  replace S : St w [(w.heap.size + 1 + 1, 1, .bool b0), (w.heap.size + 1 + 1, 0, .slice p0 n0 c0), (w.heap.size + 1 + 1, 2, .slice none 0 0), (w.heap.size + 1 + 1, 3, .bool false), (w.heap.size + 1, 0, .slice (some ⟨blk, off, none⟩) 1 c1), (w.heap.size + 1, 1, .bool false), (w.heap.size, 0, .slice p0 n0 c0), (w.heap.size, 1, .bool b0)] [(w.heap.size + 1 + 1, 0), (w.heap.size + 1 + 1, 1), (w.heap.size + 1 + 1, 2), (w.heap.size + 1 + 1, 3)] ((w11.setCell ⟨w.heap.size + 1 + 1, 0, none⟩ (.slice p0 n0 c0)).setCell ⟨w.heap.size + 1 + 1, 1, none⟩ (.bool b0)) := S.set (g := w.heap.size + 1 + 1) (o := 1) (.bool b0) (by simp) (by simp <;> omega) (by omega)
  have K14 : Kp ((w11.setCell ⟨w.heap.size + 1 + 1, 0, none⟩ (.slice p0 n0 c0)).setCell ⟨w.heap.size + 1 + 1, 1, none⟩ (.bool b0)) (((w11.setCell ⟨w.heap.size + 1 + 1, 0, none⟩ (.slice p0 n0 c0)).setCell ⟨w.heap.size + 1 + 1, 1, none⟩ (.bool b0)).setCell ⟨w.heap.size + 1 + 1, 2, none⟩ (.slice (some ⟨blk, off, none⟩) 1 c1)) := S.kp (g := w.heap.size + 1 + 1) (o := 2) (x := .slice none 0 0) (.slice (some ⟨blk, off, none⟩) 1 c1) (by simp) (by simp)
  replace S : St w [(w.heap.size + 1 + 1, 2, .slice (some ⟨blk, off, none⟩) 1 c1), (w.heap.size + 1 + 1, 0, .slice p0 n0 c0), (w.heap.size + 1 + 1, 1, .bool b0), (w.heap.size + 1 + 1, 3, .bool false), (w.heap.size + 1, 0, .slice (some ⟨blk, off, none⟩) 1 c1), (w.heap.size + 1, 1, .bool false), (w.heap.size, 0, .slice p0 n0 c0), (w.heap.size, 1, .bool b0)] [(w.heap.size + 1 + 1, 0), (w.heap.size + 1 + 1, 1), (w.heap.size + 1 + 1, 2), (w.heap.size + 1 + 1, 3)] (((w11.setCell ⟨w.heap.size + 1 + 1, 0, none⟩ (.slice p0 n0 c0)).setCell ⟨w.heap.size + 1 + 1, 1, none⟩ (.bool b0)).setCell ⟨w.heap.size + 1 + 1, 2, none⟩ (.slice (some ⟨blk, off, none⟩) 1 c1)) := S.set (g := w.heap.size + 1 + 1) (o := 2) (.slice (some ⟨blk, off, none⟩) 1 c1) (by simp) (by simp <;> omega) (by omega)
  have K15 : Kp (((w11.setCell ⟨w.heap.size + 1 + 1, 0, none⟩ (.slice p0 n0 c0)).setCell ⟨w.heap.size + 1 + 1, 1, none⟩ (.bool b0)).setCell ⟨w.heap.size + 1 + 1, 2, none⟩ (.slice (some ⟨blk, off, none⟩) 1 c1)) ((((w11.setCell ⟨w.heap.size + 1 + 1, 0, none⟩ (.slice p0 n0 c0)).setCell ⟨w.heap.size + 1 + 1, 1, none⟩ (.bool b0)).setCell ⟨w.heap.size + 1 + 1, 2, none⟩ (.slice (some ⟨blk, off, none⟩) 1 c1)).setCell ⟨w.heap.size + 1 + 1, 3, none⟩ (.bool false)) := S.kp (g := w.heap.size + 1 + 1) (o := 3) (x := .bool false) (.bool false) (by simp) (by simp)
  replace S : St w [(w.heap.size + 1 + 1, 3, .bool false), (w.heap.size + 1 + 1, 0, .slice p0 n0 c0), (w.heap.size + 1 + 1, 1, .bool b0), (w.heap.size + 1 + 1, 2, .slice (some ⟨blk, off, none⟩) 1 c1), (w.heap.size + 1, 0, .slice (some ⟨blk, off, none⟩) 1 c1), (w.heap.size + 1, 1, .bool false), (w.heap.size, 0, .slice p0 n0 c0), (w.heap.size, 1, .bool b0)] [(w.heap.size + 1 + 1, 0), (w.heap.size + 1 + 1, 1), (w.heap.size + 1 + 1, 2), (w.heap.size + 1 + 1, 3)] ((((w11.setCell ⟨w.heap.size + 1 + 1, 0, none⟩ (.slice p0 n0 c0)).setCell ⟨w.heap.size + 1 + 1, 1, none⟩ (.bool b0)).setCell ⟨w.heap.size + 1 + 1, 2, none⟩ (.slice (some ⟨blk, off, none⟩) 1 c1)).setCell ⟨w.heap.size + 1 + 1, 3, none⟩ (.bool false)) := S.set (g := w.heap.size + 1 + 1) (o := 3) (.bool false) (by simp) (by simp <;> omega) (by omega)
  replace S : St w [(w.heap.size + 1 + 1, 0, .slice p0 n0 c0), (w.heap.size + 1 + 1, 1, .bool b0), (w.heap.size + 1 + 1, 2, .slice (some ⟨blk, off, none⟩) 1 c1), (w.heap.size + 1 + 1, 3, .bool false), (w.heap.size + 1, 0, .slice (some ⟨blk, off, none⟩) 1 c1), (w.heap.size + 1, 1, .bool false), (w.heap.size, 0, .slice p0 n0 c0), (w.heap.size, 1, .bool b0)] [(w.heap.size + 1 + 1, 0), (w.heap.size + 1 + 1, 1), (w.heap.size + 1 + 1, 2), (w.heap.size + 1 + 1, 3)] ((((w11.setCell ⟨w.heap.size + 1 + 1, 0, none⟩ (.slice p0 n0 c0)).setCell ⟨w.heap.size + 1 + 1, 1, none⟩ (.bool b0)).setCell ⟨w.heap.size + 1 + 1, 2, none⟩ (.slice (some ⟨blk, off, none⟩) 1 c1)).setCell ⟨w.heap.size + 1 + 1, 3, none⟩ (.bool false)) := S.sub (by simp) (by simp)
  replace Hz := Lib.hid (Hz.out.kp (((K12.trans K13).trans K14).trans K15))
  replace Hy := Lib.hid (Hy.out.kp (((K12.trans K13).trans K14).trans K15))
  clear C1 K12 K13 K14 K15
  have sz16 : ((((w11.setCell ⟨w.heap.size + 1 + 1, 0, none⟩ (.slice p0 n0 c0)).setCell ⟨w.heap.size + 1 + 1, 1, none⟩ (.bool b0)).setCell ⟨w.heap.size + 1 + 1, 2, none⟩ (.slice (some ⟨blk, off, none⟩) 1 c1)).setCell ⟨w.heap.size + 1 + 1, 3, none⟩ (.bool false)).heap.size = w11.heap.size := by simp
  generalize ((((w11.setCell ⟨w.heap.size + 1 + 1, 0, none⟩ (.slice p0 n0 c0)).setCell ⟨w.heap.size + 1 + 1, 1, none⟩ (.bool b0)).setCell ⟨w.heap.size + 1 + 1, 2, none⟩ (.slice (some ⟨blk, off, none⟩) 1 c1)).setCell ⟨w.heap.size + 1 + 1, 3, none⟩ (.bool false)) = W16 at *
  refine post_S Tryz.results26 rfl rfl (S.cell (g := w.heap.size + 1 + 1) (o := 0) (x := .slice p0 n0 c0) (by simp)) (S.cell (g := w.heap.size + 1 + 1) (o := 1) (x := .bool b0) (by simp)) (S.cell (g := w.heap.size + 1 + 1) (o := 2) (x := .slice (some ⟨blk, off, none⟩) 1 c1) (by simp)) (S.cell (g := w.heap.size + 1 + 1) (o := 3) (x := .bool false) (by simp)) ⟨_, _, _, _, _, _, _, _, rfl, ⟨_, _, _, _, _, _, _, _, rfl, (Hz.out.eqz (show z = _ by rw [(show qOf z y = Rat.divInt z 1 by rw [qOf_ne (of_decide_eq_false Y0.out), Y1.out]), num_one])).more (by omega), (Hy.out.eqz (show y = _ by rw [(show qOf z y = Rat.divInt z 1 by rw [qOf_ne (of_decide_eq_false Y0.out), Y1.out]), den_one, Y1.out])).more (by omega)⟩, S.all⟩

set_option maxHeartbeats 4000000 in
set_option maxRecDepth 100000 in
theorem Make_pos_digit {b0 : Bool} {p0 : Option Addr} {n0 c0 c1 blk off : Nat} {z y : Int} {i j : Nat} {w : World} (hz : DecI w (.agg #[.slice p0 n0 c0, .bool b0]) z i) (hy : DecI w (.agg #[.slice (some ⟨blk, off, none⟩) 1 c1, .bool false]) y j) (hk : i + j ≤ 200000) (h0 : 0 < y) (h1 : y.natAbs ≠ 1) (hc : Cel w blk off (y.natAbs : Nat)) :
    Calls Tryz.prog 26 #[.agg #[.slice p0 n0 c0, .bool b0], .agg #[.slice (some ⟨blk, off, none⟩) 1 c1, .bool false]] w (GotS w (qOf z y) (i + j + 2)) := by
  have Hz := Lib.hid hz
  have Hy := Lib.hid hy
  clear hz hy
  have Y0 := Lib.hid (show decide (y = 0) = false from decide_eq_false (by omega))
  obtain ⟨m, hm⟩ : ∃ m, y.natAbs = m := ⟨_, rfl⟩
  have t5 : ((m : Int) == 1) = false := beq_eq_false_iff_ne.2 (by omega)
  have M1 := Lib.hid hm
  rw [hm] at hc
  clear hm h1
  have C1 := Lib.hid hc
  clear hc
  have S : St w [] [] w := St.start w
  go_enter Tryz.func26, Tryz.ntmps26
  have G := S
  go_wp2_with fail
  clear G
  replace S : St w [(w.heap.size, 0, .slice p0 n0 c0), (w.heap.size, 1, .bool b0)] [] (w.alloc (.cells #[.slice p0 n0 c0, .bool b0] 51)) := S.box (w.heap.size) [.slice p0 n0 c0, .bool b0] 51 (by simp)
  replace S : St w [(w.heap.size + 1, 0, .slice (some ⟨blk, off, none⟩) 1 c1), (w.heap.size + 1, 1, .bool false), (w.heap.size, 0, .slice p0 n0 c0), (w.heap.size, 1, .bool b0)] [] ((w.alloc (.cells #[.slice p0 n0 c0, .bool b0] 51)).alloc (.cells #[.slice (some ⟨blk, off, none⟩) 1 c1, .bool false] 51)) := S.box (w.heap.size + 1) [.slice (some ⟨blk, off, none⟩) 1 c1, .bool false] 51 (by simp)
  replace S : St w [(w.heap.size + 1 + 1, 0, .slice none 0 0), (w.heap.size + 1 + 1, 1, .bool false), (w.heap.size + 1 + 1, 2, .slice none 0 0), (w.heap.size + 1 + 1, 3, .bool false), (w.heap.size + 1, 0, .slice (some ⟨blk, off, none⟩) 1 c1), (w.heap.size + 1, 1, .bool false), (w.heap.size, 0, .slice p0 n0 c0), (w.heap.size, 1, .bool b0)] [(w.heap.size + 1 + 1, 0), (w.heap.size + 1 + 1, 1), (w.heap.size + 1 + 1, 2), (w.heap.size + 1 + 1, 3)] (((w.alloc (.cells #[.slice p0 n0 c0, .bool b0] 51)).alloc (.cells #[.slice (some ⟨blk, off, none⟩) 1 c1, .bool false] 51)).alloc (.cells #[.slice none 0 0, .bool false, .slice none 0 0, .bool false] 53)) := S.made (w.heap.size + 1 + 1) [.slice none 0 0, .bool false, .slice none 0 0, .bool false] 53 (by simp)
  replace Hz := Lib.hid (Hz.out.kp (((Kp.of (grown_alloc w (.cells #[.slice p0 n0 c0, .bool b0] 51) none)).trans (Kp.of (grown_alloc ((w.alloc (.cells #[.slice p0 n0 c0, .bool b0] 51))) (.cells #[.slice (some ⟨blk, off, none⟩) 1 c1, .bool false] 51) none))).trans (Kp.of (grown_alloc (((w.alloc (.cells #[.slice p0 n0 c0, .bool b0] 51)).alloc (.cells #[.slice (some ⟨blk, off, none⟩) 1 c1, .bool false] 51))) (.cells #[.slice none 0 0, .bool false, .slice none 0 0, .bool false] 53) none))))
  replace Hy := Lib.hid (Hy.out.kp (((Kp.of (grown_alloc w (.cells #[.slice p0 n0 c0, .bool b0] 51) none)).trans (Kp.of (grown_alloc ((w.alloc (.cells #[.slice p0 n0 c0, .bool b0] 51))) (.cells #[.slice (some ⟨blk, off, none⟩) 1 c1, .bool false] 51) none))).trans (Kp.of (grown_alloc (((w.alloc (.cells #[.slice p0 n0 c0, .bool b0] 51)).alloc (.cells #[.slice (some ⟨blk, off, none⟩) 1 c1, .bool false] 51))) (.cells #[.slice none 0 0, .bool false, .slice none 0 0, .bool false] 53) none))))
  replace C1 := Lib.hid (C1.out.kp (((Kp.of (grown_alloc w (.cells #[.slice p0 n0 c0, .bool b0] 51) none)).trans (Kp.of (grown_alloc ((w.alloc (.cells #[.slice p0 n0 c0, .bool b0] 51))) (.cells #[.slice (some ⟨blk, off, none⟩) 1 c1, .bool false] 51) none))).trans (Kp.of (grown_alloc (((w.alloc (.cells #[.slice p0 n0 c0, .bool b0] 51)).alloc (.cells #[.slice (some ⟨blk, off, none⟩) 1 c1, .bool false] 51))) (.cells #[.slice none 0 0, .bool false, .slice none 0 0, .bool false] 53) none))))
  have sz10 : (((w.alloc (.cells #[.slice p0 n0 c0, .bool b0] 51)).alloc (.cells #[.slice (some ⟨blk, off, none⟩) 1 c1, .bool false] 51)).alloc (.cells #[.slice none 0 0, .bool false, .slice none 0 0, .bool false] 53)).heap.size = w.heap.size + 3 := by simp
  generalize (((w.alloc (.cells #[.slice p0 n0 c0, .bool b0] 51)).alloc (.cells #[.slice (some ⟨blk, off, none⟩) 1 c1, .bool false] 51)).alloc (.cells #[.slice none 0 0, .bool false, .slice none 0 0, .bool false] 53)) = W10 at *
  go_at_call 75
  with_reducible refine (Zero_h Hy.out Y0.out).mono ?_
  rintro e w11 ⟨rfl, g⟩
  replace Hz := Lib.hid (Hz.out.kp (Kp.of g))
  replace Hy := Lib.hid (Hy.out.kp (Kp.of g))
  replace C1 := Lib.hid (C1.out.kp (Kp.of g))
  replace S := S.step g
  have lg11 := g.size
  clear g
  have l0 := S.ltc (g := w.heap.size) (o := 0) (x := .slice p0 n0 c0) (by simp)
  have l1 := S.ltc (g := w.heap.size + 1) (o := 0) (x := .slice (some ⟨blk, off, none⟩) 1 c1) (by simp)
  have l2 := S.ltc (g := w.heap.size + 1 + 1) (o := 0) (x := .slice none 0 0) (by simp)
  have lS := S.size
  have hcell := C1.out
  unfold Cel at hcell
  obtain ⟨e0, e1, e2, e3, e4, e5, e6, e7, h0, i0, h1, i1, h2, i2, h3, i3, G⟩ := id S
  go_wp2_with fail
  clear e0 e1 e2 e3 e4 e5 e6 e7 h0 i0 h1 i1 h2 i2 h3 i3 G hcell
  obtain ⟨z12, ez12⟩ : ∃ t : Int, (Int.gcd z y : Int) = t := ⟨_, rfl⟩
  have E12 := Lib.hid ez12
  clear ez12
  go_at_call 30
  with_reducible refine (Gcd_h ((i + j + 2)) Hz.out Hy.out (by omega) (by omega) (by omega) E12.out).mono ?_
  rintro e w13 ⟨p12, n12, c12, b12, rfl, h, g⟩
  replace Hz := Lib.hid (Hz.out.kp (Kp.of g))
  replace Hy := Lib.hid (Hy.out.kp (Kp.of g))
  clear C1
  have N12 := Lib.hid (h)
  replace S := S.step g
  have lg13 := g.size
  clear g h l0 l1 l2 lS
  have l0 := S.ltc (g := w.heap.size) (o := 0) (x := .slice p0 n0 c0) (by simp)
  have l1 := S.ltc (g := w.heap.size + 1) (o := 0) (x := .slice (some ⟨blk, off, none⟩) 1 c1) (by simp)
  have l2 := S.ltc (g := w.heap.size + 1 + 1) (o := 0) (x := .slice none 0 0) (by simp)
  have lS := S.size
  obtain ⟨e0, e1, e2, e3, e4, e5, e6, e7, h0, i0, h1, i1, h2, i2, h3, i3, G⟩ := id S
  go_wp2_with fail
  clear e0 e1 e2 e3 e4 e5 e6 e7 h0 i0 h1 i1 h2 i2 h3 i3 G
  replace S : St w [(w13.heap.size, 0, .slice p12 n12 c12), (w13.heap.size, 1, .bool b12), (w.heap.size + 1 + 1, 0, .slice none 0 0), (w.heap.size + 1 + 1, 1, .bool false), (w.heap.size + 1 + 1, 2, .slice none 0 0), (w.heap.size + 1 + 1, 3, .bool false), (w.heap.size + 1, 0, .slice (some ⟨blk, off, none⟩) 1 c1), (w.heap.size + 1, 1, .bool false), (w.heap.size, 0, .slice p0 n0 c0), (w.heap.size, 1, .bool b0)] [(w13.heap.size, 0), (w13.heap.size, 1), (w.heap.size + 1 + 1, 0), (w.heap.size + 1 + 1, 1), (w.heap.size + 1 + 1, 2), (w.heap.size + 1 + 1, 3)] (w13.alloc (.cells #[.slice p12 n12 c12, .bool b12] 51)) := S.made (w13.heap.size) [.slice p12 n12 c12, .bool b12] 51 (by simp)
  replace Hz := Lib.hid (Hz.out.kp (Kp.of (grown_alloc w13 (.cells #[.slice p12 n12 c12, .bool b12] 51) none)))
  replace Hy := Lib.hid (Hy.out.kp (Kp.of (grown_alloc w13 (.cells #[.slice p12 n12 c12, .bool b12] 51) none)))
  replace N12 := Lib.hid (N12.out.kp (Kp.of (grown_alloc w13 (.cells #[.slice p12 n12 c12, .bool b12] 51) none)))
  have sz14 : (w13.alloc (.cells #[.slice p12 n12 c12, .bool b12] 51)).heap.size = w13.heap.size + 1 := by simp
  generalize (w13.alloc (.cells #[.slice p12 n12 c12, .bool b12] 51)) = W14 at *
  have T0 : Cl [(w.heap.size, 0, .slice p0 n0 c0), (w.heap.size, 1, .bool b0), (w13.heap.size, 0, .slice p12 n12 c12), (w13.heap.size, 1, .bool b12), (w.heap.size + 1, 0, .slice (some ⟨blk, off, none⟩) 1 c1), (w.heap.size + 1, 1, .bool false)] W14 := S.cl (by simp)
  refine wp_region_noPanic ?_
  refine wp_region_held_drew (S := fun w' => w'.cell? ⟨w.heap.size, 0, none⟩ = some (.slice p0 n0 c0) ∧ w'.cell? ⟨w.heap.size, 1, none⟩ = some (.bool b0) ∧ w'.cell? ⟨w13.heap.size, 0, none⟩ = some (.slice p12 n12 c12) ∧ w'.cell? ⟨w13.heap.size, 1, none⟩ = some (.bool b12) ∧ w'.cell? ⟨w.heap.size + 1, 0, none⟩ = some (.slice (some ⟨blk, off, none⟩) 1 c1) ∧ w'.cell? ⟨w.heap.size + 1, 1, none⟩ = some (.bool false) ∧ True) (by kernel_rfl) (by exact Cl.step (cs := [(w.heap.size, 0, .slice p0 n0 c0), (w.heap.size, 1, .bool b0), (w13.heap.size, 0, .slice p12 n12 c12), (w13.heap.size, 1, .bool b12), (w.heap.size + 1, 0, .slice (some ⟨blk, off, none⟩) 1 c1), (w.heap.size + 1, 1, .bool false)]) (grown_drew _ _) T0) (fun hHeld => ?_)
  change wpAnyH _ _ _ _ _ 8 #[false, false, false, false, false, false, false, false] _ _
  replace S := S.step (grown_drew W14 none)
  replace Hz := Lib.hid (Hz.out.kp (Kp.of (grown_drew W14 none)))
  replace Hy := Lib.hid (Hy.out.kp (Kp.of (grown_drew W14 none)))
  replace N12 := Lib.hid (N12.out.kp (Kp.of (grown_drew W14 none)))
  have lg15 := (grown_drew W14 none).size
  clear T0
  generalize W14.drew = wr15 at *
  clear l0 l1 l2 lS
  have l0 := S.ltc (g := w.heap.size) (o := 0) (x := .slice p0 n0 c0) (by simp)
  have l1 := S.ltc (g := w.heap.size + 1) (o := 0) (x := .slice (some ⟨blk, off, none⟩) 1 c1) (by simp)
  have l2 := S.ltc (g := w.heap.size + 1 + 1) (o := 0) (x := .slice none 0 0) (by simp)
  have l3 := S.ltc (g := w13.heap.size) (o := 0) (x := .slice p12 n12 c12) (by simp)
  have lS := S.size
  refine wpAnyH_take (i := 0) (oi := _) (v := ?vq16) rfl (by kernel_rfl) (by kernel_rfl) (by kernel_rfl) (fun _ _ _ h => h) (Or.inl ⟨by rfl, ?hyq16⟩) (by assumption) ?restq16
  case hyq16 => (intro w hSw; (try dsimp only at hSw); go_simp; try with_reducible rfl)
  try simp only [Act.put, List.getElem_toArray, List.getElem_cons_zero, List.setIfInBounds_toArray, List.set_cons_zero, List.set_cons_succ]
  refine wpAnyH_take (i := 1) (oi := _) (v := ?vq17) rfl (by kernel_rfl) (by kernel_rfl) (by kernel_rfl) (fun _ _ _ h => h) (Or.inl ⟨by rfl, ?hyq17⟩) (by assumption) ?restq17
  case hyq17 => (intro w hSw; (try dsimp only at hSw); go_simp; try with_reducible rfl)
  try simp only [Act.put, List.getElem_toArray, List.getElem_cons_zero, List.getElem_cons_succ, List.setIfInBounds_toArray, List.set_cons_zero, List.set_cons_succ]
  refine wpAnyH_take (i := 3) (oi := _) (v := ?vq18) rfl (by kernel_rfl) (by kernel_rfl) (by kernel_rfl) (fun _ _ _ h => h) (Or.inl ⟨by rfl, ?hyq18⟩) (by assumption) ?restq18
  case hyq18 => (intro w hSw; (try dsimp only at hSw); go_simp; try with_reducible rfl)
  try simp only [Act.put, List.getElem_toArray, List.getElem_cons_zero, List.getElem_cons_succ, List.setIfInBounds_toArray, List.set_cons_zero, List.set_cons_succ]
  refine wpAnyH_take (i := 4) (oi := _) (v := ?vq19) rfl (by kernel_rfl) (by kernel_rfl) (by kernel_rfl) (fun _ _ _ h => h) (Or.inl ⟨by rfl, ?hyq19⟩) (by assumption) ?restq19
  case hyq19 => (intro w hSw; (try dsimp only at hSw); go_simp; try with_reducible rfl)
  try simp only [Act.put, List.getElem_toArray, List.getElem_cons_zero, List.getElem_cons_succ, List.setIfInBounds_toArray, List.set_cons_zero, List.set_cons_succ]
  have BY := Lib.hid (show z12 = byOf z y by rw [byOf_pos h0, E12.out])
  have NE := Lib.hid (BY.out ▸ byOf_ne (n := z) (d := y) (by have := h0; omega))
  have DZ := Lib.hid (BY.out ▸ byOf_dvd_n z y)
  have DY := Lib.hid (BY.out ▸ byOf_dvd_d z y)
  obtain ⟨z21, ez21⟩ : ∃ t : Int, z / z12 = t := ⟨_, rfl⟩
  have E21 := Lib.hid ez21
  clear ez21
  refine wpAnyH_ready (rs := [2]) (by kernel_rfl) (by simp) ?_
  refine AllReadyH.cons (o := _) rfl (fun K hK => ?_) AllReadyH.nil
  go_simp
  go_at_call 77
  with_reducible refine (Quo_h Hz.out N12.out (by omega) NE.out DZ.out E21.out).mono ?_
  rintro e w22 ⟨p21, n21, c21, b21, rfl, h, g⟩
  clear Hz
  replace Hy := Lib.hid (Hy.out.kp (Kp.of g))
  replace N12 := Lib.hid (N12.out.kp (Kp.of g))
  have N21 := Lib.hid (h)
  replace S := S.step g
  have lg22 := g.size
  clear l0 l1 l2 l3 lS
  have l0 := S.ltc (g := w.heap.size) (o := 0) (x := .slice p0 n0 c0) (by simp)
  have l1 := S.ltc (g := w.heap.size + 1) (o := 0) (x := .slice (some ⟨blk, off, none⟩) 1 c1) (by simp)
  have l2 := S.ltc (g := w.heap.size + 1 + 1) (o := 0) (x := .slice none 0 0) (by simp)
  have l3 := S.ltc (g := w13.heap.size) (o := 0) (x := .slice p12 n12 c12) (by simp)
  have lS := S.size
  go_wp2_with fail
  refine hK.out _ _ ?hSq20 (fun hHeld => ?_)
  case hSq20 => exact Cl.step (cs := [(w.heap.size, 0, .slice p0 n0 c0), (w.heap.size, 1, .bool b0), (w13.heap.size, 0, .slice p12 n12 c12), (w13.heap.size, 1, .bool b12), (w.heap.size + 1, 0, .slice (some ⟨blk, off, none⟩) 1 c1), (w.heap.size + 1, 1, .bool false)]) g (by assumption)
  clear hK K g h
  try simp only [List.setIfInBounds_toArray, List.set_cons_zero, List.set_cons_succ]
  obtain ⟨z24, ez24⟩ : ∃ t : Int, y / z12 = t := ⟨_, rfl⟩
  have E24 := Lib.hid ez24
  clear ez24
  refine wpAnyH_ready (rs := [5]) (by kernel_rfl) (by simp) ?_
  refine AllReadyH.cons (o := _) rfl (fun K hK => ?_) AllReadyH.nil
  go_simp
  go_at_call 77
  with_reducible refine (Quo_h Hy.out N12.out (by omega) NE.out DY.out E24.out).mono ?_
  rintro e w25 ⟨p24, n24, c24, b24, rfl, h, g⟩
  clear Hy N12
  replace N21 := Lib.hid (N21.out.kp (Kp.of g))
  have N24 := Lib.hid (h)
  replace S := S.step g
  have lg25 := g.size
  clear l0 l1 l2 l3 lS
  have l0 := S.ltc (g := w.heap.size) (o := 0) (x := .slice p0 n0 c0) (by simp)
  have l1 := S.ltc (g := w.heap.size + 1) (o := 0) (x := .slice (some ⟨blk, off, none⟩) 1 c1) (by simp)
  have l2 := S.ltc (g := w.heap.size + 1 + 1) (o := 0) (x := .slice none 0 0) (by simp)
  have l3 := S.ltc (g := w13.heap.size) (o := 0) (x := .slice p12 n12 c12) (by simp)
  have lS := S.size
  go_wp2_with fail
  refine hK.out _ _ ?hSq23 (fun hHeld => ?_)
  case hSq23 => exact Cl.step (cs := [(w.heap.size, 0, .slice p0 n0 c0), (w.heap.size, 1, .bool b0), (w13.heap.size, 0, .slice p12 n12 c12), (w13.heap.size, 1, .bool b12), (w.heap.size + 1, 0, .slice (some ⟨blk, off, none⟩) 1 c1), (w.heap.size + 1, 1, .bool false)]) g (by assumption)
  clear hK K g h
  try simp only [List.setIfInBounds_toArray, List.set_cons_zero, List.set_cons_succ]
  refine wpAnyH_take (i := 6) (oi := _) (v := ?vq26) rfl (by kernel_rfl) (by kernel_rfl) (by kernel_rfl) (fun _ _ _ h => h) (Or.inl ⟨by rfl, ?hyq26⟩) (by assumption) ?restq26
  case hyq26 => (intro w hSw; (try dsimp only at hSw); go_simp; try with_reducible rfl)
  try simp only [Act.put, List.getElem_toArray, List.getElem_cons_zero, List.getElem_cons_succ, List.setIfInBounds_toArray, List.set_cons_zero, List.set_cons_succ]
  obtain ⟨e0, e1, e2, e3, e4, e5, e6, e7, e8, e9, h0, i0, h1, i1, h2, i2, h3, i3, h4, i4, h5, i5, G⟩ := id S
  refine wpAnyH_ready (rs := [7]) (by kernel_rfl) (by simp) ?_
  refine AllReadyH.cons (o := _) rfl (fun K hK => ?_) AllReadyH.nil
  go_simp
  refine hK.out _ _ ?hSq27 (fun hHeld => ?_)
  case hSq27 => exact (Cl.set (cs := [(w.heap.size, 0, .slice p0 n0 c0), (w.heap.size, 1, .bool b0), (w13.heap.size, 0, .slice p12 n12 c12), (w13.heap.size, 1, .bool b12), (w.heap.size + 1, 0, .slice (some ⟨blk, off, none⟩) 1 c1), (w.heap.size + 1, 1, .bool false)]) (g := w.heap.size + 1 + 1) (o := 3) (u := .bool b24) (Cl.set (cs := [(w.heap.size, 0, .slice p0 n0 c0), (w.heap.size, 1, .bool b0), (w13.heap.size, 0, .slice p12 n12 c12), (w13.heap.size, 1, .bool b12), (w.heap.size + 1, 0, .slice (some ⟨blk, off, none⟩) 1 c1), (w.heap.size + 1, 1, .bool false)]) (g := w.heap.size + 1 + 1) (o := 2) (u := .slice p24 n24 c24) (Cl.set (cs := [(w.heap.size, 0, .slice p0 n0 c0), (w.heap.size, 1, .bool b0), (w13.heap.size, 0, .slice p12 n12 c12), (w13.heap.size, 1, .bool b12), (w.heap.size + 1, 0, .slice (some ⟨blk, off, none⟩) 1 c1), (w.heap.size + 1, 1, .bool false)]) (g := w.heap.size + 1 + 1) (o := 1) (u := .bool b21) (Cl.set (cs := [(w.heap.size, 0, .slice p0 n0 c0), (w.heap.size, 1, .bool b0), (w13.heap.size, 0, .slice p12 n12 c12), (w13.heap.size, 1, .bool b12), (w.heap.size + 1, 0, .slice (some ⟨blk, off, none⟩) 1 c1), (w.heap.size + 1, 1, .bool false)]) (g := w.heap.size + 1 + 1) (o := 0) (u := .slice p21 n21 c21) (by assumption) (by simp <;> omega)) (by simp <;> omega)) (by simp <;> omega)) (by simp <;> omega))
  clear hK K
  try simp only [List.setIfInBounds_toArray, List.set_cons_zero, List.set_cons_succ]
  clear e0 e1 e2 e3 e4 e5 e6 e7 e8 e9 h0 i0 h1 i1 h2 i2 h3 i3 h4 i4 h5 i5 G
  have K28 : Kp w25 (w25.setCell ⟨w.heap.size + 1 + 1, 0, none⟩ (.slice p21 n21 c21)) := S.kp (g := w.heap.size + 1 + 1) (o := 0) (x := .slice none 0 0) (.slice p21 n21 c21) (by simp) (by simp)
  replace S : St w [(w.heap.size + 1 + 1, 0, .slice p21 n21 c21), (w13.heap.size, 0, .slice p12 n12 c12), (w13.heap.size, 1, .bool b12), (w.heap.size + 1 + 1, 1, .bool false), (w.heap.size + 1 + 1, 2, .slice none 0 0), (w.heap.size + 1 + 1, 3, .bool false), (w.heap.size + 1, 0, .slice (some ⟨blk, off, none⟩) 1 c1), (w.heap.size + 1, 1, .bool false), (w.heap.size, 0, .slice p0 n0 c0), (w.heap.size, 1, .bool b0)] [(w13.heap.size, 0), (w13.heap.size, 1), (w.heap.size + 1 + 1, 0), (w.heap.size + 1 + 1, 1), (w.heap.size + 1 + 1, 2), (w.heap.size + 1 + 1, 3)] (w25.setCell ⟨w.heap.size + 1 + 1, 0, none⟩ (.slice p21 n21 c21)) := S.set (g := w.heap.size + 1 + 1) (o := 0) (.slice p21 n21 c21) (by simp) (by simp <;> omega) (by omega)
  have K29 : Kp (w25.setCell ⟨w.heap.size + 1 + 1, 0, none⟩ (.slice p21 n21 c21)) ((w25.setCell ⟨w.heap.size + 1 + 1, 0, none⟩ (.slice p21 n21 c21)).setCell ⟨w.heap.size + 1 + 1, 1, none⟩ (.bool b21)) := S.kp (g := w.heap.size + 1 + 1) (o := 1) (x := .bool false) (.bool b21) (by simp) (by simp)
  replace S : St w [(w.heap.size + 1 + 1, 1, .bool b21), (w13.heap.size, 0, .slice p12 n12 c12), (w13.heap.size, 1, .bool b12), (w.heap.size + 1 + 1, 0, .slice p21 n21 c21), (w.heap.size + 1 + 1, 2, .slice none 0 0), (w.heap.size + 1 + 1, 3, .bool false), (w.heap.size + 1, 0, .slice (some ⟨blk, off, none⟩) 1 c1), (w.heap.size + 1, 1, .bool false), (w.heap.size, 0, .slice p0 n0 c0), (w.heap.size, 1, .bool b0)] [(w13.heap.size, 0), (w13.heap.size, 1), (w.heap.size + 1 + 1, 0), (w.heap.size + 1 + 1, 1), (w.heap.size + 1 + 1, 2), (w.heap.size + 1 + 1, 3)] ((w25.setCell ⟨w.heap.size + 1 + 1, 0, none⟩ (.slice p21 n21 c21)).setCell ⟨w.heap.size + 1 + 1, 1, none⟩ (.bool b21)) := S.set (g := w.heap.size + 1 + 1) (o := 1) (.bool b21) (by simp) (by simp <;> omega) (by omega)
  have K30 : Kp ((w25.setCell ⟨w.heap.size + 1 + 1, 0, none⟩ (.slice p21 n21 c21)).setCell ⟨w.heap.size + 1 + 1, 1, none⟩ (.bool b21)) (((w25.setCell ⟨w.heap.size + 1 + 1, 0, none⟩ (.slice p21 n21 c21)).setCell ⟨w.heap.size + 1 + 1, 1, none⟩ (.bool b21)).setCell ⟨w.heap.size + 1 + 1, 2, none⟩ (.slice p24 n24 c24)) := S.kp (g := w.heap.size + 1 + 1) (o := 2) (x := .slice none 0 0) (.slice p24 n24 c24) (by simp) (by simp)
  replace S : St w [(w.heap.size + 1 + 1, 2, .slice p24 n24 c24), (w13.heap.size, 0, .slice p12 n12 c12), (w13.heap.size, 1, .bool b12), (w.heap.size + 1 + 1, 0, .slice p21 n21 c21), (w.heap.size + 1 + 1, 1, .bool b21), (w.heap.size + 1 + 1, 3, .bool false), (w.heap.size + 1, 0, .slice (some ⟨blk, off, none⟩) 1 c1), (w.heap.size + 1, 1, .bool false), (w.heap.size, 0, .slice p0 n0 c0), (w.heap.size, 1, .bool b0)] [(w13.heap.size, 0), (w13.heap.size, 1), (w.heap.size + 1 + 1, 0), (w.heap.size + 1 + 1, 1), (w.heap.size + 1 + 1, 2), (w.heap.size + 1 + 1, 3)] (((w25.setCell ⟨w.heap.size + 1 + 1, 0, none⟩ (.slice p21 n21 c21)).setCell ⟨w.heap.size + 1 + 1, 1, none⟩ (.bool b21)).setCell ⟨w.heap.size + 1 + 1, 2, none⟩ (.slice p24 n24 c24)) := S.set (g := w.heap.size + 1 + 1) (o := 2) (.slice p24 n24 c24) (by simp) (by simp <;> omega) (by omega)
  have K31 : Kp (((w25.setCell ⟨w.heap.size + 1 + 1, 0, none⟩ (.slice p21 n21 c21)).setCell ⟨w.heap.size + 1 + 1, 1, none⟩ (.bool b21)).setCell ⟨w.heap.size + 1 + 1, 2, none⟩ (.slice p24 n24 c24)) ((((w25.setCell ⟨w.heap.size + 1 + 1, 0, none⟩ (.slice p21 n21 c21)).setCell ⟨w.heap.size + 1 + 1, 1, none⟩ (.bool b21)).setCell ⟨w.heap.size + 1 + 1, 2, none⟩ (.slice p24 n24 c24)).setCell ⟨w.heap.size + 1 + 1, 3, none⟩ (.bool b24)) := S.kp (g := w.heap.size + 1 + 1) (o := 3) (x := .bool false) (.bool b24) (by simp) (by simp)
  replace S : St w [(w.heap.size + 1 + 1, 3, .bool b24), (w13.heap.size, 0, .slice p12 n12 c12), (w13.heap.size, 1, .bool b12), (w.heap.size + 1 + 1, 0, .slice p21 n21 c21), (w.heap.size + 1 + 1, 1, .bool b21), (w.heap.size + 1 + 1, 2, .slice p24 n24 c24), (w.heap.size + 1, 0, .slice (some ⟨blk, off, none⟩) 1 c1), (w.heap.size + 1, 1, .bool false), (w.heap.size, 0, .slice p0 n0 c0), (w.heap.size, 1, .bool b0)] [(w13.heap.size, 0), (w13.heap.size, 1), (w.heap.size + 1 + 1, 0), (w.heap.size + 1 + 1, 1), (w.heap.size + 1 + 1, 2), (w.heap.size + 1 + 1, 3)] ((((w25.setCell ⟨w.heap.size + 1 + 1, 0, none⟩ (.slice p21 n21 c21)).setCell ⟨w.heap.size + 1 + 1, 1, none⟩ (.bool b21)).setCell ⟨w.heap.size + 1 + 1, 2, none⟩ (.slice p24 n24 c24)).setCell ⟨w.heap.size + 1 + 1, 3, none⟩ (.bool b24)) := S.set (g := w.heap.size + 1 + 1) (o := 3) (.bool b24) (by simp) (by simp <;> omega) (by omega)
  replace S : St w [(w13.heap.size, 0, .slice p12 n12 c12), (w13.heap.size, 1, .bool b12), (w.heap.size + 1 + 1, 0, .slice p21 n21 c21), (w.heap.size + 1 + 1, 1, .bool b21), (w.heap.size + 1 + 1, 2, .slice p24 n24 c24), (w.heap.size + 1 + 1, 3, .bool b24), (w.heap.size + 1, 0, .slice (some ⟨blk, off, none⟩) 1 c1), (w.heap.size + 1, 1, .bool false), (w.heap.size, 0, .slice p0 n0 c0), (w.heap.size, 1, .bool b0)] [(w13.heap.size, 0), (w13.heap.size, 1), (w.heap.size + 1 + 1, 0), (w.heap.size + 1 + 1, 1), (w.heap.size + 1 + 1, 2), (w.heap.size + 1 + 1, 3)] ((((w25.setCell ⟨w.heap.size + 1 + 1, 0, none⟩ (.slice p21 n21 c21)).setCell ⟨w.heap.size + 1 + 1, 1, none⟩ (.bool b21)).setCell ⟨w.heap.size + 1 + 1, 2, none⟩ (.slice p24 n24 c24)).setCell ⟨w.heap.size + 1 + 1, 3, none⟩ (.bool b24)) := S.sub (by simp) (by simp)
  replace N21 := Lib.hid (N21.out.kp (((K28.trans K29).trans K30).trans K31))
  replace N24 := Lib.hid (N24.out.kp (((K28.trans K29).trans K30).trans K31))
  clear K28 K29 K30 K31
  have sz32 : ((((w25.setCell ⟨w.heap.size + 1 + 1, 0, none⟩ (.slice p21 n21 c21)).setCell ⟨w.heap.size + 1 + 1, 1, none⟩ (.bool b21)).setCell ⟨w.heap.size + 1 + 1, 2, none⟩ (.slice p24 n24 c24)).setCell ⟨w.heap.size + 1 + 1, 3, none⟩ (.bool b24)).heap.size = w25.heap.size := by simp
  generalize ((((w25.setCell ⟨w.heap.size + 1 + 1, 0, none⟩ (.slice p21 n21 c21)).setCell ⟨w.heap.size + 1 + 1, 1, none⟩ (.bool b21)).setCell ⟨w.heap.size + 1 + 1, 2, none⟩ (.slice p24 n24 c24)).setCell ⟨w.heap.size + 1 + 1, 3, none⟩ (.bool b24)) = W32 at *
  clear l0 l1 l2 l3 lS
  have l0 := S.ltc (g := w.heap.size) (o := 0) (x := .slice p0 n0 c0) (by simp)
  have l1 := S.ltc (g := w.heap.size + 1) (o := 0) (x := .slice (some ⟨blk, off, none⟩) 1 c1) (by simp)
  have l2 := S.ltc (g := w.heap.size + 1 + 1) (o := 0) (x := .slice p21 n21 c21) (by simp)
  have l3 := S.ltc (g := w13.heap.size) (o := 0) (x := .slice p12 n12 c12) (by simp)
  have lS := S.size
  refine wpAnyH_done (by kernel_rfl) ?_ _
  refine NoPanic.normal ?_
  obtain ⟨e0, e1, e2, e3, e4, e5, e6, e7, e8, e9, h0, i0, h1, i1, h2, i2, h3, i3, h4, i4, h5, i5, G⟩ := id S
  go_wp2_with fail
  clear e0 e1 e2 e3 e4 e5 e6 e7 e8 e9 h0 i0 h1 i1 h2 i2 h3 i3 h4 i4 h5 i5 G
  refine post_S Tryz.results26 rfl rfl (S.cell (g := w.heap.size + 1 + 1) (o := 0) (x := .slice p21 n21 c21) (by simp)) (S.cell (g := w.heap.size + 1 + 1) (o := 1) (x := .bool b21) (by simp)) (S.cell (g := w.heap.size + 1 + 1) (o := 2) (x := .slice p24 n24 c24) (by simp)) (S.cell (g := w.heap.size + 1 + 1) (o := 3) (x := .bool b24) (by simp)) ⟨_, _, _, _, _, _, _, _, rfl, ⟨_, _, _, _, _, _, _, _, rfl, (N21.out.eqz (show z21 = _ by rw [qOf_ne (of_decide_eq_false Y0.out), ← num_by (n := z) (by have := h0; omega), ← BY.out, E21.out])).more (by omega), (N24.out.eqz (show z24 = _ by rw [qOf_ne (of_decide_eq_false Y0.out), ← den_by (n := z) (by have := h0; omega), ← BY.out, E24.out])).more (by omega)⟩, S.all⟩

set_option maxHeartbeats 4000000 in
set_option maxRecDepth 100000 in
theorem Make_pos_long {b0 : Bool} {p0 p1 : Option Addr} {n0 c0 n1 c1 : Nat} {z y : Int} {i j : Nat} {w : World} (hz : DecI w (.agg #[.slice p0 n0 c0, .bool b0]) z i) (hy : DecI w (.agg #[.slice p1 n1 c1, .bool false]) y j) (hk : i + j ≤ 200000) (h0 : 0 < y) (hl : n1 ≠ 1) :
    Calls Tryz.prog 26 #[.agg #[.slice p0 n0 c0, .bool b0], .agg #[.slice p1 n1 c1, .bool false]] w (GotS w (qOf z y) (i + j + 2)) := by
  have Hz := Lib.hid hz
  have Hy := Lib.hid hy
  clear hz hy
  have Y0 := Lib.hid (show decide (y = 0) = false from decide_eq_false (by omega))
  have t5 : ((n1 : Int) == 1) = false := beq_eq_false_iff_ne.2 (by omega)
  clear hl
  have S : St w [] [] w := St.start w
  go_enter Tryz.func26, Tryz.ntmps26
  have G := S
  go_wp2_with fail
  clear G
  replace S : St w [(w.heap.size, 0, .slice p0 n0 c0), (w.heap.size, 1, .bool b0)] [] (w.alloc (.cells #[.slice p0 n0 c0, .bool b0] 51)) := S.box (w.heap.size) [.slice p0 n0 c0, .bool b0] 51 (by simp)
  replace S : St w [(w.heap.size + 1, 0, .slice p1 n1 c1), (w.heap.size + 1, 1, .bool false), (w.heap.size, 0, .slice p0 n0 c0), (w.heap.size, 1, .bool b0)] [] ((w.alloc (.cells #[.slice p0 n0 c0, .bool b0] 51)).alloc (.cells #[.slice p1 n1 c1, .bool false] 51)) := S.box (w.heap.size + 1) [.slice p1 n1 c1, .bool false] 51 (by simp)
  replace S : St w [(w.heap.size + 1 + 1, 0, .slice none 0 0), (w.heap.size + 1 + 1, 1, .bool false), (w.heap.size + 1 + 1, 2, .slice none 0 0), (w.heap.size + 1 + 1, 3, .bool false), (w.heap.size + 1, 0, .slice p1 n1 c1), (w.heap.size + 1, 1, .bool false), (w.heap.size, 0, .slice p0 n0 c0), (w.heap.size, 1, .bool b0)] [(w.heap.size + 1 + 1, 0), (w.heap.size + 1 + 1, 1), (w.heap.size + 1 + 1, 2), (w.heap.size + 1 + 1, 3)] (((w.alloc (.cells #[.slice p0 n0 c0, .bool b0] 51)).alloc (.cells #[.slice p1 n1 c1, .bool false] 51)).alloc (.cells #[.slice none 0 0, .bool false, .slice none 0 0, .bool false] 53)) := S.made (w.heap.size + 1 + 1) [.slice none 0 0, .bool false, .slice none 0 0, .bool false] 53 (by simp)
  replace Hz := Lib.hid (Hz.out.kp (((Kp.of (grown_alloc w (.cells #[.slice p0 n0 c0, .bool b0] 51) none)).trans (Kp.of (grown_alloc ((w.alloc (.cells #[.slice p0 n0 c0, .bool b0] 51))) (.cells #[.slice p1 n1 c1, .bool false] 51) none))).trans (Kp.of (grown_alloc (((w.alloc (.cells #[.slice p0 n0 c0, .bool b0] 51)).alloc (.cells #[.slice p1 n1 c1, .bool false] 51))) (.cells #[.slice none 0 0, .bool false, .slice none 0 0, .bool false] 53) none))))
  replace Hy := Lib.hid (Hy.out.kp (((Kp.of (grown_alloc w (.cells #[.slice p0 n0 c0, .bool b0] 51) none)).trans (Kp.of (grown_alloc ((w.alloc (.cells #[.slice p0 n0 c0, .bool b0] 51))) (.cells #[.slice p1 n1 c1, .bool false] 51) none))).trans (Kp.of (grown_alloc (((w.alloc (.cells #[.slice p0 n0 c0, .bool b0] 51)).alloc (.cells #[.slice p1 n1 c1, .bool false] 51))) (.cells #[.slice none 0 0, .bool false, .slice none 0 0, .bool false] 53) none))))
  have sz10 : (((w.alloc (.cells #[.slice p0 n0 c0, .bool b0] 51)).alloc (.cells #[.slice p1 n1 c1, .bool false] 51)).alloc (.cells #[.slice none 0 0, .bool false, .slice none 0 0, .bool false] 53)).heap.size = w.heap.size + 3 := by simp
  generalize (((w.alloc (.cells #[.slice p0 n0 c0, .bool b0] 51)).alloc (.cells #[.slice p1 n1 c1, .bool false] 51)).alloc (.cells #[.slice none 0 0, .bool false, .slice none 0 0, .bool false] 53)) = W10 at *
  go_at_call 75
  with_reducible refine (Zero_h Hy.out Y0.out).mono ?_
  rintro e w11 ⟨rfl, g⟩
  replace Hz := Lib.hid (Hz.out.kp (Kp.of g))
  replace Hy := Lib.hid (Hy.out.kp (Kp.of g))
  replace S := S.step g
  have lg11 := g.size
  clear g
  have l0 := S.ltc (g := w.heap.size) (o := 0) (x := .slice p0 n0 c0) (by simp)
  have l1 := S.ltc (g := w.heap.size + 1) (o := 0) (x := .slice p1 n1 c1) (by simp)
  have l2 := S.ltc (g := w.heap.size + 1 + 1) (o := 0) (x := .slice none 0 0) (by simp)
  have lS := S.size
  obtain ⟨e0, e1, e2, e3, e4, e5, e6, e7, h0, i0, h1, i1, h2, i2, h3, i3, G⟩ := id S
  go_wp2_with fail
  clear e0 e1 e2 e3 e4 e5 e6 e7 h0 i0 h1 i1 h2 i2 h3 i3 G
  obtain ⟨z12, ez12⟩ : ∃ t : Int, (Int.gcd z y : Int) = t := ⟨_, rfl⟩
  have E12 := Lib.hid ez12
  clear ez12
  go_at_call 30
  with_reducible refine (Gcd_h ((i + j + 2)) Hz.out Hy.out (by omega) (by omega) (by omega) E12.out).mono ?_
  rintro e w13 ⟨p12, n12, c12, b12, rfl, h, g⟩
  replace Hz := Lib.hid (Hz.out.kp (Kp.of g))
  replace Hy := Lib.hid (Hy.out.kp (Kp.of g))
  have N12 := Lib.hid (h)
  replace S := S.step g
  have lg13 := g.size
  clear g h l0 l1 l2 lS
  have l0 := S.ltc (g := w.heap.size) (o := 0) (x := .slice p0 n0 c0) (by simp)
  have l1 := S.ltc (g := w.heap.size + 1) (o := 0) (x := .slice p1 n1 c1) (by simp)
  have l2 := S.ltc (g := w.heap.size + 1 + 1) (o := 0) (x := .slice none 0 0) (by simp)
  have lS := S.size
  obtain ⟨e0, e1, e2, e3, e4, e5, e6, e7, h0, i0, h1, i1, h2, i2, h3, i3, G⟩ := id S
  go_wp2_with fail
  clear e0 e1 e2 e3 e4 e5 e6 e7 h0 i0 h1 i1 h2 i2 h3 i3 G
  replace S : St w [(w13.heap.size, 0, .slice p12 n12 c12), (w13.heap.size, 1, .bool b12), (w.heap.size + 1 + 1, 0, .slice none 0 0), (w.heap.size + 1 + 1, 1, .bool false), (w.heap.size + 1 + 1, 2, .slice none 0 0), (w.heap.size + 1 + 1, 3, .bool false), (w.heap.size + 1, 0, .slice p1 n1 c1), (w.heap.size + 1, 1, .bool false), (w.heap.size, 0, .slice p0 n0 c0), (w.heap.size, 1, .bool b0)] [(w13.heap.size, 0), (w13.heap.size, 1), (w.heap.size + 1 + 1, 0), (w.heap.size + 1 + 1, 1), (w.heap.size + 1 + 1, 2), (w.heap.size + 1 + 1, 3)] (w13.alloc (.cells #[.slice p12 n12 c12, .bool b12] 51)) := S.made (w13.heap.size) [.slice p12 n12 c12, .bool b12] 51 (by simp)
  replace Hz := Lib.hid (Hz.out.kp (Kp.of (grown_alloc w13 (.cells #[.slice p12 n12 c12, .bool b12] 51) none)))
  replace Hy := Lib.hid (Hy.out.kp (Kp.of (grown_alloc w13 (.cells #[.slice p12 n12 c12, .bool b12] 51) none)))
  replace N12 := Lib.hid (N12.out.kp (Kp.of (grown_alloc w13 (.cells #[.slice p12 n12 c12, .bool b12] 51) none)))
  have sz14 : (w13.alloc (.cells #[.slice p12 n12 c12, .bool b12] 51)).heap.size = w13.heap.size + 1 := by simp
  generalize (w13.alloc (.cells #[.slice p12 n12 c12, .bool b12] 51)) = W14 at *
  have T0 : Cl [(w.heap.size, 0, .slice p0 n0 c0), (w.heap.size, 1, .bool b0), (w13.heap.size, 0, .slice p12 n12 c12), (w13.heap.size, 1, .bool b12), (w.heap.size + 1, 0, .slice p1 n1 c1), (w.heap.size + 1, 1, .bool false)] W14 := S.cl (by simp)
  refine wp_region_noPanic ?_
  refine wp_region_held_drew (S := fun w' => w'.cell? ⟨w.heap.size, 0, none⟩ = some (.slice p0 n0 c0) ∧ w'.cell? ⟨w.heap.size, 1, none⟩ = some (.bool b0) ∧ w'.cell? ⟨w13.heap.size, 0, none⟩ = some (.slice p12 n12 c12) ∧ w'.cell? ⟨w13.heap.size, 1, none⟩ = some (.bool b12) ∧ w'.cell? ⟨w.heap.size + 1, 0, none⟩ = some (.slice p1 n1 c1) ∧ w'.cell? ⟨w.heap.size + 1, 1, none⟩ = some (.bool false) ∧ True) (by kernel_rfl) (by exact Cl.step (cs := [(w.heap.size, 0, .slice p0 n0 c0), (w.heap.size, 1, .bool b0), (w13.heap.size, 0, .slice p12 n12 c12), (w13.heap.size, 1, .bool b12), (w.heap.size + 1, 0, .slice p1 n1 c1), (w.heap.size + 1, 1, .bool false)]) (grown_drew _ _) T0) (fun hHeld => ?_)
  change wpAnyH _ _ _ _ _ 8 #[false, false, false, false, false, false, false, false] _ _
  replace S := S.step (grown_drew W14 none)
  replace Hz := Lib.hid (Hz.out.kp (Kp.of (grown_drew W14 none)))
  replace Hy := Lib.hid (Hy.out.kp (Kp.of (grown_drew W14 none)))
  replace N12 := Lib.hid (N12.out.kp (Kp.of (grown_drew W14 none)))
  have lg15 := (grown_drew W14 none).size
  clear T0
  generalize W14.drew = wr15 at *
  clear l0 l1 l2 lS
  have l0 := S.ltc (g := w.heap.size) (o := 0) (x := .slice p0 n0 c0) (by simp)
  have l1 := S.ltc (g := w.heap.size + 1) (o := 0) (x := .slice p1 n1 c1) (by simp)
  have l2 := S.ltc (g := w.heap.size + 1 + 1) (o := 0) (x := .slice none 0 0) (by simp)
  have l3 := S.ltc (g := w13.heap.size) (o := 0) (x := .slice p12 n12 c12) (by simp)
  have lS := S.size
  refine wpAnyH_take (i := 0) (oi := _) (v := ?vq16) rfl (by kernel_rfl) (by kernel_rfl) (by kernel_rfl) (fun _ _ _ h => h) (Or.inl ⟨by rfl, ?hyq16⟩) (by assumption) ?restq16
  case hyq16 => (intro w hSw; (try dsimp only at hSw); go_simp; try with_reducible rfl)
  try simp only [Act.put, List.getElem_toArray, List.getElem_cons_zero, List.setIfInBounds_toArray, List.set_cons_zero, List.set_cons_succ]
  refine wpAnyH_take (i := 1) (oi := _) (v := ?vq17) rfl (by kernel_rfl) (by kernel_rfl) (by kernel_rfl) (fun _ _ _ h => h) (Or.inl ⟨by rfl, ?hyq17⟩) (by assumption) ?restq17
  case hyq17 => (intro w hSw; (try dsimp only at hSw); go_simp; try with_reducible rfl)
  try simp only [Act.put, List.getElem_toArray, List.getElem_cons_zero, List.getElem_cons_succ, List.setIfInBounds_toArray, List.set_cons_zero, List.set_cons_succ]
  refine wpAnyH_take (i := 3) (oi := _) (v := ?vq18) rfl (by kernel_rfl) (by kernel_rfl) (by kernel_rfl) (fun _ _ _ h => h) (Or.inl ⟨by rfl, ?hyq18⟩) (by assumption) ?restq18
  case hyq18 => (intro w hSw; (try dsimp only at hSw); go_simp; try with_reducible rfl)
  try simp only [Act.put, List.getElem_toArray, List.getElem_cons_zero, List.getElem_cons_succ, List.setIfInBounds_toArray, List.set_cons_zero, List.set_cons_succ]
  refine wpAnyH_take (i := 4) (oi := _) (v := ?vq19) rfl (by kernel_rfl) (by kernel_rfl) (by kernel_rfl) (fun _ _ _ h => h) (Or.inl ⟨by rfl, ?hyq19⟩) (by assumption) ?restq19
  case hyq19 => (intro w hSw; (try dsimp only at hSw); go_simp; try with_reducible rfl)
  try simp only [Act.put, List.getElem_toArray, List.getElem_cons_zero, List.getElem_cons_succ, List.setIfInBounds_toArray, List.set_cons_zero, List.set_cons_succ]
  have BY := Lib.hid (show z12 = byOf z y by rw [byOf_pos h0, E12.out])
  have NE := Lib.hid (BY.out ▸ byOf_ne (n := z) (d := y) (by have := h0; omega))
  have DZ := Lib.hid (BY.out ▸ byOf_dvd_n z y)
  have DY := Lib.hid (BY.out ▸ byOf_dvd_d z y)
  obtain ⟨z21, ez21⟩ : ∃ t : Int, z / z12 = t := ⟨_, rfl⟩
  have E21 := Lib.hid ez21
  clear ez21
  refine wpAnyH_ready (rs := [2]) (by kernel_rfl) (by simp) ?_
  refine AllReadyH.cons (o := _) rfl (fun K hK => ?_) AllReadyH.nil
  go_simp
  go_at_call 77
  with_reducible refine (Quo_h Hz.out N12.out (by omega) NE.out DZ.out E21.out).mono ?_
  rintro e w22 ⟨p21, n21, c21, b21, rfl, h, g⟩
  clear Hz
  replace Hy := Lib.hid (Hy.out.kp (Kp.of g))
  replace N12 := Lib.hid (N12.out.kp (Kp.of g))
  have N21 := Lib.hid (h)
  replace S := S.step g
  have lg22 := g.size
  clear l0 l1 l2 l3 lS
  have l0 := S.ltc (g := w.heap.size) (o := 0) (x := .slice p0 n0 c0) (by simp)
  have l1 := S.ltc (g := w.heap.size + 1) (o := 0) (x := .slice p1 n1 c1) (by simp)
  have l2 := S.ltc (g := w.heap.size + 1 + 1) (o := 0) (x := .slice none 0 0) (by simp)
  have l3 := S.ltc (g := w13.heap.size) (o := 0) (x := .slice p12 n12 c12) (by simp)
  have lS := S.size
  go_wp2_with fail
  refine hK.out _ _ ?hSq20 (fun hHeld => ?_)
  case hSq20 => exact Cl.step (cs := [(w.heap.size, 0, .slice p0 n0 c0), (w.heap.size, 1, .bool b0), (w13.heap.size, 0, .slice p12 n12 c12), (w13.heap.size, 1, .bool b12), (w.heap.size + 1, 0, .slice p1 n1 c1), (w.heap.size + 1, 1, .bool false)]) g (by assumption)
  clear hK K g h
  try simp only [List.setIfInBounds_toArray, List.set_cons_zero, List.set_cons_succ]
  obtain ⟨z24, ez24⟩ : ∃ t : Int, y / z12 = t := ⟨_, rfl⟩
  have E24 := Lib.hid ez24
  clear ez24
  refine wpAnyH_ready (rs := [5]) (by kernel_rfl) (by simp) ?_
  refine AllReadyH.cons (o := _) rfl (fun K hK => ?_) AllReadyH.nil
  go_simp
  go_at_call 77
  with_reducible refine (Quo_h Hy.out N12.out (by omega) NE.out DY.out E24.out).mono ?_
  rintro e w25 ⟨p24, n24, c24, b24, rfl, h, g⟩
  clear Hy N12
  replace N21 := Lib.hid (N21.out.kp (Kp.of g))
  have N24 := Lib.hid (h)
  replace S := S.step g
  have lg25 := g.size
  clear l0 l1 l2 l3 lS
  have l0 := S.ltc (g := w.heap.size) (o := 0) (x := .slice p0 n0 c0) (by simp)
  have l1 := S.ltc (g := w.heap.size + 1) (o := 0) (x := .slice p1 n1 c1) (by simp)
  have l2 := S.ltc (g := w.heap.size + 1 + 1) (o := 0) (x := .slice none 0 0) (by simp)
  have l3 := S.ltc (g := w13.heap.size) (o := 0) (x := .slice p12 n12 c12) (by simp)
  have lS := S.size
  go_wp2_with fail
  refine hK.out _ _ ?hSq23 (fun hHeld => ?_)
  case hSq23 => exact Cl.step (cs := [(w.heap.size, 0, .slice p0 n0 c0), (w.heap.size, 1, .bool b0), (w13.heap.size, 0, .slice p12 n12 c12), (w13.heap.size, 1, .bool b12), (w.heap.size + 1, 0, .slice p1 n1 c1), (w.heap.size + 1, 1, .bool false)]) g (by assumption)
  clear hK K g h
  try simp only [List.setIfInBounds_toArray, List.set_cons_zero, List.set_cons_succ]
  refine wpAnyH_take (i := 6) (oi := _) (v := ?vq26) rfl (by kernel_rfl) (by kernel_rfl) (by kernel_rfl) (fun _ _ _ h => h) (Or.inl ⟨by rfl, ?hyq26⟩) (by assumption) ?restq26
  case hyq26 => (intro w hSw; (try dsimp only at hSw); go_simp; try with_reducible rfl)
  try simp only [Act.put, List.getElem_toArray, List.getElem_cons_zero, List.getElem_cons_succ, List.setIfInBounds_toArray, List.set_cons_zero, List.set_cons_succ]
  obtain ⟨e0, e1, e2, e3, e4, e5, e6, e7, e8, e9, h0, i0, h1, i1, h2, i2, h3, i3, h4, i4, h5, i5, G⟩ := id S
  refine wpAnyH_ready (rs := [7]) (by kernel_rfl) (by simp) ?_
  refine AllReadyH.cons (o := _) rfl (fun K hK => ?_) AllReadyH.nil
  go_simp
  refine hK.out _ _ ?hSq27 (fun hHeld => ?_)
  case hSq27 => exact (Cl.set (cs := [(w.heap.size, 0, .slice p0 n0 c0), (w.heap.size, 1, .bool b0), (w13.heap.size, 0, .slice p12 n12 c12), (w13.heap.size, 1, .bool b12), (w.heap.size + 1, 0, .slice p1 n1 c1), (w.heap.size + 1, 1, .bool false)]) (g := w.heap.size + 1 + 1) (o := 3) (u := .bool b24) (Cl.set (cs := [(w.heap.size, 0, .slice p0 n0 c0), (w.heap.size, 1, .bool b0), (w13.heap.size, 0, .slice p12 n12 c12), (w13.heap.size, 1, .bool b12), (w.heap.size + 1, 0, .slice p1 n1 c1), (w.heap.size + 1, 1, .bool false)]) (g := w.heap.size + 1 + 1) (o := 2) (u := .slice p24 n24 c24) (Cl.set (cs := [(w.heap.size, 0, .slice p0 n0 c0), (w.heap.size, 1, .bool b0), (w13.heap.size, 0, .slice p12 n12 c12), (w13.heap.size, 1, .bool b12), (w.heap.size + 1, 0, .slice p1 n1 c1), (w.heap.size + 1, 1, .bool false)]) (g := w.heap.size + 1 + 1) (o := 1) (u := .bool b21) (Cl.set (cs := [(w.heap.size, 0, .slice p0 n0 c0), (w.heap.size, 1, .bool b0), (w13.heap.size, 0, .slice p12 n12 c12), (w13.heap.size, 1, .bool b12), (w.heap.size + 1, 0, .slice p1 n1 c1), (w.heap.size + 1, 1, .bool false)]) (g := w.heap.size + 1 + 1) (o := 0) (u := .slice p21 n21 c21) (by assumption) (by simp <;> omega)) (by simp <;> omega)) (by simp <;> omega)) (by simp <;> omega))
  clear hK K
  try simp only [List.setIfInBounds_toArray, List.set_cons_zero, List.set_cons_succ]
  clear e0 e1 e2 e3 e4 e5 e6 e7 e8 e9 h0 i0 h1 i1 h2 i2 h3 i3 h4 i4 h5 i5 G
  have K28 : Kp w25 (w25.setCell ⟨w.heap.size + 1 + 1, 0, none⟩ (.slice p21 n21 c21)) := S.kp (g := w.heap.size + 1 + 1) (o := 0) (x := .slice none 0 0) (.slice p21 n21 c21) (by simp) (by simp)
  replace S : St w [(w.heap.size + 1 + 1, 0, .slice p21 n21 c21), (w13.heap.size, 0, .slice p12 n12 c12), (w13.heap.size, 1, .bool b12), (w.heap.size + 1 + 1, 1, .bool false), (w.heap.size + 1 + 1, 2, .slice none 0 0), (w.heap.size + 1 + 1, 3, .bool false), (w.heap.size + 1, 0, .slice p1 n1 c1), (w.heap.size + 1, 1, .bool false), (w.heap.size, 0, .slice p0 n0 c0), (w.heap.size, 1, .bool b0)] [(w13.heap.size, 0), (w13.heap.size, 1), (w.heap.size + 1 + 1, 0), (w.heap.size + 1 + 1, 1), (w.heap.size + 1 + 1, 2), (w.heap.size + 1 + 1, 3)] (w25.setCell ⟨w.heap.size + 1 + 1, 0, none⟩ (.slice p21 n21 c21)) := S.set (g := w.heap.size + 1 + 1) (o := 0) (.slice p21 n21 c21) (by simp) (by simp <;> omega) (by omega)
  have K29 : Kp (w25.setCell ⟨w.heap.size + 1 + 1, 0, none⟩ (.slice p21 n21 c21)) ((w25.setCell ⟨w.heap.size + 1 + 1, 0, none⟩ (.slice p21 n21 c21)).setCell ⟨w.heap.size + 1 + 1, 1, none⟩ (.bool b21)) := S.kp (g := w.heap.size + 1 + 1) (o := 1) (x := .bool false) (.bool b21) (by simp) (by simp)
  replace S : St w [(w.heap.size + 1 + 1, 1, .bool b21), (w13.heap.size, 0, .slice p12 n12 c12), (w13.heap.size, 1, .bool b12), (w.heap.size + 1 + 1, 0, .slice p21 n21 c21), (w.heap.size + 1 + 1, 2, .slice none 0 0), (w.heap.size + 1 + 1, 3, .bool false), (w.heap.size + 1, 0, .slice p1 n1 c1), (w.heap.size + 1, 1, .bool false), (w.heap.size, 0, .slice p0 n0 c0), (w.heap.size, 1, .bool b0)] [(w13.heap.size, 0), (w13.heap.size, 1), (w.heap.size + 1 + 1, 0), (w.heap.size + 1 + 1, 1), (w.heap.size + 1 + 1, 2), (w.heap.size + 1 + 1, 3)] ((w25.setCell ⟨w.heap.size + 1 + 1, 0, none⟩ (.slice p21 n21 c21)).setCell ⟨w.heap.size + 1 + 1, 1, none⟩ (.bool b21)) := S.set (g := w.heap.size + 1 + 1) (o := 1) (.bool b21) (by simp) (by simp <;> omega) (by omega)
  have K30 : Kp ((w25.setCell ⟨w.heap.size + 1 + 1, 0, none⟩ (.slice p21 n21 c21)).setCell ⟨w.heap.size + 1 + 1, 1, none⟩ (.bool b21)) (((w25.setCell ⟨w.heap.size + 1 + 1, 0, none⟩ (.slice p21 n21 c21)).setCell ⟨w.heap.size + 1 + 1, 1, none⟩ (.bool b21)).setCell ⟨w.heap.size + 1 + 1, 2, none⟩ (.slice p24 n24 c24)) := S.kp (g := w.heap.size + 1 + 1) (o := 2) (x := .slice none 0 0) (.slice p24 n24 c24) (by simp) (by simp)
  replace S : St w [(w.heap.size + 1 + 1, 2, .slice p24 n24 c24), (w13.heap.size, 0, .slice p12 n12 c12), (w13.heap.size, 1, .bool b12), (w.heap.size + 1 + 1, 0, .slice p21 n21 c21), (w.heap.size + 1 + 1, 1, .bool b21), (w.heap.size + 1 + 1, 3, .bool false), (w.heap.size + 1, 0, .slice p1 n1 c1), (w.heap.size + 1, 1, .bool false), (w.heap.size, 0, .slice p0 n0 c0), (w.heap.size, 1, .bool b0)] [(w13.heap.size, 0), (w13.heap.size, 1), (w.heap.size + 1 + 1, 0), (w.heap.size + 1 + 1, 1), (w.heap.size + 1 + 1, 2), (w.heap.size + 1 + 1, 3)] (((w25.setCell ⟨w.heap.size + 1 + 1, 0, none⟩ (.slice p21 n21 c21)).setCell ⟨w.heap.size + 1 + 1, 1, none⟩ (.bool b21)).setCell ⟨w.heap.size + 1 + 1, 2, none⟩ (.slice p24 n24 c24)) := S.set (g := w.heap.size + 1 + 1) (o := 2) (.slice p24 n24 c24) (by simp) (by simp <;> omega) (by omega)
  have K31 : Kp (((w25.setCell ⟨w.heap.size + 1 + 1, 0, none⟩ (.slice p21 n21 c21)).setCell ⟨w.heap.size + 1 + 1, 1, none⟩ (.bool b21)).setCell ⟨w.heap.size + 1 + 1, 2, none⟩ (.slice p24 n24 c24)) ((((w25.setCell ⟨w.heap.size + 1 + 1, 0, none⟩ (.slice p21 n21 c21)).setCell ⟨w.heap.size + 1 + 1, 1, none⟩ (.bool b21)).setCell ⟨w.heap.size + 1 + 1, 2, none⟩ (.slice p24 n24 c24)).setCell ⟨w.heap.size + 1 + 1, 3, none⟩ (.bool b24)) := S.kp (g := w.heap.size + 1 + 1) (o := 3) (x := .bool false) (.bool b24) (by simp) (by simp)
  replace S : St w [(w.heap.size + 1 + 1, 3, .bool b24), (w13.heap.size, 0, .slice p12 n12 c12), (w13.heap.size, 1, .bool b12), (w.heap.size + 1 + 1, 0, .slice p21 n21 c21), (w.heap.size + 1 + 1, 1, .bool b21), (w.heap.size + 1 + 1, 2, .slice p24 n24 c24), (w.heap.size + 1, 0, .slice p1 n1 c1), (w.heap.size + 1, 1, .bool false), (w.heap.size, 0, .slice p0 n0 c0), (w.heap.size, 1, .bool b0)] [(w13.heap.size, 0), (w13.heap.size, 1), (w.heap.size + 1 + 1, 0), (w.heap.size + 1 + 1, 1), (w.heap.size + 1 + 1, 2), (w.heap.size + 1 + 1, 3)] ((((w25.setCell ⟨w.heap.size + 1 + 1, 0, none⟩ (.slice p21 n21 c21)).setCell ⟨w.heap.size + 1 + 1, 1, none⟩ (.bool b21)).setCell ⟨w.heap.size + 1 + 1, 2, none⟩ (.slice p24 n24 c24)).setCell ⟨w.heap.size + 1 + 1, 3, none⟩ (.bool b24)) := S.set (g := w.heap.size + 1 + 1) (o := 3) (.bool b24) (by simp) (by simp <;> omega) (by omega)
  replace S : St w [(w13.heap.size, 0, .slice p12 n12 c12), (w13.heap.size, 1, .bool b12), (w.heap.size + 1 + 1, 0, .slice p21 n21 c21), (w.heap.size + 1 + 1, 1, .bool b21), (w.heap.size + 1 + 1, 2, .slice p24 n24 c24), (w.heap.size + 1 + 1, 3, .bool b24), (w.heap.size + 1, 0, .slice p1 n1 c1), (w.heap.size + 1, 1, .bool false), (w.heap.size, 0, .slice p0 n0 c0), (w.heap.size, 1, .bool b0)] [(w13.heap.size, 0), (w13.heap.size, 1), (w.heap.size + 1 + 1, 0), (w.heap.size + 1 + 1, 1), (w.heap.size + 1 + 1, 2), (w.heap.size + 1 + 1, 3)] ((((w25.setCell ⟨w.heap.size + 1 + 1, 0, none⟩ (.slice p21 n21 c21)).setCell ⟨w.heap.size + 1 + 1, 1, none⟩ (.bool b21)).setCell ⟨w.heap.size + 1 + 1, 2, none⟩ (.slice p24 n24 c24)).setCell ⟨w.heap.size + 1 + 1, 3, none⟩ (.bool b24)) := S.sub (by simp) (by simp)
  replace N21 := Lib.hid (N21.out.kp (((K28.trans K29).trans K30).trans K31))
  replace N24 := Lib.hid (N24.out.kp (((K28.trans K29).trans K30).trans K31))
  clear K28 K29 K30 K31
  have sz32 : ((((w25.setCell ⟨w.heap.size + 1 + 1, 0, none⟩ (.slice p21 n21 c21)).setCell ⟨w.heap.size + 1 + 1, 1, none⟩ (.bool b21)).setCell ⟨w.heap.size + 1 + 1, 2, none⟩ (.slice p24 n24 c24)).setCell ⟨w.heap.size + 1 + 1, 3, none⟩ (.bool b24)).heap.size = w25.heap.size := by simp
  generalize ((((w25.setCell ⟨w.heap.size + 1 + 1, 0, none⟩ (.slice p21 n21 c21)).setCell ⟨w.heap.size + 1 + 1, 1, none⟩ (.bool b21)).setCell ⟨w.heap.size + 1 + 1, 2, none⟩ (.slice p24 n24 c24)).setCell ⟨w.heap.size + 1 + 1, 3, none⟩ (.bool b24)) = W32 at *
  clear l0 l1 l2 l3 lS
  have l0 := S.ltc (g := w.heap.size) (o := 0) (x := .slice p0 n0 c0) (by simp)
  have l1 := S.ltc (g := w.heap.size + 1) (o := 0) (x := .slice p1 n1 c1) (by simp)
  have l2 := S.ltc (g := w.heap.size + 1 + 1) (o := 0) (x := .slice p21 n21 c21) (by simp)
  have l3 := S.ltc (g := w13.heap.size) (o := 0) (x := .slice p12 n12 c12) (by simp)
  have lS := S.size
  refine wpAnyH_done (by kernel_rfl) ?_ _
  refine NoPanic.normal ?_
  obtain ⟨e0, e1, e2, e3, e4, e5, e6, e7, e8, e9, h0, i0, h1, i1, h2, i2, h3, i3, h4, i4, h5, i5, G⟩ := id S
  go_wp2_with fail
  clear e0 e1 e2 e3 e4 e5 e6 e7 e8 e9 h0 i0 h1 i1 h2 i2 h3 i3 h4 i4 h5 i5 G
  refine post_S Tryz.results26 rfl rfl (S.cell (g := w.heap.size + 1 + 1) (o := 0) (x := .slice p21 n21 c21) (by simp)) (S.cell (g := w.heap.size + 1 + 1) (o := 1) (x := .bool b21) (by simp)) (S.cell (g := w.heap.size + 1 + 1) (o := 2) (x := .slice p24 n24 c24) (by simp)) (S.cell (g := w.heap.size + 1 + 1) (o := 3) (x := .bool b24) (by simp)) ⟨_, _, _, _, _, _, _, _, rfl, ⟨_, _, _, _, _, _, _, _, rfl, (N21.out.eqz (show z21 = _ by rw [qOf_ne (of_decide_eq_false Y0.out), ← num_by (n := z) (by have := h0; omega), ← BY.out, E21.out])).more (by omega), (N24.out.eqz (show z24 = _ by rw [qOf_ne (of_decide_eq_false Y0.out), ← den_by (n := z) (by have := h0; omega), ← BY.out, E24.out])).more (by omega)⟩, S.all⟩

set_option maxHeartbeats 4000000 in
set_option maxRecDepth 100000 in
theorem Make_neg_one {b0 : Bool} {p0 p1 : Option Addr} {n0 c0 n1 c1 : Nat} {z y : Int} {i j : Nat} {w : World} (hz : DecI w (.agg #[.slice p0 n0 c0, .bool b0]) z i) (hy : DecI w (.agg #[.slice p1 n1 c1, .bool true]) y j) (_hk : i + j ≤ 200000) (h0 : y < 0) (h1 : y.natAbs = 1) (hl : (dig 10000 y.natAbs).length = 1) :
    Calls Tryz.prog 26 #[.agg #[.slice p0 n0 c0, .bool b0], .agg #[.slice p1 n1 c1, .bool true]] w (GotS w (qOf z y) (i + j + 2)) := by
  have Hz := Lib.hid hz
  have Hy := Lib.hid hy
  clear hz hy
  have Y0 := Lib.hid (show decide (y = 0) = false from decide_eq_false (by omega))
  have Y1 := Lib.hid h1
  have L1 := Lib.hid hl
  clear hl
  have S : St w [] [] w := St.start w
  go_enter Tryz.func26, Tryz.ntmps26
  have G := S
  go_wp2_with fail
  clear G
  replace S : St w [(w.heap.size, 0, .slice p0 n0 c0), (w.heap.size, 1, .bool b0)] [(w.heap.size, 0), (w.heap.size, 1)] (w.alloc (.cells #[.slice p0 n0 c0, .bool b0] 51)) := S.made (w.heap.size) [.slice p0 n0 c0, .bool b0] 51 (by simp)
  replace S : St w [(w.heap.size + 1, 0, .slice p1 n1 c1), (w.heap.size + 1, 1, .bool true), (w.heap.size, 0, .slice p0 n0 c0), (w.heap.size, 1, .bool b0)] [(w.heap.size + 1, 0), (w.heap.size + 1, 1), (w.heap.size, 0), (w.heap.size, 1)] ((w.alloc (.cells #[.slice p0 n0 c0, .bool b0] 51)).alloc (.cells #[.slice p1 n1 c1, .bool true] 51)) := S.made (w.heap.size + 1) [.slice p1 n1 c1, .bool true] 51 (by simp)
  replace S : St w [(w.heap.size + 1 + 1, 0, .slice none 0 0), (w.heap.size + 1 + 1, 1, .bool false), (w.heap.size + 1 + 1, 2, .slice none 0 0), (w.heap.size + 1 + 1, 3, .bool false), (w.heap.size + 1, 0, .slice p1 n1 c1), (w.heap.size + 1, 1, .bool true), (w.heap.size, 0, .slice p0 n0 c0), (w.heap.size, 1, .bool b0)] [(w.heap.size + 1 + 1, 0), (w.heap.size + 1 + 1, 1), (w.heap.size + 1 + 1, 2), (w.heap.size + 1 + 1, 3), (w.heap.size + 1, 0), (w.heap.size + 1, 1), (w.heap.size, 0), (w.heap.size, 1)] (((w.alloc (.cells #[.slice p0 n0 c0, .bool b0] 51)).alloc (.cells #[.slice p1 n1 c1, .bool true] 51)).alloc (.cells #[.slice none 0 0, .bool false, .slice none 0 0, .bool false] 53)) := S.made (w.heap.size + 1 + 1) [.slice none 0 0, .bool false, .slice none 0 0, .bool false] 53 (by simp)
  replace Hz := Lib.hid (Hz.out.kp (((Kp.of (grown_alloc w (.cells #[.slice p0 n0 c0, .bool b0] 51) none)).trans (Kp.of (grown_alloc ((w.alloc (.cells #[.slice p0 n0 c0, .bool b0] 51))) (.cells #[.slice p1 n1 c1, .bool true] 51) none))).trans (Kp.of (grown_alloc (((w.alloc (.cells #[.slice p0 n0 c0, .bool b0] 51)).alloc (.cells #[.slice p1 n1 c1, .bool true] 51))) (.cells #[.slice none 0 0, .bool false, .slice none 0 0, .bool false] 53) none))))
  replace Hy := Lib.hid (Hy.out.kp (((Kp.of (grown_alloc w (.cells #[.slice p0 n0 c0, .bool b0] 51) none)).trans (Kp.of (grown_alloc ((w.alloc (.cells #[.slice p0 n0 c0, .bool b0] 51))) (.cells #[.slice p1 n1 c1, .bool true] 51) none))).trans (Kp.of (grown_alloc (((w.alloc (.cells #[.slice p0 n0 c0, .bool b0] 51)).alloc (.cells #[.slice p1 n1 c1, .bool true] 51))) (.cells #[.slice none 0 0, .bool false, .slice none 0 0, .bool false] 53) none))))
  have sz10 : (((w.alloc (.cells #[.slice p0 n0 c0, .bool b0] 51)).alloc (.cells #[.slice p1 n1 c1, .bool true] 51)).alloc (.cells #[.slice none 0 0, .bool false, .slice none 0 0, .bool false] 53)).heap.size = w.heap.size + 3 := by simp
  generalize (((w.alloc (.cells #[.slice p0 n0 c0, .bool b0] 51)).alloc (.cells #[.slice p1 n1 c1, .bool true] 51)).alloc (.cells #[.slice none 0 0, .bool false, .slice none 0 0, .bool false] 53)) = W10 at *
  go_at_call 75
  with_reducible refine (Zero_h Hy.out Y0.out).mono ?_
  rintro e w11 ⟨rfl, g⟩
  replace Hz := Lib.hid (Hz.out.kp (Kp.of g))
  replace Hy := Lib.hid (Hy.out.kp (Kp.of g))
  replace S := S.step g
  have lg11 := g.size
  clear g
  have l0 := S.ltc (g := w.heap.size) (o := 0) (x := .slice p0 n0 c0) (by simp)
  have l1 := S.ltc (g := w.heap.size + 1) (o := 0) (x := .slice p1 n1 c1) (by simp)
  have l2 := S.ltc (g := w.heap.size + 1 + 1) (o := 0) (x := .slice none 0 0) (by simp)
  have lS := S.size
  obtain ⟨e0, e1, e2, e3, e4, e5, e6, e7, h0, i0, h1, i1, h2, i2, h3, i3, h4, i4, h5, i5, h6, i6, h7, i7, G⟩ := id S
  go_wp2_with fail
  clear e0 e1 e2 e3 e4 e5 e6 e7 h0 i0 h1 i1 h2 i2 h3 i3 h4 i4 h5 i5 h6 i6 h7 i7 G
  have T0 : Cl [(w.heap.size, 0, .slice p0 n0 c0), (w.heap.size, 1, .bool b0), (w.heap.size + 1, 0, .slice p1 n1 c1), (w.heap.size + 1, 1, .bool true)] w11 := S.cl (by simp)
  refine wp_region_noPanic ?_
  refine AnyUntil.start (T := fun w' => w'.cell? ⟨w.heap.size, 0, none⟩ = some (.slice p0 n0 c0) ∧ w'.cell? ⟨w.heap.size, 1, none⟩ = some (.bool b0) ∧ w'.cell? ⟨w.heap.size + 1, 0, none⟩ = some (.slice p1 n1 c1) ∧ w'.cell? ⟨w.heap.size + 1, 1, none⟩ = some (.bool true) ∧ True) 4 (by kernel_rfl) (by exact Cl.step (cs := [(w.heap.size, 0, .slice p0 n0 c0), (w.heap.size, 1, .bool b0), (w.heap.size + 1, 0, .slice p1 n1 c1), (w.heap.size + 1, 1, .bool true)]) (grown_drew _ _) T0) (fun hHeld => ?_)
  change AnyUntil _ _ _ _ _ _ 6 #[false, false, false, false, false, false] _ _
  replace S := S.step (grown_drew w11 none)
  replace Hz := Lib.hid (Hz.out.kp (Kp.of (grown_drew w11 none)))
  replace Hy := Lib.hid (Hy.out.kp (Kp.of (grown_drew w11 none)))
  have lg12 := (grown_drew w11 none).size
  clear T0
  generalize w11.drew = wr12 at *
  clear l0 l1 l2 lS
  have l0 := S.ltc (g := w.heap.size) (o := 0) (x := .slice p0 n0 c0) (by simp)
  have l1 := S.ltc (g := w.heap.size + 1) (o := 0) (x := .slice p1 n1 c1) (by simp)
  have l2 := S.ltc (g := w.heap.size + 1 + 1) (o := 0) (x := .slice none 0 0) (by simp)
  have lS := S.size
  refine AnyUntil.take [4, 1] (i := 0) (oi := _) (v := ?vq13) rfl (by kernel_rfl) (by kernel_rfl) (by kernel_rfl) (by kernel_rfl) (fun _ _ _ h => h) (Or.inl ⟨by rfl, ?hyq13⟩) (by assumption) ?restq13
  case hyq13 => (intro w hSw; (try dsimp only at hSw); go_simp; try with_reducible rfl)
  try simp only [Act.put, List.getElem_toArray, List.getElem_cons_zero, List.setIfInBounds_toArray, List.set_cons_zero, List.set_cons_succ]
  refine AnyUntil.take [4, 3] (i := 2) (oi := _) (v := ?vq14) rfl (by kernel_rfl) (by kernel_rfl) (by kernel_rfl) (by kernel_rfl) (fun _ _ _ h => h) (Or.inl ⟨by rfl, ?hyq14⟩) (by assumption) ?restq14
  case hyq14 => (intro w hSw; (try dsimp only at hSw); go_simp; try with_reducible rfl)
  try simp only [Act.put, List.getElem_toArray, List.getElem_cons_zero, List.getElem_cons_succ, List.setIfInBounds_toArray, List.set_cons_zero, List.set_cons_succ]
  obtain ⟨z16, ez16⟩ : ∃ t : Int, -z = t := ⟨_, rfl⟩
  have E16 := Lib.hid ez16
  clear ez16
  refine AnyUntil.ready (rs := [1]) (by kernel_rfl) (by simp) ?_
  refine Each.held (o := _) rfl (fun K hK => ?_) Each.nil
  go_simp
  go_at_call 76
  with_reducible refine (Neg_h Hz.out E16.out).mono ?_
  rintro e w17 ⟨p16, n16, c16, b16, rfl, h, g⟩
  clear Hz
  replace Hy := Lib.hid (Hy.out.kp (Kp.of g))
  have N16 := Lib.hid (h)
  replace S := S.step g
  have lg17 := g.size
  clear l0 l1 l2 lS
  have l0 := S.ltc (g := w.heap.size) (o := 0) (x := .slice p0 n0 c0) (by simp)
  have l1 := S.ltc (g := w.heap.size + 1) (o := 0) (x := .slice p1 n1 c1) (by simp)
  have l2 := S.ltc (g := w.heap.size + 1 + 1) (o := 0) (x := .slice none 0 0) (by simp)
  have lS := S.size
  go_wp2_with fail
  refine hK.out _ _ ?hSq15 (fun hHeld => ?_)
  case hSq15 => exact Cl.step (cs := [(w.heap.size, 0, .slice p0 n0 c0), (w.heap.size, 1, .bool b0), (w.heap.size + 1, 0, .slice p1 n1 c1), (w.heap.size + 1, 1, .bool true)]) g (by assumption)
  clear hK K g h
  try simp only [List.setIfInBounds_toArray, List.set_cons_zero, List.set_cons_succ]
  obtain ⟨z19, ez19⟩ : ∃ t : Int, -y = t := ⟨_, rfl⟩
  have E19 := Lib.hid ez19
  clear ez19
  refine AnyUntil.ready (rs := [3]) (by kernel_rfl) (by simp) ?_
  refine Each.held (o := _) rfl (fun K hK => ?_) Each.nil
  go_simp
  go_at_call 76
  with_reducible refine (Neg_h Hy.out E19.out).mono ?_
  rintro e w20 ⟨p19, n19, c19, b19, rfl, h, g⟩
  clear Hy
  replace N16 := Lib.hid (N16.out.kp (Kp.of g))
  obtain ⟨e1, e2⟩ := h.flag
  rw [← E19.out, Int.natAbs_neg] at e2
  obtain rfl : n19 = 1 := e2.trans L1.out
  obtain ⟨blk, off, rfl, hc⟩ := h.one
  have C1 := Lib.hid (show Cel _ blk off 1 by rw [← E19.out, Int.natAbs_neg, Y1.out] at hc; exact hc)
  clear hc e1 e2
  have N19 := Lib.hid (h)
  have C1 := Lib.hid (C1.out)
  replace S := S.step g
  have lg20 := g.size
  clear l0 l1 l2 lS
  have l0 := S.ltc (g := w.heap.size) (o := 0) (x := .slice p0 n0 c0) (by simp)
  have l1 := S.ltc (g := w.heap.size + 1) (o := 0) (x := .slice p1 n1 c1) (by simp)
  have l2 := S.ltc (g := w.heap.size + 1 + 1) (o := 0) (x := .slice none 0 0) (by simp)
  have lS := S.size
  go_wp2_with fail
  refine hK.out _ _ ?hSq18 (fun hHeld => ?_)
  case hSq18 => exact Cl.step (cs := [(w.heap.size, 0, .slice p0 n0 c0), (w.heap.size, 1, .bool b0), (w.heap.size + 1, 0, .slice p1 n1 c1), (w.heap.size + 1, 1, .bool true)]) g (by assumption)
  clear hK K g h
  try simp only [List.setIfInBounds_toArray, List.set_cons_zero, List.set_cons_succ]
  obtain ⟨e0, e1, e2, e3, e4, e5, e6, e7, h0, i0, h1, i1, h2, i2, h3, i3, h4, i4, h5, i5, h6, i6, h7, i7, G⟩ := id S
  refine AnyUntil.ready (rs := [4]) (by kernel_rfl) (by simp) ?_
  refine Each.free (o := _) (by kernel_rfl) rfl (fun K hK => ?_) Each.nil
  go_simp
  refine hK.out _ _ ?_
  clear hK K
  try simp only [List.setIfInBounds_toArray, List.set_cons_zero, List.set_cons_succ]
  clear e0 e1 e2 e3 e4 e5 e6 e7 h0 i0 h1 i1 h2 i2 h3 i3 h4 i4 h5 i5 h6 i6 h7 i7 G
  have K22 : Kp w20 (w20.setCell ⟨w.heap.size, 0, none⟩ (.slice p16 n16 c16)) := S.kp (g := w.heap.size) (o := 0) (x := .slice p0 n0 c0) (.slice p16 n16 c16) (by simp) (by simp)
  replace S : St w [(w.heap.size, 0, .slice p16 n16 c16), (w.heap.size + 1 + 1, 0, .slice none 0 0), (w.heap.size + 1 + 1, 1, .bool false), (w.heap.size + 1 + 1, 2, .slice none 0 0), (w.heap.size + 1 + 1, 3, .bool false), (w.heap.size + 1, 0, .slice p1 n1 c1), (w.heap.size + 1, 1, .bool true), (w.heap.size, 1, .bool b0)] [(w.heap.size + 1 + 1, 0), (w.heap.size + 1 + 1, 1), (w.heap.size + 1 + 1, 2), (w.heap.size + 1 + 1, 3), (w.heap.size + 1, 0), (w.heap.size + 1, 1), (w.heap.size, 0), (w.heap.size, 1)] (w20.setCell ⟨w.heap.size, 0, none⟩ (.slice p16 n16 c16)) := S.set (g := w.heap.size) (o := 0) (.slice p16 n16 c16) (by simp) (by simp <;> omega) (by omega)
  have K23 : Kp (w20.setCell ⟨w.heap.size, 0, none⟩ (.slice p16 n16 c16)) ((w20.setCell ⟨w.heap.size, 0, none⟩ (.slice p16 n16 c16)).setCell ⟨w.heap.size, 1, none⟩ (.bool b16)) := S.kp (g := w.heap.size) (o := 1) (x := .bool b0) (.bool b16) (by simp) (by simp)
  replace S : St w [(w.heap.size, 1, .bool b16), (w.heap.size + 1 + 1, 0, .slice none 0 0), (w.heap.size + 1 + 1, 1, .bool false), (w.heap.size + 1 + 1, 2, .slice none 0 0), (w.heap.size + 1 + 1, 3, .bool false), (w.heap.size + 1, 0, .slice p1 n1 c1), (w.heap.size + 1, 1, .bool true), (w.heap.size, 0, .slice p16 n16 c16)] [(w.heap.size + 1 + 1, 0), (w.heap.size + 1 + 1, 1), (w.heap.size + 1 + 1, 2), (w.heap.size + 1 + 1, 3), (w.heap.size + 1, 0), (w.heap.size + 1, 1), (w.heap.size, 0), (w.heap.size, 1)] ((w20.setCell ⟨w.heap.size, 0, none⟩ (.slice p16 n16 c16)).setCell ⟨w.heap.size, 1, none⟩ (.bool b16)) := S.set (g := w.heap.size) (o := 1) (.bool b16) (by simp) (by simp <;> omega) (by omega)
  replace S : St w [(w.heap.size + 1 + 1, 0, .slice none 0 0), (w.heap.size + 1 + 1, 1, .bool false), (w.heap.size + 1 + 1, 2, .slice none 0 0), (w.heap.size + 1 + 1, 3, .bool false), (w.heap.size + 1, 0, .slice p1 n1 c1), (w.heap.size + 1, 1, .bool true), (w.heap.size, 0, .slice p16 n16 c16), (w.heap.size, 1, .bool b16)] [(w.heap.size + 1 + 1, 0), (w.heap.size + 1 + 1, 1), (w.heap.size + 1 + 1, 2), (w.heap.size + 1 + 1, 3), (w.heap.size + 1, 0), (w.heap.size + 1, 1), (w.heap.size, 0), (w.heap.size, 1)] ((w20.setCell ⟨w.heap.size, 0, none⟩ (.slice p16 n16 c16)).setCell ⟨w.heap.size, 1, none⟩ (.bool b16)) := S.sub (by simp) (by simp)
  replace N16 := Lib.hid (N16.out.kp (K22.trans K23))
  replace N19 := Lib.hid (N19.out.kp (K22.trans K23))
  replace C1 := Lib.hid (C1.out.kp (K22.trans K23))
  clear K22 K23
  have sz24 : ((w20.setCell ⟨w.heap.size, 0, none⟩ (.slice p16 n16 c16)).setCell ⟨w.heap.size, 1, none⟩ (.bool b16)).heap.size = w20.heap.size := by simp
  generalize ((w20.setCell ⟨w.heap.size, 0, none⟩ (.slice p16 n16 c16)).setCell ⟨w.heap.size, 1, none⟩ (.bool b16)) = W24 at *
  clear l0 l1 l2 lS
  have l0 := S.ltc (g := w.heap.size) (o := 0) (x := .slice p16 n16 c16) (by simp)
  have l1 := S.ltc (g := w.heap.size + 1) (o := 0) (x := .slice p1 n1 c1) (by simp)
  have l2 := S.ltc (g := w.heap.size + 1 + 1) (o := 0) (x := .slice none 0 0) (by simp)
  have lS := S.size
  obtain ⟨e0, e1, e2, e3, e4, e5, e6, e7, h0, i0, h1, i1, h2, i2, h3, i3, h4, i4, h5, i5, h6, i6, h7, i7, G⟩ := id S
  refine AnyUntil.ready (rs := [5]) (by kernel_rfl) (by simp) ?_
  refine Each.free (o := _) (by kernel_rfl) rfl (fun K hK => ?_) Each.nil
  go_simp
  refine hK.out _ _ ?_
  clear hK K
  try simp only [List.setIfInBounds_toArray, List.set_cons_zero, List.set_cons_succ]
  clear e0 e1 e2 e3 e4 e5 e6 e7 h0 i0 h1 i1 h2 i2 h3 i3 h4 i4 h5 i5 h6 i6 h7 i7 G
  have K26 : Kp W24 (W24.setCell ⟨w.heap.size + 1, 0, none⟩ (.slice (some ⟨blk, off, none⟩) 1 c19)) := S.kp (g := w.heap.size + 1) (o := 0) (x := .slice p1 n1 c1) (.slice (some ⟨blk, off, none⟩) 1 c19) (by simp) (by simp)
  replace S : St w [(w.heap.size + 1, 0, .slice (some ⟨blk, off, none⟩) 1 c19), (w.heap.size + 1 + 1, 0, .slice none 0 0), (w.heap.size + 1 + 1, 1, .bool false), (w.heap.size + 1 + 1, 2, .slice none 0 0), (w.heap.size + 1 + 1, 3, .bool false), (w.heap.size + 1, 1, .bool true), (w.heap.size, 0, .slice p16 n16 c16), (w.heap.size, 1, .bool b16)] [(w.heap.size + 1 + 1, 0), (w.heap.size + 1 + 1, 1), (w.heap.size + 1 + 1, 2), (w.heap.size + 1 + 1, 3), (w.heap.size + 1, 0), (w.heap.size + 1, 1), (w.heap.size, 0), (w.heap.size, 1)] (W24.setCell ⟨w.heap.size + 1, 0, none⟩ (.slice (some ⟨blk, off, none⟩) 1 c19)) := S.set (g := w.heap.size + 1) (o := 0) (.slice (some ⟨blk, off, none⟩) 1 c19) (by simp) (by simp <;> omega) (by omega)
  have K27 : Kp (W24.setCell ⟨w.heap.size + 1, 0, none⟩ (.slice (some ⟨blk, off, none⟩) 1 c19)) ((W24.setCell ⟨w.heap.size + 1, 0, none⟩ (.slice (some ⟨blk, off, none⟩) 1 c19)).setCell ⟨w.heap.size + 1, 1, none⟩ (.bool b19)) := S.kp (g := w.heap.size + 1) (o := 1) (x := .bool true) (.bool b19) (by simp) (by simp)
  replace S : St w [(w.heap.size + 1, 1, .bool b19), (w.heap.size + 1 + 1, 0, .slice none 0 0), (w.heap.size + 1 + 1, 1, .bool false), (w.heap.size + 1 + 1, 2, .slice none 0 0), (w.heap.size + 1 + 1, 3, .bool false), (w.heap.size + 1, 0, .slice (some ⟨blk, off, none⟩) 1 c19), (w.heap.size, 0, .slice p16 n16 c16), (w.heap.size, 1, .bool b16)] [(w.heap.size + 1 + 1, 0), (w.heap.size + 1 + 1, 1), (w.heap.size + 1 + 1, 2), (w.heap.size + 1 + 1, 3), (w.heap.size + 1, 0), (w.heap.size + 1, 1), (w.heap.size, 0), (w.heap.size, 1)] ((W24.setCell ⟨w.heap.size + 1, 0, none⟩ (.slice (some ⟨blk, off, none⟩) 1 c19)).setCell ⟨w.heap.size + 1, 1, none⟩ (.bool b19)) := S.set (g := w.heap.size + 1) (o := 1) (.bool b19) (by simp) (by simp <;> omega) (by omega)
  replace S : St w [(w.heap.size + 1 + 1, 0, .slice none 0 0), (w.heap.size + 1 + 1, 1, .bool false), (w.heap.size + 1 + 1, 2, .slice none 0 0), (w.heap.size + 1 + 1, 3, .bool false), (w.heap.size + 1, 0, .slice (some ⟨blk, off, none⟩) 1 c19), (w.heap.size + 1, 1, .bool b19), (w.heap.size, 0, .slice p16 n16 c16), (w.heap.size, 1, .bool b16)] [(w.heap.size + 1 + 1, 0), (w.heap.size + 1 + 1, 1), (w.heap.size + 1 + 1, 2), (w.heap.size + 1 + 1, 3), (w.heap.size + 1, 0), (w.heap.size + 1, 1), (w.heap.size, 0), (w.heap.size, 1)] ((W24.setCell ⟨w.heap.size + 1, 0, none⟩ (.slice (some ⟨blk, off, none⟩) 1 c19)).setCell ⟨w.heap.size + 1, 1, none⟩ (.bool b19)) := S.sub (by simp) (by simp)
  replace N16 := Lib.hid (N16.out.kp (K26.trans K27))
  replace N19 := Lib.hid (N19.out.kp (K26.trans K27))
  replace C1 := Lib.hid (C1.out.kp (K26.trans K27))
  clear K26 K27
  have sz28 : ((W24.setCell ⟨w.heap.size + 1, 0, none⟩ (.slice (some ⟨blk, off, none⟩) 1 c19)).setCell ⟨w.heap.size + 1, 1, none⟩ (.bool b19)).heap.size = W24.heap.size := by simp
  generalize ((W24.setCell ⟨w.heap.size + 1, 0, none⟩ (.slice (some ⟨blk, off, none⟩) 1 c19)).setCell ⟨w.heap.size + 1, 1, none⟩ (.bool b19)) = W28 at *
  clear l0 l1 l2 lS
  have l0 := S.ltc (g := w.heap.size) (o := 0) (x := .slice p16 n16 c16) (by simp)
  have l1 := S.ltc (g := w.heap.size + 1) (o := 0) (x := .slice (some ⟨blk, off, none⟩) 1 c19) (by simp)
  have l2 := S.ltc (g := w.heap.size + 1 + 1) (o := 0) (x := .slice none 0 0) (by simp)
  have lS := S.size
  refine AnyUntil.end (by kernel_rfl) ?_ _
  refine NoPanic.normal ?_
  have hcell := C1.out
  unfold Cel at hcell
  obtain ⟨e0, e1, e2, e3, e4, e5, e6, e7, h0, i0, h1, i1, h2, i2, h3, i3, h4, i4, h5, i5, h6, i6, h7, i7, G⟩ := id S
  go_wp2_with fail
  clear e0 e1 e2 e3 e4 e5 e6 e7 h0 i0 h1 i1 h2 i2 h3 i3 h4 i4 h5 i5 h6 i6 h7 i7 G hcell
  have K29 : Kp W28 (W28.setCell ⟨w.heap.size + 1 + 1, 0, none⟩ (.slice p16 n16 c16)) := S.kp (g := w.heap.size + 1 + 1) (o := 0) (x := .slice none 0 0) (.slice p16 n16 c16) (by simp) (by simp)
  replace S : St w [(w.heap.size + 1 + 1, 0, .slice p16 n16 c16), (w.heap.size + 1 + 1, 1, .bool false), (w.heap.size + 1 + 1, 2, .slice none 0 0), (w.heap.size + 1 + 1, 3, .bool false), (w.heap.size + 1, 0, .slice (some ⟨blk, off, none⟩) 1 c19), (w.heap.size + 1, 1, .bool b19), (w.heap.size, 0, .slice p16 n16 c16), (w.heap.size, 1, .bool b16)] [(w.heap.size + 1 + 1, 0), (w.heap.size + 1 + 1, 1), (w.heap.size + 1 + 1, 2), (w.heap.size + 1 + 1, 3), (w.heap.size + 1, 0), (w.heap.size + 1, 1), (w.heap.size, 0), (w.heap.size, 1)] (W28.setCell ⟨w.heap.size + 1 + 1, 0, none⟩ (.slice p16 n16 c16)) := S.set (g := w.heap.size + 1 + 1) (o := 0) (.slice p16 n16 c16) (by simp) (by simp <;> omega) (by omega)
  have K30 : Kp (W28.setCell ⟨w.heap.size + 1 + 1, 0, none⟩ (.slice p16 n16 c16)) ((W28.setCell ⟨w.heap.size + 1 + 1, 0, none⟩ (.slice p16 n16 c16)).setCell ⟨w.heap.size + 1 + 1, 1, none⟩ (.bool b16)) := S.kp (g := w.heap.size + 1 + 1) (o := 1) (x := .bool false) (.bool b16) (by simp) (by simp)
  replace S : St w [(w.heap.size + 1 + 1, 1, .bool b16), (w.heap.size + 1 + 1, 0, .slice p16 n16 c16), (w.heap.size + 1 + 1, 2, .slice none 0 0), (w.heap.size + 1 + 1, 3, .bool false), (w.heap.size + 1, 0, .slice (some ⟨blk, off, none⟩) 1 c19), (w.heap.size + 1, 1, .bool b19), (w.heap.size, 0, .slice p16 n16 c16), (w.heap.size, 1, .bool b16)] [(w.heap.size + 1 + 1, 0), (w.heap.size + 1 + 1, 1), (w.heap.size + 1 + 1, 2), (w.heap.size + 1 + 1, 3), (w.heap.size + 1, 0), (w.heap.size + 1, 1), (w.heap.size, 0), (w.heap.size, 1)] ((W28.setCell ⟨w.heap.size + 1 + 1, 0, none⟩ (.slice p16 n16 c16)).setCell ⟨w.heap.size + 1 + 1, 1, none⟩ (.bool b16)) := S.set (g := w.heap.size + 1 + 1) (o := 1) (.bool b16) (by simp) (by simp <;> omega) (by omega)
  have K31 : Kp ((W28.setCell ⟨w.heap.size + 1 + 1, 0, none⟩ (.slice p16 n16 c16)).setCell ⟨w.heap.size + 1 + 1, 1, none⟩ (.bool b16)) (((W28.setCell ⟨w.heap.size + 1 + 1, 0, none⟩ (.slice p16 n16 c16)).setCell ⟨w.heap.size + 1 + 1, 1, none⟩ (.bool b16)).setCell ⟨w.heap.size + 1 + 1, 2, none⟩ (.slice (some ⟨blk, off, none⟩) 1 c19)) := S.kp (g := w.heap.size + 1 + 1) (o := 2) (x := .slice none 0 0) (.slice (some ⟨blk, off, none⟩) 1 c19) (by simp) (by simp)
  replace S : St w [(w.heap.size + 1 + 1, 2, .slice (some ⟨blk, off, none⟩) 1 c19), (w.heap.size + 1 + 1, 0, .slice p16 n16 c16), (w.heap.size + 1 + 1, 1, .bool b16), (w.heap.size + 1 + 1, 3, .bool false), (w.heap.size + 1, 0, .slice (some ⟨blk, off, none⟩) 1 c19), (w.heap.size + 1, 1, .bool b19), (w.heap.size, 0, .slice p16 n16 c16), (w.heap.size, 1, .bool b16)] [(w.heap.size + 1 + 1, 0), (w.heap.size + 1 + 1, 1), (w.heap.size + 1 + 1, 2), (w.heap.size + 1 + 1, 3), (w.heap.size + 1, 0), (w.heap.size + 1, 1), (w.heap.size, 0), (w.heap.size, 1)] (((W28.setCell ⟨w.heap.size + 1 + 1, 0, none⟩ (.slice p16 n16 c16)).setCell ⟨w.heap.size + 1 + 1, 1, none⟩ (.bool b16)).setCell ⟨w.heap.size + 1 + 1, 2, none⟩ (.slice (some ⟨blk, off, none⟩) 1 c19)) := S.set (g := w.heap.size + 1 + 1) (o := 2) (.slice (some ⟨blk, off, none⟩) 1 c19) (by simp) (by simp <;> omega) (by omega)
  have K32 : Kp (((W28.setCell ⟨w.heap.size + 1 + 1, 0, none⟩ (.slice p16 n16 c16)).setCell ⟨w.heap.size + 1 + 1, 1, none⟩ (.bool b16)).setCell ⟨w.heap.size + 1 + 1, 2, none⟩ (.slice (some ⟨blk, off, none⟩) 1 c19)) ((((W28.setCell ⟨w.heap.size + 1 + 1, 0, none⟩ (.slice p16 n16 c16)).setCell ⟨w.heap.size + 1 + 1, 1, none⟩ (.bool b16)).setCell ⟨w.heap.size + 1 + 1, 2, none⟩ (.slice (some ⟨blk, off, none⟩) 1 c19)).setCell ⟨w.heap.size + 1 + 1, 3, none⟩ (.bool b19)) := S.kp (g := w.heap.size + 1 + 1) (o := 3) (x := .bool false) (.bool b19) (by simp) (by simp)
  replace S : St w [(w.heap.size + 1 + 1, 3, .bool b19), (w.heap.size + 1 + 1, 0, .slice p16 n16 c16), (w.heap.size + 1 + 1, 1, .bool b16), (w.heap.size + 1 + 1, 2, .slice (some ⟨blk, off, none⟩) 1 c19), (w.heap.size + 1, 0, .slice (some ⟨blk, off, none⟩) 1 c19), (w.heap.size + 1, 1, .bool b19), (w.heap.size, 0, .slice p16 n16 c16), (w.heap.size, 1, .bool b16)] [(w.heap.size + 1 + 1, 0), (w.heap.size + 1 + 1, 1), (w.heap.size + 1 + 1, 2), (w.heap.size + 1 + 1, 3), (w.heap.size + 1, 0), (w.heap.size + 1, 1), (w.heap.size, 0), (w.heap.size, 1)] ((((W28.setCell ⟨w.heap.size + 1 + 1, 0, none⟩ (.slice p16 n16 c16)).setCell ⟨w.heap.size + 1 + 1, 1, none⟩ (.bool b16)).setCell ⟨w.heap.size + 1 + 1, 2, none⟩ (.slice (some ⟨blk, off, none⟩) 1 c19)).setCell ⟨w.heap.size + 1 + 1, 3, none⟩ (.bool b19)) := S.set (g := w.heap.size + 1 + 1) (o := 3) (.bool b19) (by simp) (by simp <;> omega) (by omega)
  replace S : St w [(w.heap.size + 1 + 1, 0, .slice p16 n16 c16), (w.heap.size + 1 + 1, 1, .bool b16), (w.heap.size + 1 + 1, 2, .slice (some ⟨blk, off, none⟩) 1 c19), (w.heap.size + 1 + 1, 3, .bool b19), (w.heap.size + 1, 0, .slice (some ⟨blk, off, none⟩) 1 c19), (w.heap.size + 1, 1, .bool b19), (w.heap.size, 0, .slice p16 n16 c16), (w.heap.size, 1, .bool b16)] [(w.heap.size + 1 + 1, 0), (w.heap.size + 1 + 1, 1), (w.heap.size + 1 + 1, 2), (w.heap.size + 1 + 1, 3), (w.heap.size + 1, 0), (w.heap.size + 1, 1), (w.heap.size, 0), (w.heap.size, 1)] ((((W28.setCell ⟨w.heap.size + 1 + 1, 0, none⟩ (.slice p16 n16 c16)).setCell ⟨w.heap.size + 1 + 1, 1, none⟩ (.bool b16)).setCell ⟨w.heap.size + 1 + 1, 2, none⟩ (.slice (some ⟨blk, off, none⟩) 1 c19)).setCell ⟨w.heap.size + 1 + 1, 3, none⟩ (.bool b19)) := S.sub (by simp) (by simp)
  replace N16 := Lib.hid (N16.out.kp (((K29.trans K30).trans K31).trans K32))
  replace N19 := Lib.hid (N19.out.kp (((K29.trans K30).trans K31).trans K32))
  clear C1 K29 K30 K31 K32
  have sz33 : ((((W28.setCell ⟨w.heap.size + 1 + 1, 0, none⟩ (.slice p16 n16 c16)).setCell ⟨w.heap.size + 1 + 1, 1, none⟩ (.bool b16)).setCell ⟨w.heap.size + 1 + 1, 2, none⟩ (.slice (some ⟨blk, off, none⟩) 1 c19)).setCell ⟨w.heap.size + 1 + 1, 3, none⟩ (.bool b19)).heap.size = W28.heap.size := by simp
  generalize ((((W28.setCell ⟨w.heap.size + 1 + 1, 0, none⟩ (.slice p16 n16 c16)).setCell ⟨w.heap.size + 1 + 1, 1, none⟩ (.bool b16)).setCell ⟨w.heap.size + 1 + 1, 2, none⟩ (.slice (some ⟨blk, off, none⟩) 1 c19)).setCell ⟨w.heap.size + 1 + 1, 3, none⟩ (.bool b19)) = W33 at *
  refine post_S Tryz.results26 rfl rfl (S.cell (g := w.heap.size + 1 + 1) (o := 0) (x := .slice p16 n16 c16) (by simp)) (S.cell (g := w.heap.size + 1 + 1) (o := 1) (x := .bool b16) (by simp)) (S.cell (g := w.heap.size + 1 + 1) (o := 2) (x := .slice (some ⟨blk, off, none⟩) 1 c19) (by simp)) (S.cell (g := w.heap.size + 1 + 1) (o := 3) (x := .bool b19) (by simp)) ⟨_, _, _, _, _, _, _, _, rfl, ⟨_, _, _, _, _, _, _, _, rfl, (N16.out.eqz (show z16 = _ by rw [(show qOf z y = Rat.divInt (-z) 1 by rw [qOf_ne (of_decide_eq_false Y0.out), ← Rat.neg_divInt_neg, (show -y = 1 by have := Y1.out; omega)]), num_one, E16.out])).more (by omega), (N19.out.eqz (show z19 = _ by rw [(show qOf z y = Rat.divInt (-z) 1 by rw [qOf_ne (of_decide_eq_false Y0.out), ← Rat.neg_divInt_neg, (show -y = 1 by have := Y1.out; omega)]), den_one, ← E19.out]; have := Y1.out; omega)).more (by omega)⟩, S.all⟩

set_option maxHeartbeats 4000000 in
set_option maxRecDepth 100000 in
theorem Make_neg_digit {b0 : Bool} {p0 p1 : Option Addr} {n0 c0 n1 c1 : Nat} {z y : Int} {i j : Nat} {w : World} (hz : DecI w (.agg #[.slice p0 n0 c0, .bool b0]) z i) (hy : DecI w (.agg #[.slice p1 n1 c1, .bool true]) y j) (hk : i + j ≤ 200000) (h0 : y < 0) (hl : (dig 10000 y.natAbs).length = 1) (h1 : y.natAbs ≠ 1) :
    Calls Tryz.prog 26 #[.agg #[.slice p0 n0 c0, .bool b0], .agg #[.slice p1 n1 c1, .bool true]] w (GotS w (qOf z y) (i + j + 2)) := by
  have Hz := Lib.hid hz
  have Hy := Lib.hid hy
  clear hz hy
  have Y0 := Lib.hid (show decide (y = 0) = false from decide_eq_false (by omega))
  have L1 := Lib.hid hl
  clear hl
  obtain ⟨m, hm⟩ : ∃ m, y.natAbs = m := ⟨_, rfl⟩
  have t5 : ((m : Int) == 1) = false := beq_eq_false_iff_ne.2 (by omega)
  have M1 := Lib.hid hm
  clear hm h1
  have S : St w [] [] w := St.start w
  go_enter Tryz.func26, Tryz.ntmps26
  have G := S
  go_wp2_with fail
  clear G
  replace S : St w [(w.heap.size, 0, .slice p0 n0 c0), (w.heap.size, 1, .bool b0)] [(w.heap.size, 0), (w.heap.size, 1)] (w.alloc (.cells #[.slice p0 n0 c0, .bool b0] 51)) := S.made (w.heap.size) [.slice p0 n0 c0, .bool b0] 51 (by simp)
  replace S : St w [(w.heap.size + 1, 0, .slice p1 n1 c1), (w.heap.size + 1, 1, .bool true), (w.heap.size, 0, .slice p0 n0 c0), (w.heap.size, 1, .bool b0)] [(w.heap.size + 1, 0), (w.heap.size + 1, 1), (w.heap.size, 0), (w.heap.size, 1)] ((w.alloc (.cells #[.slice p0 n0 c0, .bool b0] 51)).alloc (.cells #[.slice p1 n1 c1, .bool true] 51)) := S.made (w.heap.size + 1) [.slice p1 n1 c1, .bool true] 51 (by simp)
  replace S : St w [(w.heap.size + 1 + 1, 0, .slice none 0 0), (w.heap.size + 1 + 1, 1, .bool false), (w.heap.size + 1 + 1, 2, .slice none 0 0), (w.heap.size + 1 + 1, 3, .bool false), (w.heap.size + 1, 0, .slice p1 n1 c1), (w.heap.size + 1, 1, .bool true), (w.heap.size, 0, .slice p0 n0 c0), (w.heap.size, 1, .bool b0)] [(w.heap.size + 1 + 1, 0), (w.heap.size + 1 + 1, 1), (w.heap.size + 1 + 1, 2), (w.heap.size + 1 + 1, 3), (w.heap.size + 1, 0), (w.heap.size + 1, 1), (w.heap.size, 0), (w.heap.size, 1)] (((w.alloc (.cells #[.slice p0 n0 c0, .bool b0] 51)).alloc (.cells #[.slice p1 n1 c1, .bool true] 51)).alloc (.cells #[.slice none 0 0, .bool false, .slice none 0 0, .bool false] 53)) := S.made (w.heap.size + 1 + 1) [.slice none 0 0, .bool false, .slice none 0 0, .bool false] 53 (by simp)
  replace Hz := Lib.hid (Hz.out.kp (((Kp.of (grown_alloc w (.cells #[.slice p0 n0 c0, .bool b0] 51) none)).trans (Kp.of (grown_alloc ((w.alloc (.cells #[.slice p0 n0 c0, .bool b0] 51))) (.cells #[.slice p1 n1 c1, .bool true] 51) none))).trans (Kp.of (grown_alloc (((w.alloc (.cells #[.slice p0 n0 c0, .bool b0] 51)).alloc (.cells #[.slice p1 n1 c1, .bool true] 51))) (.cells #[.slice none 0 0, .bool false, .slice none 0 0, .bool false] 53) none))))
  replace Hy := Lib.hid (Hy.out.kp (((Kp.of (grown_alloc w (.cells #[.slice p0 n0 c0, .bool b0] 51) none)).trans (Kp.of (grown_alloc ((w.alloc (.cells #[.slice p0 n0 c0, .bool b0] 51))) (.cells #[.slice p1 n1 c1, .bool true] 51) none))).trans (Kp.of (grown_alloc (((w.alloc (.cells #[.slice p0 n0 c0, .bool b0] 51)).alloc (.cells #[.slice p1 n1 c1, .bool true] 51))) (.cells #[.slice none 0 0, .bool false, .slice none 0 0, .bool false] 53) none))))
  have sz10 : (((w.alloc (.cells #[.slice p0 n0 c0, .bool b0] 51)).alloc (.cells #[.slice p1 n1 c1, .bool true] 51)).alloc (.cells #[.slice none 0 0, .bool false, .slice none 0 0, .bool false] 53)).heap.size = w.heap.size + 3 := by simp
  generalize (((w.alloc (.cells #[.slice p0 n0 c0, .bool b0] 51)).alloc (.cells #[.slice p1 n1 c1, .bool true] 51)).alloc (.cells #[.slice none 0 0, .bool false, .slice none 0 0, .bool false] 53)) = W10 at *
  go_at_call 75
  with_reducible refine (Zero_h Hy.out Y0.out).mono ?_
  rintro e w11 ⟨rfl, g⟩
  replace Hz := Lib.hid (Hz.out.kp (Kp.of g))
  replace Hy := Lib.hid (Hy.out.kp (Kp.of g))
  replace S := S.step g
  have lg11 := g.size
  clear g
  have l0 := S.ltc (g := w.heap.size) (o := 0) (x := .slice p0 n0 c0) (by simp)
  have l1 := S.ltc (g := w.heap.size + 1) (o := 0) (x := .slice p1 n1 c1) (by simp)
  have l2 := S.ltc (g := w.heap.size + 1 + 1) (o := 0) (x := .slice none 0 0) (by simp)
  have lS := S.size
  obtain ⟨e0, e1, e2, e3, e4, e5, e6, e7, h0, i0, h1, i1, h2, i2, h3, i3, h4, i4, h5, i5, h6, i6, h7, i7, G⟩ := id S
  go_wp2_with fail
  clear e0 e1 e2 e3 e4 e5 e6 e7 h0 i0 h1 i1 h2 i2 h3 i3 h4 i4 h5 i5 h6 i6 h7 i7 G
  have T0 : Cl [(w.heap.size, 0, .slice p0 n0 c0), (w.heap.size, 1, .bool b0), (w.heap.size + 1, 0, .slice p1 n1 c1), (w.heap.size + 1, 1, .bool true)] w11 := S.cl (by simp)
  refine wp_region_noPanic ?_
  refine AnyUntil.start (T := fun w' => w'.cell? ⟨w.heap.size, 0, none⟩ = some (.slice p0 n0 c0) ∧ w'.cell? ⟨w.heap.size, 1, none⟩ = some (.bool b0) ∧ w'.cell? ⟨w.heap.size + 1, 0, none⟩ = some (.slice p1 n1 c1) ∧ w'.cell? ⟨w.heap.size + 1, 1, none⟩ = some (.bool true) ∧ True) 4 (by kernel_rfl) (by exact Cl.step (cs := [(w.heap.size, 0, .slice p0 n0 c0), (w.heap.size, 1, .bool b0), (w.heap.size + 1, 0, .slice p1 n1 c1), (w.heap.size + 1, 1, .bool true)]) (grown_drew _ _) T0) (fun hHeld => ?_)
  change AnyUntil _ _ _ _ _ _ 6 #[false, false, false, false, false, false] _ _
  replace S := S.step (grown_drew w11 none)
  replace Hz := Lib.hid (Hz.out.kp (Kp.of (grown_drew w11 none)))
  replace Hy := Lib.hid (Hy.out.kp (Kp.of (grown_drew w11 none)))
  have lg12 := (grown_drew w11 none).size
  clear T0
  generalize w11.drew = wr12 at *
  clear l0 l1 l2 lS
  have l0 := S.ltc (g := w.heap.size) (o := 0) (x := .slice p0 n0 c0) (by simp)
  have l1 := S.ltc (g := w.heap.size + 1) (o := 0) (x := .slice p1 n1 c1) (by simp)
  have l2 := S.ltc (g := w.heap.size + 1 + 1) (o := 0) (x := .slice none 0 0) (by simp)
  have lS := S.size
  refine AnyUntil.take [4, 1] (i := 0) (oi := _) (v := ?vq13) rfl (by kernel_rfl) (by kernel_rfl) (by kernel_rfl) (by kernel_rfl) (fun _ _ _ h => h) (Or.inl ⟨by rfl, ?hyq13⟩) (by assumption) ?restq13
  case hyq13 => (intro w hSw; (try dsimp only at hSw); go_simp; try with_reducible rfl)
  try simp only [Act.put, List.getElem_toArray, List.getElem_cons_zero, List.setIfInBounds_toArray, List.set_cons_zero, List.set_cons_succ]
  refine AnyUntil.take [4, 3] (i := 2) (oi := _) (v := ?vq14) rfl (by kernel_rfl) (by kernel_rfl) (by kernel_rfl) (by kernel_rfl) (fun _ _ _ h => h) (Or.inl ⟨by rfl, ?hyq14⟩) (by assumption) ?restq14
  case hyq14 => (intro w hSw; (try dsimp only at hSw); go_simp; try with_reducible rfl)
  try simp only [Act.put, List.getElem_toArray, List.getElem_cons_zero, List.getElem_cons_succ, List.setIfInBounds_toArray, List.set_cons_zero, List.set_cons_succ]
  obtain ⟨z16, ez16⟩ : ∃ t : Int, -z = t := ⟨_, rfl⟩
  have E16 := Lib.hid ez16
  clear ez16
  refine AnyUntil.ready (rs := [1]) (by kernel_rfl) (by simp) ?_
  refine Each.held (o := _) rfl (fun K hK => ?_) Each.nil
  go_simp
  go_at_call 76
  with_reducible refine (Neg_h Hz.out E16.out).mono ?_
  rintro e w17 ⟨p16, n16, c16, b16, rfl, h, g⟩
  clear Hz
  replace Hy := Lib.hid (Hy.out.kp (Kp.of g))
  have N16 := Lib.hid (h)
  replace S := S.step g
  have lg17 := g.size
  clear l0 l1 l2 lS
  have l0 := S.ltc (g := w.heap.size) (o := 0) (x := .slice p0 n0 c0) (by simp)
  have l1 := S.ltc (g := w.heap.size + 1) (o := 0) (x := .slice p1 n1 c1) (by simp)
  have l2 := S.ltc (g := w.heap.size + 1 + 1) (o := 0) (x := .slice none 0 0) (by simp)
  have lS := S.size
  go_wp2_with fail
  refine hK.out _ _ ?hSq15 (fun hHeld => ?_)
  case hSq15 => exact Cl.step (cs := [(w.heap.size, 0, .slice p0 n0 c0), (w.heap.size, 1, .bool b0), (w.heap.size + 1, 0, .slice p1 n1 c1), (w.heap.size + 1, 1, .bool true)]) g (by assumption)
  clear hK K g h
  try simp only [List.setIfInBounds_toArray, List.set_cons_zero, List.set_cons_succ]
  obtain ⟨z19, ez19⟩ : ∃ t : Int, -y = t := ⟨_, rfl⟩
  have E19 := Lib.hid ez19
  clear ez19
  refine AnyUntil.ready (rs := [3]) (by kernel_rfl) (by simp) ?_
  refine Each.held (o := _) rfl (fun K hK => ?_) Each.nil
  go_simp
  go_at_call 76
  with_reducible refine (Neg_h Hy.out E19.out).mono ?_
  rintro e w20 ⟨p19, n19, c19, b19, rfl, h, g⟩
  clear Hy
  replace N16 := Lib.hid (N16.out.kp (Kp.of g))
  obtain ⟨e1, e2⟩ := h.flag
  rw [← E19.out, Int.natAbs_neg] at e2
  obtain rfl : n19 = 1 := e2.trans L1.out
  obtain ⟨blk, off, rfl, hc⟩ := h.one
  have C1 := Lib.hid (show Cel _ blk off (m : Nat) by rw [← E19.out, Int.natAbs_neg, M1.out] at hc; exact hc)
  clear hc e1 e2
  have N19 := Lib.hid (h)
  have C1 := Lib.hid (C1.out)
  replace S := S.step g
  have lg20 := g.size
  clear l0 l1 l2 lS
  have l0 := S.ltc (g := w.heap.size) (o := 0) (x := .slice p0 n0 c0) (by simp)
  have l1 := S.ltc (g := w.heap.size + 1) (o := 0) (x := .slice p1 n1 c1) (by simp)
  have l2 := S.ltc (g := w.heap.size + 1 + 1) (o := 0) (x := .slice none 0 0) (by simp)
  have lS := S.size
  go_wp2_with fail
  refine hK.out _ _ ?hSq18 (fun hHeld => ?_)
  case hSq18 => exact Cl.step (cs := [(w.heap.size, 0, .slice p0 n0 c0), (w.heap.size, 1, .bool b0), (w.heap.size + 1, 0, .slice p1 n1 c1), (w.heap.size + 1, 1, .bool true)]) g (by assumption)
  clear hK K g h
  try simp only [List.setIfInBounds_toArray, List.set_cons_zero, List.set_cons_succ]
  obtain ⟨e0, e1, e2, e3, e4, e5, e6, e7, h0, i0, h1, i1, h2, i2, h3, i3, h4, i4, h5, i5, h6, i6, h7, i7, G⟩ := id S
  refine AnyUntil.ready (rs := [4]) (by kernel_rfl) (by simp) ?_
  refine Each.free (o := _) (by kernel_rfl) rfl (fun K hK => ?_) Each.nil
  go_simp
  refine hK.out _ _ ?_
  clear hK K
  try simp only [List.setIfInBounds_toArray, List.set_cons_zero, List.set_cons_succ]
  clear e0 e1 e2 e3 e4 e5 e6 e7 h0 i0 h1 i1 h2 i2 h3 i3 h4 i4 h5 i5 h6 i6 h7 i7 G
  have K22 : Kp w20 (w20.setCell ⟨w.heap.size, 0, none⟩ (.slice p16 n16 c16)) := S.kp (g := w.heap.size) (o := 0) (x := .slice p0 n0 c0) (.slice p16 n16 c16) (by simp) (by simp)
  replace S : St w [(w.heap.size, 0, .slice p16 n16 c16), (w.heap.size + 1 + 1, 0, .slice none 0 0), (w.heap.size + 1 + 1, 1, .bool false), (w.heap.size + 1 + 1, 2, .slice none 0 0), (w.heap.size + 1 + 1, 3, .bool false), (w.heap.size + 1, 0, .slice p1 n1 c1), (w.heap.size + 1, 1, .bool true), (w.heap.size, 1, .bool b0)] [(w.heap.size + 1 + 1, 0), (w.heap.size + 1 + 1, 1), (w.heap.size + 1 + 1, 2), (w.heap.size + 1 + 1, 3), (w.heap.size + 1, 0), (w.heap.size + 1, 1), (w.heap.size, 0), (w.heap.size, 1)] (w20.setCell ⟨w.heap.size, 0, none⟩ (.slice p16 n16 c16)) := S.set (g := w.heap.size) (o := 0) (.slice p16 n16 c16) (by simp) (by simp <;> omega) (by omega)
  have K23 : Kp (w20.setCell ⟨w.heap.size, 0, none⟩ (.slice p16 n16 c16)) ((w20.setCell ⟨w.heap.size, 0, none⟩ (.slice p16 n16 c16)).setCell ⟨w.heap.size, 1, none⟩ (.bool b16)) := S.kp (g := w.heap.size) (o := 1) (x := .bool b0) (.bool b16) (by simp) (by simp)
  replace S : St w [(w.heap.size, 1, .bool b16), (w.heap.size + 1 + 1, 0, .slice none 0 0), (w.heap.size + 1 + 1, 1, .bool false), (w.heap.size + 1 + 1, 2, .slice none 0 0), (w.heap.size + 1 + 1, 3, .bool false), (w.heap.size + 1, 0, .slice p1 n1 c1), (w.heap.size + 1, 1, .bool true), (w.heap.size, 0, .slice p16 n16 c16)] [(w.heap.size + 1 + 1, 0), (w.heap.size + 1 + 1, 1), (w.heap.size + 1 + 1, 2), (w.heap.size + 1 + 1, 3), (w.heap.size + 1, 0), (w.heap.size + 1, 1), (w.heap.size, 0), (w.heap.size, 1)] ((w20.setCell ⟨w.heap.size, 0, none⟩ (.slice p16 n16 c16)).setCell ⟨w.heap.size, 1, none⟩ (.bool b16)) := S.set (g := w.heap.size) (o := 1) (.bool b16) (by simp) (by simp <;> omega) (by omega)
  replace S : St w [(w.heap.size + 1 + 1, 0, .slice none 0 0), (w.heap.size + 1 + 1, 1, .bool false), (w.heap.size + 1 + 1, 2, .slice none 0 0), (w.heap.size + 1 + 1, 3, .bool false), (w.heap.size + 1, 0, .slice p1 n1 c1), (w.heap.size + 1, 1, .bool true), (w.heap.size, 0, .slice p16 n16 c16), (w.heap.size, 1, .bool b16)] [(w.heap.size + 1 + 1, 0), (w.heap.size + 1 + 1, 1), (w.heap.size + 1 + 1, 2), (w.heap.size + 1 + 1, 3), (w.heap.size + 1, 0), (w.heap.size + 1, 1), (w.heap.size, 0), (w.heap.size, 1)] ((w20.setCell ⟨w.heap.size, 0, none⟩ (.slice p16 n16 c16)).setCell ⟨w.heap.size, 1, none⟩ (.bool b16)) := S.sub (by simp) (by simp)
  replace N16 := Lib.hid (N16.out.kp (K22.trans K23))
  replace N19 := Lib.hid (N19.out.kp (K22.trans K23))
  replace C1 := Lib.hid (C1.out.kp (K22.trans K23))
  clear K22 K23
  have sz24 : ((w20.setCell ⟨w.heap.size, 0, none⟩ (.slice p16 n16 c16)).setCell ⟨w.heap.size, 1, none⟩ (.bool b16)).heap.size = w20.heap.size := by simp
  generalize ((w20.setCell ⟨w.heap.size, 0, none⟩ (.slice p16 n16 c16)).setCell ⟨w.heap.size, 1, none⟩ (.bool b16)) = W24 at *
  clear l0 l1 l2 lS
  have l0 := S.ltc (g := w.heap.size) (o := 0) (x := .slice p16 n16 c16) (by simp)
  have l1 := S.ltc (g := w.heap.size + 1) (o := 0) (x := .slice p1 n1 c1) (by simp)
  have l2 := S.ltc (g := w.heap.size + 1 + 1) (o := 0) (x := .slice none 0 0) (by simp)
  have lS := S.size
  obtain ⟨e0, e1, e2, e3, e4, e5, e6, e7, h0, i0, h1, i1, h2, i2, h3, i3, h4, i4, h5, i5, h6, i6, h7, i7, G⟩ := id S
  refine AnyUntil.ready (rs := [5]) (by kernel_rfl) (by simp) ?_
  refine Each.free (o := _) (by kernel_rfl) rfl (fun K hK => ?_) Each.nil
  go_simp
  refine hK.out _ _ ?_
  clear hK K
  try simp only [List.setIfInBounds_toArray, List.set_cons_zero, List.set_cons_succ]
  clear e0 e1 e2 e3 e4 e5 e6 e7 h0 i0 h1 i1 h2 i2 h3 i3 h4 i4 h5 i5 h6 i6 h7 i7 G
  have K26 : Kp W24 (W24.setCell ⟨w.heap.size + 1, 0, none⟩ (.slice (some ⟨blk, off, none⟩) 1 c19)) := S.kp (g := w.heap.size + 1) (o := 0) (x := .slice p1 n1 c1) (.slice (some ⟨blk, off, none⟩) 1 c19) (by simp) (by simp)
  replace S : St w [(w.heap.size + 1, 0, .slice (some ⟨blk, off, none⟩) 1 c19), (w.heap.size + 1 + 1, 0, .slice none 0 0), (w.heap.size + 1 + 1, 1, .bool false), (w.heap.size + 1 + 1, 2, .slice none 0 0), (w.heap.size + 1 + 1, 3, .bool false), (w.heap.size + 1, 1, .bool true), (w.heap.size, 0, .slice p16 n16 c16), (w.heap.size, 1, .bool b16)] [(w.heap.size + 1 + 1, 0), (w.heap.size + 1 + 1, 1), (w.heap.size + 1 + 1, 2), (w.heap.size + 1 + 1, 3), (w.heap.size + 1, 0), (w.heap.size + 1, 1), (w.heap.size, 0), (w.heap.size, 1)] (W24.setCell ⟨w.heap.size + 1, 0, none⟩ (.slice (some ⟨blk, off, none⟩) 1 c19)) := S.set (g := w.heap.size + 1) (o := 0) (.slice (some ⟨blk, off, none⟩) 1 c19) (by simp) (by simp <;> omega) (by omega)
  have K27 : Kp (W24.setCell ⟨w.heap.size + 1, 0, none⟩ (.slice (some ⟨blk, off, none⟩) 1 c19)) ((W24.setCell ⟨w.heap.size + 1, 0, none⟩ (.slice (some ⟨blk, off, none⟩) 1 c19)).setCell ⟨w.heap.size + 1, 1, none⟩ (.bool b19)) := S.kp (g := w.heap.size + 1) (o := 1) (x := .bool true) (.bool b19) (by simp) (by simp)
  replace S : St w [(w.heap.size + 1, 1, .bool b19), (w.heap.size + 1 + 1, 0, .slice none 0 0), (w.heap.size + 1 + 1, 1, .bool false), (w.heap.size + 1 + 1, 2, .slice none 0 0), (w.heap.size + 1 + 1, 3, .bool false), (w.heap.size + 1, 0, .slice (some ⟨blk, off, none⟩) 1 c19), (w.heap.size, 0, .slice p16 n16 c16), (w.heap.size, 1, .bool b16)] [(w.heap.size + 1 + 1, 0), (w.heap.size + 1 + 1, 1), (w.heap.size + 1 + 1, 2), (w.heap.size + 1 + 1, 3), (w.heap.size + 1, 0), (w.heap.size + 1, 1), (w.heap.size, 0), (w.heap.size, 1)] ((W24.setCell ⟨w.heap.size + 1, 0, none⟩ (.slice (some ⟨blk, off, none⟩) 1 c19)).setCell ⟨w.heap.size + 1, 1, none⟩ (.bool b19)) := S.set (g := w.heap.size + 1) (o := 1) (.bool b19) (by simp) (by simp <;> omega) (by omega)
  replace S : St w [(w.heap.size + 1 + 1, 0, .slice none 0 0), (w.heap.size + 1 + 1, 1, .bool false), (w.heap.size + 1 + 1, 2, .slice none 0 0), (w.heap.size + 1 + 1, 3, .bool false), (w.heap.size + 1, 0, .slice (some ⟨blk, off, none⟩) 1 c19), (w.heap.size + 1, 1, .bool b19), (w.heap.size, 0, .slice p16 n16 c16), (w.heap.size, 1, .bool b16)] [(w.heap.size + 1 + 1, 0), (w.heap.size + 1 + 1, 1), (w.heap.size + 1 + 1, 2), (w.heap.size + 1 + 1, 3), (w.heap.size + 1, 0), (w.heap.size + 1, 1), (w.heap.size, 0), (w.heap.size, 1)] ((W24.setCell ⟨w.heap.size + 1, 0, none⟩ (.slice (some ⟨blk, off, none⟩) 1 c19)).setCell ⟨w.heap.size + 1, 1, none⟩ (.bool b19)) := S.sub (by simp) (by simp)
  replace N16 := Lib.hid (N16.out.kp (K26.trans K27))
  replace N19 := Lib.hid (N19.out.kp (K26.trans K27))
  replace C1 := Lib.hid (C1.out.kp (K26.trans K27))
  clear K26 K27
  have sz28 : ((W24.setCell ⟨w.heap.size + 1, 0, none⟩ (.slice (some ⟨blk, off, none⟩) 1 c19)).setCell ⟨w.heap.size + 1, 1, none⟩ (.bool b19)).heap.size = W24.heap.size := by simp
  generalize ((W24.setCell ⟨w.heap.size + 1, 0, none⟩ (.slice (some ⟨blk, off, none⟩) 1 c19)).setCell ⟨w.heap.size + 1, 1, none⟩ (.bool b19)) = W28 at *
  clear l0 l1 l2 lS
  have l0 := S.ltc (g := w.heap.size) (o := 0) (x := .slice p16 n16 c16) (by simp)
  have l1 := S.ltc (g := w.heap.size + 1) (o := 0) (x := .slice (some ⟨blk, off, none⟩) 1 c19) (by simp)
  have l2 := S.ltc (g := w.heap.size + 1 + 1) (o := 0) (x := .slice none 0 0) (by simp)
  have lS := S.size
  refine AnyUntil.end (by kernel_rfl) ?_ _
  refine NoPanic.normal ?_
  have hcell := C1.out
  unfold Cel at hcell
  obtain ⟨e0, e1, e2, e3, e4, e5, e6, e7, h0, i0, h1, i1, h2, i2, h3, i3, h4, i4, h5, i5, h6, i6, h7, i7, G⟩ := id S
  go_wp2_with fail
  clear e0 e1 e2 e3 e4 e5 e6 e7 h0 i0 h1 i1 h2 i2 h3 i3 h4 i4 h5 i5 h6 i6 h7 i7 G hcell
  obtain ⟨z29, ez29⟩ : ∃ t : Int, (Int.gcd z16 z19 : Int) = t := ⟨_, rfl⟩
  have E29 := Lib.hid ez29
  clear ez29
  go_at_call 30
  with_reducible refine (Gcd_h ((i + j + 2)) N16.out N19.out (by omega) (by omega) (by omega) E29.out).mono ?_
  rintro e w30 ⟨p29, n29, c29, b29, rfl, h, g⟩
  replace N16 := Lib.hid (N16.out.kp (Kp.of g))
  replace N19 := Lib.hid (N19.out.kp (Kp.of g))
  clear C1
  have N29 := Lib.hid (h)
  replace S := S.step g
  have lg30 := g.size
  clear g h l0 l1 l2 lS
  have l0 := S.ltc (g := w.heap.size) (o := 0) (x := .slice p16 n16 c16) (by simp)
  have l1 := S.ltc (g := w.heap.size + 1) (o := 0) (x := .slice (some ⟨blk, off, none⟩) 1 c19) (by simp)
  have l2 := S.ltc (g := w.heap.size + 1 + 1) (o := 0) (x := .slice none 0 0) (by simp)
  have lS := S.size
  obtain ⟨e0, e1, e2, e3, e4, e5, e6, e7, h0, i0, h1, i1, h2, i2, h3, i3, h4, i4, h5, i5, h6, i6, h7, i7, G⟩ := id S
  go_wp2_with fail
  clear e0 e1 e2 e3 e4 e5 e6 e7 h0 i0 h1 i1 h2 i2 h3 i3 h4 i4 h5 i5 h6 i6 h7 i7 G
  replace S : St w [(w30.heap.size, 0, .slice p29 n29 c29), (w30.heap.size, 1, .bool b29), (w.heap.size + 1 + 1, 0, .slice none 0 0), (w.heap.size + 1 + 1, 1, .bool false), (w.heap.size + 1 + 1, 2, .slice none 0 0), (w.heap.size + 1 + 1, 3, .bool false), (w.heap.size + 1, 0, .slice (some ⟨blk, off, none⟩) 1 c19), (w.heap.size + 1, 1, .bool b19), (w.heap.size, 0, .slice p16 n16 c16), (w.heap.size, 1, .bool b16)] [(w30.heap.size, 0), (w30.heap.size, 1), (w.heap.size + 1 + 1, 0), (w.heap.size + 1 + 1, 1), (w.heap.size + 1 + 1, 2), (w.heap.size + 1 + 1, 3), (w.heap.size + 1, 0), (w.heap.size + 1, 1), (w.heap.size, 0), (w.heap.size, 1)] (w30.alloc (.cells #[.slice p29 n29 c29, .bool b29] 51)) := S.made (w30.heap.size) [.slice p29 n29 c29, .bool b29] 51 (by simp)
  replace N16 := Lib.hid (N16.out.kp (Kp.of (grown_alloc w30 (.cells #[.slice p29 n29 c29, .bool b29] 51) none)))
  replace N19 := Lib.hid (N19.out.kp (Kp.of (grown_alloc w30 (.cells #[.slice p29 n29 c29, .bool b29] 51) none)))
  replace N29 := Lib.hid (N29.out.kp (Kp.of (grown_alloc w30 (.cells #[.slice p29 n29 c29, .bool b29] 51) none)))
  have sz31 : (w30.alloc (.cells #[.slice p29 n29 c29, .bool b29] 51)).heap.size = w30.heap.size + 1 := by simp
  generalize (w30.alloc (.cells #[.slice p29 n29 c29, .bool b29] 51)) = W31 at *
  have T0 : Cl [(w.heap.size, 0, .slice p16 n16 c16), (w.heap.size, 1, .bool b16), (w30.heap.size, 0, .slice p29 n29 c29), (w30.heap.size, 1, .bool b29), (w.heap.size + 1, 0, .slice (some ⟨blk, off, none⟩) 1 c19), (w.heap.size + 1, 1, .bool b19)] W31 := S.cl (by simp)
  refine wp_region_noPanic ?_
  refine wp_region_held_drew (S := fun w' => w'.cell? ⟨w.heap.size, 0, none⟩ = some (.slice p16 n16 c16) ∧ w'.cell? ⟨w.heap.size, 1, none⟩ = some (.bool b16) ∧ w'.cell? ⟨w30.heap.size, 0, none⟩ = some (.slice p29 n29 c29) ∧ w'.cell? ⟨w30.heap.size, 1, none⟩ = some (.bool b29) ∧ w'.cell? ⟨w.heap.size + 1, 0, none⟩ = some (.slice (some ⟨blk, off, none⟩) 1 c19) ∧ w'.cell? ⟨w.heap.size + 1, 1, none⟩ = some (.bool b19) ∧ True) (by kernel_rfl) (by exact Cl.step (cs := [(w.heap.size, 0, .slice p16 n16 c16), (w.heap.size, 1, .bool b16), (w30.heap.size, 0, .slice p29 n29 c29), (w30.heap.size, 1, .bool b29), (w.heap.size + 1, 0, .slice (some ⟨blk, off, none⟩) 1 c19), (w.heap.size + 1, 1, .bool b19)]) (grown_drew _ _) T0) (fun hHeld => ?_)
  change wpAnyH _ _ _ _ _ 8 #[false, false, false, false, false, false, false, false] _ _
  replace S := S.step (grown_drew W31 none)
  replace N16 := Lib.hid (N16.out.kp (Kp.of (grown_drew W31 none)))
  replace N19 := Lib.hid (N19.out.kp (Kp.of (grown_drew W31 none)))
  replace N29 := Lib.hid (N29.out.kp (Kp.of (grown_drew W31 none)))
  have lg32 := (grown_drew W31 none).size
  clear T0
  generalize W31.drew = wr32 at *
  clear l0 l1 l2 lS
  have l0 := S.ltc (g := w.heap.size) (o := 0) (x := .slice p16 n16 c16) (by simp)
  have l1 := S.ltc (g := w.heap.size + 1) (o := 0) (x := .slice (some ⟨blk, off, none⟩) 1 c19) (by simp)
  have l2 := S.ltc (g := w.heap.size + 1 + 1) (o := 0) (x := .slice none 0 0) (by simp)
  have l3 := S.ltc (g := w30.heap.size) (o := 0) (x := .slice p29 n29 c29) (by simp)
  have lS := S.size
  refine wpAnyH_take (i := 0) (oi := _) (v := ?vq33) rfl (by kernel_rfl) (by kernel_rfl) (by kernel_rfl) (fun _ _ _ h => h) (Or.inl ⟨by rfl, ?hyq33⟩) (by assumption) ?restq33
  case hyq33 => (intro w hSw; (try dsimp only at hSw); go_simp; try with_reducible rfl)
  try simp only [Act.put, List.getElem_toArray, List.getElem_cons_zero, List.setIfInBounds_toArray, List.set_cons_zero, List.set_cons_succ]
  refine wpAnyH_take (i := 1) (oi := _) (v := ?vq34) rfl (by kernel_rfl) (by kernel_rfl) (by kernel_rfl) (fun _ _ _ h => h) (Or.inl ⟨by rfl, ?hyq34⟩) (by assumption) ?restq34
  case hyq34 => (intro w hSw; (try dsimp only at hSw); go_simp; try with_reducible rfl)
  try simp only [Act.put, List.getElem_toArray, List.getElem_cons_zero, List.getElem_cons_succ, List.setIfInBounds_toArray, List.set_cons_zero, List.set_cons_succ]
  refine wpAnyH_take (i := 3) (oi := _) (v := ?vq35) rfl (by kernel_rfl) (by kernel_rfl) (by kernel_rfl) (fun _ _ _ h => h) (Or.inl ⟨by rfl, ?hyq35⟩) (by assumption) ?restq35
  case hyq35 => (intro w hSw; (try dsimp only at hSw); go_simp; try with_reducible rfl)
  try simp only [Act.put, List.getElem_toArray, List.getElem_cons_zero, List.getElem_cons_succ, List.setIfInBounds_toArray, List.set_cons_zero, List.set_cons_succ]
  refine wpAnyH_take (i := 4) (oi := _) (v := ?vq36) rfl (by kernel_rfl) (by kernel_rfl) (by kernel_rfl) (fun _ _ _ h => h) (Or.inl ⟨by rfl, ?hyq36⟩) (by assumption) ?restq36
  case hyq36 => (intro w hSw; (try dsimp only at hSw); go_simp; try with_reducible rfl)
  try simp only [Act.put, List.getElem_toArray, List.getElem_cons_zero, List.getElem_cons_succ, List.setIfInBounds_toArray, List.set_cons_zero, List.set_cons_succ]
  have BY := Lib.hid (show z29 = byOf z16 z19 by rw [byOf_pos (show 0 < z19 by rw [← E19.out]; omega), E29.out])
  have NE := Lib.hid (BY.out ▸ byOf_ne (n := z16) (d := z19) (by have := (show 0 < z19 by rw [← E19.out]; omega); omega))
  have DZ := Lib.hid (BY.out ▸ byOf_dvd_n z16 z19)
  have DY := Lib.hid (BY.out ▸ byOf_dvd_d z16 z19)
  obtain ⟨z38, ez38⟩ : ∃ t : Int, z16 / z29 = t := ⟨_, rfl⟩
  have E38 := Lib.hid ez38
  clear ez38
  refine wpAnyH_ready (rs := [2]) (by kernel_rfl) (by simp) ?_
  refine AllReadyH.cons (o := _) rfl (fun K hK => ?_) AllReadyH.nil
  go_simp
  go_at_call 77
  with_reducible refine (Quo_h N16.out N29.out (by omega) NE.out DZ.out E38.out).mono ?_
  rintro e w39 ⟨p38, n38, c38, b38, rfl, h, g⟩
  clear N16
  replace N19 := Lib.hid (N19.out.kp (Kp.of g))
  replace N29 := Lib.hid (N29.out.kp (Kp.of g))
  have N38 := Lib.hid (h)
  replace S := S.step g
  have lg39 := g.size
  clear l0 l1 l2 l3 lS
  have l0 := S.ltc (g := w.heap.size) (o := 0) (x := .slice p16 n16 c16) (by simp)
  have l1 := S.ltc (g := w.heap.size + 1) (o := 0) (x := .slice (some ⟨blk, off, none⟩) 1 c19) (by simp)
  have l2 := S.ltc (g := w.heap.size + 1 + 1) (o := 0) (x := .slice none 0 0) (by simp)
  have l3 := S.ltc (g := w30.heap.size) (o := 0) (x := .slice p29 n29 c29) (by simp)
  have lS := S.size
  go_wp2_with fail
  refine hK.out _ _ ?hSq37 (fun hHeld => ?_)
  case hSq37 => exact Cl.step (cs := [(w.heap.size, 0, .slice p16 n16 c16), (w.heap.size, 1, .bool b16), (w30.heap.size, 0, .slice p29 n29 c29), (w30.heap.size, 1, .bool b29), (w.heap.size + 1, 0, .slice (some ⟨blk, off, none⟩) 1 c19), (w.heap.size + 1, 1, .bool b19)]) g (by assumption)
  clear hK K g h
  try simp only [List.setIfInBounds_toArray, List.set_cons_zero, List.set_cons_succ]
  obtain ⟨z41, ez41⟩ : ∃ t : Int, z19 / z29 = t := ⟨_, rfl⟩
  have E41 := Lib.hid ez41
  clear ez41
  refine wpAnyH_ready (rs := [5]) (by kernel_rfl) (by simp) ?_
  refine AllReadyH.cons (o := _) rfl (fun K hK => ?_) AllReadyH.nil
  go_simp
  go_at_call 77
  with_reducible refine (Quo_h N19.out N29.out (by omega) NE.out DY.out E41.out).mono ?_
  rintro e w42 ⟨p41, n41, c41, b41, rfl, h, g⟩
  clear N19 N29
  replace N38 := Lib.hid (N38.out.kp (Kp.of g))
  have N41 := Lib.hid (h)
  replace S := S.step g
  have lg42 := g.size
  clear l0 l1 l2 l3 lS
  have l0 := S.ltc (g := w.heap.size) (o := 0) (x := .slice p16 n16 c16) (by simp)
  have l1 := S.ltc (g := w.heap.size + 1) (o := 0) (x := .slice (some ⟨blk, off, none⟩) 1 c19) (by simp)
  have l2 := S.ltc (g := w.heap.size + 1 + 1) (o := 0) (x := .slice none 0 0) (by simp)
  have l3 := S.ltc (g := w30.heap.size) (o := 0) (x := .slice p29 n29 c29) (by simp)
  have lS := S.size
  go_wp2_with fail
  refine hK.out _ _ ?hSq40 (fun hHeld => ?_)
  case hSq40 => exact Cl.step (cs := [(w.heap.size, 0, .slice p16 n16 c16), (w.heap.size, 1, .bool b16), (w30.heap.size, 0, .slice p29 n29 c29), (w30.heap.size, 1, .bool b29), (w.heap.size + 1, 0, .slice (some ⟨blk, off, none⟩) 1 c19), (w.heap.size + 1, 1, .bool b19)]) g (by assumption)
  clear hK K g h
  try simp only [List.setIfInBounds_toArray, List.set_cons_zero, List.set_cons_succ]
  refine wpAnyH_take (i := 6) (oi := _) (v := ?vq43) rfl (by kernel_rfl) (by kernel_rfl) (by kernel_rfl) (fun _ _ _ h => h) (Or.inl ⟨by rfl, ?hyq43⟩) (by assumption) ?restq43
  case hyq43 => (intro w hSw; (try dsimp only at hSw); go_simp; try with_reducible rfl)
  try simp only [Act.put, List.getElem_toArray, List.getElem_cons_zero, List.getElem_cons_succ, List.setIfInBounds_toArray, List.set_cons_zero, List.set_cons_succ]
  obtain ⟨e0, e1, e2, e3, e4, e5, e6, e7, e8, e9, h0, i0, h1, i1, h2, i2, h3, i3, h4, i4, h5, i5, h6, i6, h7, i7, h8, i8, h9, i9, G⟩ := id S
  refine wpAnyH_ready (rs := [7]) (by kernel_rfl) (by simp) ?_
  refine AllReadyH.cons (o := _) rfl (fun K hK => ?_) AllReadyH.nil
  go_simp
  refine hK.out _ _ ?hSq44 (fun hHeld => ?_)
  case hSq44 => exact (Cl.set (cs := [(w.heap.size, 0, .slice p16 n16 c16), (w.heap.size, 1, .bool b16), (w30.heap.size, 0, .slice p29 n29 c29), (w30.heap.size, 1, .bool b29), (w.heap.size + 1, 0, .slice (some ⟨blk, off, none⟩) 1 c19), (w.heap.size + 1, 1, .bool b19)]) (g := w.heap.size + 1 + 1) (o := 3) (u := .bool b41) (Cl.set (cs := [(w.heap.size, 0, .slice p16 n16 c16), (w.heap.size, 1, .bool b16), (w30.heap.size, 0, .slice p29 n29 c29), (w30.heap.size, 1, .bool b29), (w.heap.size + 1, 0, .slice (some ⟨blk, off, none⟩) 1 c19), (w.heap.size + 1, 1, .bool b19)]) (g := w.heap.size + 1 + 1) (o := 2) (u := .slice p41 n41 c41) (Cl.set (cs := [(w.heap.size, 0, .slice p16 n16 c16), (w.heap.size, 1, .bool b16), (w30.heap.size, 0, .slice p29 n29 c29), (w30.heap.size, 1, .bool b29), (w.heap.size + 1, 0, .slice (some ⟨blk, off, none⟩) 1 c19), (w.heap.size + 1, 1, .bool b19)]) (g := w.heap.size + 1 + 1) (o := 1) (u := .bool b38) (Cl.set (cs := [(w.heap.size, 0, .slice p16 n16 c16), (w.heap.size, 1, .bool b16), (w30.heap.size, 0, .slice p29 n29 c29), (w30.heap.size, 1, .bool b29), (w.heap.size + 1, 0, .slice (some ⟨blk, off, none⟩) 1 c19), (w.heap.size + 1, 1, .bool b19)]) (g := w.heap.size + 1 + 1) (o := 0) (u := .slice p38 n38 c38) (by assumption) (by simp <;> omega)) (by simp <;> omega)) (by simp <;> omega)) (by simp <;> omega))
  clear hK K
  try simp only [List.setIfInBounds_toArray, List.set_cons_zero, List.set_cons_succ]
  clear e0 e1 e2 e3 e4 e5 e6 e7 e8 e9 h0 i0 h1 i1 h2 i2 h3 i3 h4 i4 h5 i5 h6 i6 h7 i7 h8 i8 h9 i9 G
  have K45 : Kp w42 (w42.setCell ⟨w.heap.size + 1 + 1, 0, none⟩ (.slice p38 n38 c38)) := S.kp (g := w.heap.size + 1 + 1) (o := 0) (x := .slice none 0 0) (.slice p38 n38 c38) (by simp) (by simp)
  replace S : St w [(w.heap.size + 1 + 1, 0, .slice p38 n38 c38), (w30.heap.size, 0, .slice p29 n29 c29), (w30.heap.size, 1, .bool b29), (w.heap.size + 1 + 1, 1, .bool false), (w.heap.size + 1 + 1, 2, .slice none 0 0), (w.heap.size + 1 + 1, 3, .bool false), (w.heap.size + 1, 0, .slice (some ⟨blk, off, none⟩) 1 c19), (w.heap.size + 1, 1, .bool b19), (w.heap.size, 0, .slice p16 n16 c16), (w.heap.size, 1, .bool b16)] [(w30.heap.size, 0), (w30.heap.size, 1), (w.heap.size + 1 + 1, 0), (w.heap.size + 1 + 1, 1), (w.heap.size + 1 + 1, 2), (w.heap.size + 1 + 1, 3), (w.heap.size + 1, 0), (w.heap.size + 1, 1), (w.heap.size, 0), (w.heap.size, 1)] (w42.setCell ⟨w.heap.size + 1 + 1, 0, none⟩ (.slice p38 n38 c38)) := S.set (g := w.heap.size + 1 + 1) (o := 0) (.slice p38 n38 c38) (by simp) (by simp <;> omega) (by omega)
  have K46 : Kp (w42.setCell ⟨w.heap.size + 1 + 1, 0, none⟩ (.slice p38 n38 c38)) ((w42.setCell ⟨w.heap.size + 1 + 1, 0, none⟩ (.slice p38 n38 c38)).setCell ⟨w.heap.size + 1 + 1, 1, none⟩ (.bool b38)) := S.kp (g := w.heap.size + 1 + 1) (o := 1) (x := .bool false) (.bool b38) (by simp) (by simp)
  replace S : St w [(w.heap.size + 1 + 1, 1, .bool b38), (w30.heap.size, 0, .slice p29 n29 c29), (w30.heap.size, 1, .bool b29), (w.heap.size + 1 + 1, 0, .slice p38 n38 c38), (w.heap.size + 1 + 1, 2, .slice none 0 0), (w.heap.size + 1 + 1, 3, .bool false), (w.heap.size + 1, 0, .slice (some ⟨blk, off, none⟩) 1 c19), (w.heap.size + 1, 1, .bool b19), (w.heap.size, 0, .slice p16 n16 c16), (w.heap.size, 1, .bool b16)] [(w30.heap.size, 0), (w30.heap.size, 1), (w.heap.size + 1 + 1, 0), (w.heap.size + 1 + 1, 1), (w.heap.size + 1 + 1, 2), (w.heap.size + 1 + 1, 3), (w.heap.size + 1, 0), (w.heap.size + 1, 1), (w.heap.size, 0), (w.heap.size, 1)] ((w42.setCell ⟨w.heap.size + 1 + 1, 0, none⟩ (.slice p38 n38 c38)).setCell ⟨w.heap.size + 1 + 1, 1, none⟩ (.bool b38)) := S.set (g := w.heap.size + 1 + 1) (o := 1) (.bool b38) (by simp) (by simp <;> omega) (by omega)
  have K47 : Kp ((w42.setCell ⟨w.heap.size + 1 + 1, 0, none⟩ (.slice p38 n38 c38)).setCell ⟨w.heap.size + 1 + 1, 1, none⟩ (.bool b38)) (((w42.setCell ⟨w.heap.size + 1 + 1, 0, none⟩ (.slice p38 n38 c38)).setCell ⟨w.heap.size + 1 + 1, 1, none⟩ (.bool b38)).setCell ⟨w.heap.size + 1 + 1, 2, none⟩ (.slice p41 n41 c41)) := S.kp (g := w.heap.size + 1 + 1) (o := 2) (x := .slice none 0 0) (.slice p41 n41 c41) (by simp) (by simp)
  replace S : St w [(w.heap.size + 1 + 1, 2, .slice p41 n41 c41), (w30.heap.size, 0, .slice p29 n29 c29), (w30.heap.size, 1, .bool b29), (w.heap.size + 1 + 1, 0, .slice p38 n38 c38), (w.heap.size + 1 + 1, 1, .bool b38), (w.heap.size + 1 + 1, 3, .bool false), (w.heap.size + 1, 0, .slice (some ⟨blk, off, none⟩) 1 c19), (w.heap.size + 1, 1, .bool b19), (w.heap.size, 0, .slice p16 n16 c16), (w.heap.size, 1, .bool b16)] [(w30.heap.size, 0), (w30.heap.size, 1), (w.heap.size + 1 + 1, 0), (w.heap.size + 1 + 1, 1), (w.heap.size + 1 + 1, 2), (w.heap.size + 1 + 1, 3), (w.heap.size + 1, 0), (w.heap.size + 1, 1), (w.heap.size, 0), (w.heap.size, 1)] (((w42.setCell ⟨w.heap.size + 1 + 1, 0, none⟩ (.slice p38 n38 c38)).setCell ⟨w.heap.size + 1 + 1, 1, none⟩ (.bool b38)).setCell ⟨w.heap.size + 1 + 1, 2, none⟩ (.slice p41 n41 c41)) := S.set (g := w.heap.size + 1 + 1) (o := 2) (.slice p41 n41 c41) (by simp) (by simp <;> omega) (by omega)
  have K48 : Kp (((w42.setCell ⟨w.heap.size + 1 + 1, 0, none⟩ (.slice p38 n38 c38)).setCell ⟨w.heap.size + 1 + 1, 1, none⟩ (.bool b38)).setCell ⟨w.heap.size + 1 + 1, 2, none⟩ (.slice p41 n41 c41)) ((((w42.setCell ⟨w.heap.size + 1 + 1, 0, none⟩ (.slice p38 n38 c38)).setCell ⟨w.heap.size + 1 + 1, 1, none⟩ (.bool b38)).setCell ⟨w.heap.size + 1 + 1, 2, none⟩ (.slice p41 n41 c41)).setCell ⟨w.heap.size + 1 + 1, 3, none⟩ (.bool b41)) := S.kp (g := w.heap.size + 1 + 1) (o := 3) (x := .bool false) (.bool b41) (by simp) (by simp)
  replace S : St w [(w.heap.size + 1 + 1, 3, .bool b41), (w30.heap.size, 0, .slice p29 n29 c29), (w30.heap.size, 1, .bool b29), (w.heap.size + 1 + 1, 0, .slice p38 n38 c38), (w.heap.size + 1 + 1, 1, .bool b38), (w.heap.size + 1 + 1, 2, .slice p41 n41 c41), (w.heap.size + 1, 0, .slice (some ⟨blk, off, none⟩) 1 c19), (w.heap.size + 1, 1, .bool b19), (w.heap.size, 0, .slice p16 n16 c16), (w.heap.size, 1, .bool b16)] [(w30.heap.size, 0), (w30.heap.size, 1), (w.heap.size + 1 + 1, 0), (w.heap.size + 1 + 1, 1), (w.heap.size + 1 + 1, 2), (w.heap.size + 1 + 1, 3), (w.heap.size + 1, 0), (w.heap.size + 1, 1), (w.heap.size, 0), (w.heap.size, 1)] ((((w42.setCell ⟨w.heap.size + 1 + 1, 0, none⟩ (.slice p38 n38 c38)).setCell ⟨w.heap.size + 1 + 1, 1, none⟩ (.bool b38)).setCell ⟨w.heap.size + 1 + 1, 2, none⟩ (.slice p41 n41 c41)).setCell ⟨w.heap.size + 1 + 1, 3, none⟩ (.bool b41)) := S.set (g := w.heap.size + 1 + 1) (o := 3) (.bool b41) (by simp) (by simp <;> omega) (by omega)
  replace S : St w [(w30.heap.size, 0, .slice p29 n29 c29), (w30.heap.size, 1, .bool b29), (w.heap.size + 1 + 1, 0, .slice p38 n38 c38), (w.heap.size + 1 + 1, 1, .bool b38), (w.heap.size + 1 + 1, 2, .slice p41 n41 c41), (w.heap.size + 1 + 1, 3, .bool b41), (w.heap.size + 1, 0, .slice (some ⟨blk, off, none⟩) 1 c19), (w.heap.size + 1, 1, .bool b19), (w.heap.size, 0, .slice p16 n16 c16), (w.heap.size, 1, .bool b16)] [(w30.heap.size, 0), (w30.heap.size, 1), (w.heap.size + 1 + 1, 0), (w.heap.size + 1 + 1, 1), (w.heap.size + 1 + 1, 2), (w.heap.size + 1 + 1, 3), (w.heap.size + 1, 0), (w.heap.size + 1, 1), (w.heap.size, 0), (w.heap.size, 1)] ((((w42.setCell ⟨w.heap.size + 1 + 1, 0, none⟩ (.slice p38 n38 c38)).setCell ⟨w.heap.size + 1 + 1, 1, none⟩ (.bool b38)).setCell ⟨w.heap.size + 1 + 1, 2, none⟩ (.slice p41 n41 c41)).setCell ⟨w.heap.size + 1 + 1, 3, none⟩ (.bool b41)) := S.sub (by simp) (by simp)
  replace N38 := Lib.hid (N38.out.kp (((K45.trans K46).trans K47).trans K48))
  replace N41 := Lib.hid (N41.out.kp (((K45.trans K46).trans K47).trans K48))
  clear K45 K46 K47 K48
  have sz49 : ((((w42.setCell ⟨w.heap.size + 1 + 1, 0, none⟩ (.slice p38 n38 c38)).setCell ⟨w.heap.size + 1 + 1, 1, none⟩ (.bool b38)).setCell ⟨w.heap.size + 1 + 1, 2, none⟩ (.slice p41 n41 c41)).setCell ⟨w.heap.size + 1 + 1, 3, none⟩ (.bool b41)).heap.size = w42.heap.size := by simp
  generalize ((((w42.setCell ⟨w.heap.size + 1 + 1, 0, none⟩ (.slice p38 n38 c38)).setCell ⟨w.heap.size + 1 + 1, 1, none⟩ (.bool b38)).setCell ⟨w.heap.size + 1 + 1, 2, none⟩ (.slice p41 n41 c41)).setCell ⟨w.heap.size + 1 + 1, 3, none⟩ (.bool b41)) = W49 at *
  clear l0 l1 l2 l3 lS
  have l0 := S.ltc (g := w.heap.size) (o := 0) (x := .slice p16 n16 c16) (by simp)
  have l1 := S.ltc (g := w.heap.size + 1) (o := 0) (x := .slice (some ⟨blk, off, none⟩) 1 c19) (by simp)
  have l2 := S.ltc (g := w.heap.size + 1 + 1) (o := 0) (x := .slice p38 n38 c38) (by simp)
  have l3 := S.ltc (g := w30.heap.size) (o := 0) (x := .slice p29 n29 c29) (by simp)
  have lS := S.size
  refine wpAnyH_done (by kernel_rfl) ?_ _
  refine NoPanic.normal ?_
  obtain ⟨e0, e1, e2, e3, e4, e5, e6, e7, e8, e9, h0, i0, h1, i1, h2, i2, h3, i3, h4, i4, h5, i5, h6, i6, h7, i7, h8, i8, h9, i9, G⟩ := id S
  go_wp2_with fail
  clear e0 e1 e2 e3 e4 e5 e6 e7 e8 e9 h0 i0 h1 i1 h2 i2 h3 i3 h4 i4 h5 i5 h6 i6 h7 i7 h8 i8 h9 i9 G
  refine post_S Tryz.results26 rfl rfl (S.cell (g := w.heap.size + 1 + 1) (o := 0) (x := .slice p38 n38 c38) (by simp)) (S.cell (g := w.heap.size + 1 + 1) (o := 1) (x := .bool b38) (by simp)) (S.cell (g := w.heap.size + 1 + 1) (o := 2) (x := .slice p41 n41 c41) (by simp)) (S.cell (g := w.heap.size + 1 + 1) (o := 3) (x := .bool b41) (by simp)) ⟨_, _, _, _, _, _, _, _, rfl, ⟨_, _, _, _, _, _, _, _, rfl, (N38.out.eqz (show z38 = _ by rw [qOf_ne (of_decide_eq_false Y0.out), ← Rat.neg_divInt_neg, E16.out, E19.out, ← num_by (n := z16) (by have := (show 0 < z19 by rw [← E19.out]; omega); omega), ← BY.out, E38.out])).more (by omega), (N41.out.eqz (show z41 = _ by rw [qOf_ne (of_decide_eq_false Y0.out), ← Rat.neg_divInt_neg, E16.out, E19.out, ← den_by (n := z16) (by have := (show 0 < z19 by rw [← E19.out]; omega); omega), ← BY.out, E41.out])).more (by omega)⟩, S.all⟩

set_option maxHeartbeats 4000000 in
set_option maxRecDepth 100000 in
theorem Make_neg_long {b0 : Bool} {p0 p1 : Option Addr} {n0 c0 n1 c1 : Nat} {z y : Int} {i j : Nat} {w : World} (hz : DecI w (.agg #[.slice p0 n0 c0, .bool b0]) z i) (hy : DecI w (.agg #[.slice p1 n1 c1, .bool true]) y j) (hk : i + j ≤ 200000) (h0 : y < 0) (hl : (dig 10000 y.natAbs).length ≠ 1) :
    Calls Tryz.prog 26 #[.agg #[.slice p0 n0 c0, .bool b0], .agg #[.slice p1 n1 c1, .bool true]] w (GotS w (qOf z y) (i + j + 2)) := by
  have Hz := Lib.hid hz
  have Hy := Lib.hid hy
  clear hz hy
  have Y0 := Lib.hid (show decide (y = 0) = false from decide_eq_false (by omega))
  have L1 := Lib.hid hl
  clear hl
  have S : St w [] [] w := St.start w
  go_enter Tryz.func26, Tryz.ntmps26
  have G := S
  go_wp2_with fail
  clear G
  replace S : St w [(w.heap.size, 0, .slice p0 n0 c0), (w.heap.size, 1, .bool b0)] [(w.heap.size, 0), (w.heap.size, 1)] (w.alloc (.cells #[.slice p0 n0 c0, .bool b0] 51)) := S.made (w.heap.size) [.slice p0 n0 c0, .bool b0] 51 (by simp)
  replace S : St w [(w.heap.size + 1, 0, .slice p1 n1 c1), (w.heap.size + 1, 1, .bool true), (w.heap.size, 0, .slice p0 n0 c0), (w.heap.size, 1, .bool b0)] [(w.heap.size + 1, 0), (w.heap.size + 1, 1), (w.heap.size, 0), (w.heap.size, 1)] ((w.alloc (.cells #[.slice p0 n0 c0, .bool b0] 51)).alloc (.cells #[.slice p1 n1 c1, .bool true] 51)) := S.made (w.heap.size + 1) [.slice p1 n1 c1, .bool true] 51 (by simp)
  replace S : St w [(w.heap.size + 1 + 1, 0, .slice none 0 0), (w.heap.size + 1 + 1, 1, .bool false), (w.heap.size + 1 + 1, 2, .slice none 0 0), (w.heap.size + 1 + 1, 3, .bool false), (w.heap.size + 1, 0, .slice p1 n1 c1), (w.heap.size + 1, 1, .bool true), (w.heap.size, 0, .slice p0 n0 c0), (w.heap.size, 1, .bool b0)] [(w.heap.size + 1 + 1, 0), (w.heap.size + 1 + 1, 1), (w.heap.size + 1 + 1, 2), (w.heap.size + 1 + 1, 3), (w.heap.size + 1, 0), (w.heap.size + 1, 1), (w.heap.size, 0), (w.heap.size, 1)] (((w.alloc (.cells #[.slice p0 n0 c0, .bool b0] 51)).alloc (.cells #[.slice p1 n1 c1, .bool true] 51)).alloc (.cells #[.slice none 0 0, .bool false, .slice none 0 0, .bool false] 53)) := S.made (w.heap.size + 1 + 1) [.slice none 0 0, .bool false, .slice none 0 0, .bool false] 53 (by simp)
  replace Hz := Lib.hid (Hz.out.kp (((Kp.of (grown_alloc w (.cells #[.slice p0 n0 c0, .bool b0] 51) none)).trans (Kp.of (grown_alloc ((w.alloc (.cells #[.slice p0 n0 c0, .bool b0] 51))) (.cells #[.slice p1 n1 c1, .bool true] 51) none))).trans (Kp.of (grown_alloc (((w.alloc (.cells #[.slice p0 n0 c0, .bool b0] 51)).alloc (.cells #[.slice p1 n1 c1, .bool true] 51))) (.cells #[.slice none 0 0, .bool false, .slice none 0 0, .bool false] 53) none))))
  replace Hy := Lib.hid (Hy.out.kp (((Kp.of (grown_alloc w (.cells #[.slice p0 n0 c0, .bool b0] 51) none)).trans (Kp.of (grown_alloc ((w.alloc (.cells #[.slice p0 n0 c0, .bool b0] 51))) (.cells #[.slice p1 n1 c1, .bool true] 51) none))).trans (Kp.of (grown_alloc (((w.alloc (.cells #[.slice p0 n0 c0, .bool b0] 51)).alloc (.cells #[.slice p1 n1 c1, .bool true] 51))) (.cells #[.slice none 0 0, .bool false, .slice none 0 0, .bool false] 53) none))))
  have sz10 : (((w.alloc (.cells #[.slice p0 n0 c0, .bool b0] 51)).alloc (.cells #[.slice p1 n1 c1, .bool true] 51)).alloc (.cells #[.slice none 0 0, .bool false, .slice none 0 0, .bool false] 53)).heap.size = w.heap.size + 3 := by simp
  generalize (((w.alloc (.cells #[.slice p0 n0 c0, .bool b0] 51)).alloc (.cells #[.slice p1 n1 c1, .bool true] 51)).alloc (.cells #[.slice none 0 0, .bool false, .slice none 0 0, .bool false] 53)) = W10 at *
  go_at_call 75
  with_reducible refine (Zero_h Hy.out Y0.out).mono ?_
  rintro e w11 ⟨rfl, g⟩
  replace Hz := Lib.hid (Hz.out.kp (Kp.of g))
  replace Hy := Lib.hid (Hy.out.kp (Kp.of g))
  replace S := S.step g
  have lg11 := g.size
  clear g
  have l0 := S.ltc (g := w.heap.size) (o := 0) (x := .slice p0 n0 c0) (by simp)
  have l1 := S.ltc (g := w.heap.size + 1) (o := 0) (x := .slice p1 n1 c1) (by simp)
  have l2 := S.ltc (g := w.heap.size + 1 + 1) (o := 0) (x := .slice none 0 0) (by simp)
  have lS := S.size
  obtain ⟨e0, e1, e2, e3, e4, e5, e6, e7, h0, i0, h1, i1, h2, i2, h3, i3, h4, i4, h5, i5, h6, i6, h7, i7, G⟩ := id S
  go_wp2_with fail
  clear e0 e1 e2 e3 e4 e5 e6 e7 h0 i0 h1 i1 h2 i2 h3 i3 h4 i4 h5 i5 h6 i6 h7 i7 G
  have T0 : Cl [(w.heap.size, 0, .slice p0 n0 c0), (w.heap.size, 1, .bool b0), (w.heap.size + 1, 0, .slice p1 n1 c1), (w.heap.size + 1, 1, .bool true)] w11 := S.cl (by simp)
  refine wp_region_noPanic ?_
  refine AnyUntil.start (T := fun w' => w'.cell? ⟨w.heap.size, 0, none⟩ = some (.slice p0 n0 c0) ∧ w'.cell? ⟨w.heap.size, 1, none⟩ = some (.bool b0) ∧ w'.cell? ⟨w.heap.size + 1, 0, none⟩ = some (.slice p1 n1 c1) ∧ w'.cell? ⟨w.heap.size + 1, 1, none⟩ = some (.bool true) ∧ True) 4 (by kernel_rfl) (by exact Cl.step (cs := [(w.heap.size, 0, .slice p0 n0 c0), (w.heap.size, 1, .bool b0), (w.heap.size + 1, 0, .slice p1 n1 c1), (w.heap.size + 1, 1, .bool true)]) (grown_drew _ _) T0) (fun hHeld => ?_)
  change AnyUntil _ _ _ _ _ _ 6 #[false, false, false, false, false, false] _ _
  replace S := S.step (grown_drew w11 none)
  replace Hz := Lib.hid (Hz.out.kp (Kp.of (grown_drew w11 none)))
  replace Hy := Lib.hid (Hy.out.kp (Kp.of (grown_drew w11 none)))
  have lg12 := (grown_drew w11 none).size
  clear T0
  generalize w11.drew = wr12 at *
  clear l0 l1 l2 lS
  have l0 := S.ltc (g := w.heap.size) (o := 0) (x := .slice p0 n0 c0) (by simp)
  have l1 := S.ltc (g := w.heap.size + 1) (o := 0) (x := .slice p1 n1 c1) (by simp)
  have l2 := S.ltc (g := w.heap.size + 1 + 1) (o := 0) (x := .slice none 0 0) (by simp)
  have lS := S.size
  refine AnyUntil.take [4, 1] (i := 0) (oi := _) (v := ?vq13) rfl (by kernel_rfl) (by kernel_rfl) (by kernel_rfl) (by kernel_rfl) (fun _ _ _ h => h) (Or.inl ⟨by rfl, ?hyq13⟩) (by assumption) ?restq13
  case hyq13 => (intro w hSw; (try dsimp only at hSw); go_simp; try with_reducible rfl)
  try simp only [Act.put, List.getElem_toArray, List.getElem_cons_zero, List.setIfInBounds_toArray, List.set_cons_zero, List.set_cons_succ]
  refine AnyUntil.take [4, 3] (i := 2) (oi := _) (v := ?vq14) rfl (by kernel_rfl) (by kernel_rfl) (by kernel_rfl) (by kernel_rfl) (fun _ _ _ h => h) (Or.inl ⟨by rfl, ?hyq14⟩) (by assumption) ?restq14
  case hyq14 => (intro w hSw; (try dsimp only at hSw); go_simp; try with_reducible rfl)
  try simp only [Act.put, List.getElem_toArray, List.getElem_cons_zero, List.getElem_cons_succ, List.setIfInBounds_toArray, List.set_cons_zero, List.set_cons_succ]
  obtain ⟨z16, ez16⟩ : ∃ t : Int, -z = t := ⟨_, rfl⟩
  have E16 := Lib.hid ez16
  clear ez16
  refine AnyUntil.ready (rs := [1]) (by kernel_rfl) (by simp) ?_
  refine Each.held (o := _) rfl (fun K hK => ?_) Each.nil
  go_simp
  go_at_call 76
  with_reducible refine (Neg_h Hz.out E16.out).mono ?_
  rintro e w17 ⟨p16, n16, c16, b16, rfl, h, g⟩
  clear Hz
  replace Hy := Lib.hid (Hy.out.kp (Kp.of g))
  have N16 := Lib.hid (h)
  replace S := S.step g
  have lg17 := g.size
  clear l0 l1 l2 lS
  have l0 := S.ltc (g := w.heap.size) (o := 0) (x := .slice p0 n0 c0) (by simp)
  have l1 := S.ltc (g := w.heap.size + 1) (o := 0) (x := .slice p1 n1 c1) (by simp)
  have l2 := S.ltc (g := w.heap.size + 1 + 1) (o := 0) (x := .slice none 0 0) (by simp)
  have lS := S.size
  go_wp2_with fail
  refine hK.out _ _ ?hSq15 (fun hHeld => ?_)
  case hSq15 => exact Cl.step (cs := [(w.heap.size, 0, .slice p0 n0 c0), (w.heap.size, 1, .bool b0), (w.heap.size + 1, 0, .slice p1 n1 c1), (w.heap.size + 1, 1, .bool true)]) g (by assumption)
  clear hK K g h
  try simp only [List.setIfInBounds_toArray, List.set_cons_zero, List.set_cons_succ]
  obtain ⟨z19, ez19⟩ : ∃ t : Int, -y = t := ⟨_, rfl⟩
  have E19 := Lib.hid ez19
  clear ez19
  refine AnyUntil.ready (rs := [3]) (by kernel_rfl) (by simp) ?_
  refine Each.held (o := _) rfl (fun K hK => ?_) Each.nil
  go_simp
  go_at_call 76
  with_reducible refine (Neg_h Hy.out E19.out).mono ?_
  rintro e w20 ⟨p19, n19, c19, b19, rfl, h, g⟩
  clear Hy
  replace N16 := Lib.hid (N16.out.kp (Kp.of g))
  obtain ⟨e1, e2⟩ := h.flag
  rw [← E19.out, Int.natAbs_neg] at e2
  have t5 : ((n19 : Int) == 1) = false := beq_eq_false_iff_ne.2 (by have := L1.out; omega)
  clear e1 e2
  have N19 := Lib.hid (h)
  replace S := S.step g
  have lg20 := g.size
  clear l0 l1 l2 lS
  have l0 := S.ltc (g := w.heap.size) (o := 0) (x := .slice p0 n0 c0) (by simp)
  have l1 := S.ltc (g := w.heap.size + 1) (o := 0) (x := .slice p1 n1 c1) (by simp)
  have l2 := S.ltc (g := w.heap.size + 1 + 1) (o := 0) (x := .slice none 0 0) (by simp)
  have lS := S.size
  go_wp2_with fail
  refine hK.out _ _ ?hSq18 (fun hHeld => ?_)
  case hSq18 => exact Cl.step (cs := [(w.heap.size, 0, .slice p0 n0 c0), (w.heap.size, 1, .bool b0), (w.heap.size + 1, 0, .slice p1 n1 c1), (w.heap.size + 1, 1, .bool true)]) g (by assumption)
  clear hK K g h
  try simp only [List.setIfInBounds_toArray, List.set_cons_zero, List.set_cons_succ]
  obtain ⟨e0, e1, e2, e3, e4, e5, e6, e7, h0, i0, h1, i1, h2, i2, h3, i3, h4, i4, h5, i5, h6, i6, h7, i7, G⟩ := id S
  refine AnyUntil.ready (rs := [4]) (by kernel_rfl) (by simp) ?_
  refine Each.free (o := _) (by kernel_rfl) rfl (fun K hK => ?_) Each.nil
  go_simp
  refine hK.out _ _ ?_
  clear hK K
  try simp only [List.setIfInBounds_toArray, List.set_cons_zero, List.set_cons_succ]
  clear e0 e1 e2 e3 e4 e5 e6 e7 h0 i0 h1 i1 h2 i2 h3 i3 h4 i4 h5 i5 h6 i6 h7 i7 G
  have K22 : Kp w20 (w20.setCell ⟨w.heap.size, 0, none⟩ (.slice p16 n16 c16)) := S.kp (g := w.heap.size) (o := 0) (x := .slice p0 n0 c0) (.slice p16 n16 c16) (by simp) (by simp)
  replace S : St w [(w.heap.size, 0, .slice p16 n16 c16), (w.heap.size + 1 + 1, 0, .slice none 0 0), (w.heap.size + 1 + 1, 1, .bool false), (w.heap.size + 1 + 1, 2, .slice none 0 0), (w.heap.size + 1 + 1, 3, .bool false), (w.heap.size + 1, 0, .slice p1 n1 c1), (w.heap.size + 1, 1, .bool true), (w.heap.size, 1, .bool b0)] [(w.heap.size + 1 + 1, 0), (w.heap.size + 1 + 1, 1), (w.heap.size + 1 + 1, 2), (w.heap.size + 1 + 1, 3), (w.heap.size + 1, 0), (w.heap.size + 1, 1), (w.heap.size, 0), (w.heap.size, 1)] (w20.setCell ⟨w.heap.size, 0, none⟩ (.slice p16 n16 c16)) := S.set (g := w.heap.size) (o := 0) (.slice p16 n16 c16) (by simp) (by simp <;> omega) (by omega)
  have K23 : Kp (w20.setCell ⟨w.heap.size, 0, none⟩ (.slice p16 n16 c16)) ((w20.setCell ⟨w.heap.size, 0, none⟩ (.slice p16 n16 c16)).setCell ⟨w.heap.size, 1, none⟩ (.bool b16)) := S.kp (g := w.heap.size) (o := 1) (x := .bool b0) (.bool b16) (by simp) (by simp)
  replace S : St w [(w.heap.size, 1, .bool b16), (w.heap.size + 1 + 1, 0, .slice none 0 0), (w.heap.size + 1 + 1, 1, .bool false), (w.heap.size + 1 + 1, 2, .slice none 0 0), (w.heap.size + 1 + 1, 3, .bool false), (w.heap.size + 1, 0, .slice p1 n1 c1), (w.heap.size + 1, 1, .bool true), (w.heap.size, 0, .slice p16 n16 c16)] [(w.heap.size + 1 + 1, 0), (w.heap.size + 1 + 1, 1), (w.heap.size + 1 + 1, 2), (w.heap.size + 1 + 1, 3), (w.heap.size + 1, 0), (w.heap.size + 1, 1), (w.heap.size, 0), (w.heap.size, 1)] ((w20.setCell ⟨w.heap.size, 0, none⟩ (.slice p16 n16 c16)).setCell ⟨w.heap.size, 1, none⟩ (.bool b16)) := S.set (g := w.heap.size) (o := 1) (.bool b16) (by simp) (by simp <;> omega) (by omega)
  replace S : St w [(w.heap.size + 1 + 1, 0, .slice none 0 0), (w.heap.size + 1 + 1, 1, .bool false), (w.heap.size + 1 + 1, 2, .slice none 0 0), (w.heap.size + 1 + 1, 3, .bool false), (w.heap.size + 1, 0, .slice p1 n1 c1), (w.heap.size + 1, 1, .bool true), (w.heap.size, 0, .slice p16 n16 c16), (w.heap.size, 1, .bool b16)] [(w.heap.size + 1 + 1, 0), (w.heap.size + 1 + 1, 1), (w.heap.size + 1 + 1, 2), (w.heap.size + 1 + 1, 3), (w.heap.size + 1, 0), (w.heap.size + 1, 1), (w.heap.size, 0), (w.heap.size, 1)] ((w20.setCell ⟨w.heap.size, 0, none⟩ (.slice p16 n16 c16)).setCell ⟨w.heap.size, 1, none⟩ (.bool b16)) := S.sub (by simp) (by simp)
  replace N16 := Lib.hid (N16.out.kp (K22.trans K23))
  replace N19 := Lib.hid (N19.out.kp (K22.trans K23))
  clear K22 K23
  have sz24 : ((w20.setCell ⟨w.heap.size, 0, none⟩ (.slice p16 n16 c16)).setCell ⟨w.heap.size, 1, none⟩ (.bool b16)).heap.size = w20.heap.size := by simp
  generalize ((w20.setCell ⟨w.heap.size, 0, none⟩ (.slice p16 n16 c16)).setCell ⟨w.heap.size, 1, none⟩ (.bool b16)) = W24 at *
  clear l0 l1 l2 lS
  have l0 := S.ltc (g := w.heap.size) (o := 0) (x := .slice p16 n16 c16) (by simp)
  have l1 := S.ltc (g := w.heap.size + 1) (o := 0) (x := .slice p1 n1 c1) (by simp)
  have l2 := S.ltc (g := w.heap.size + 1 + 1) (o := 0) (x := .slice none 0 0) (by simp)
  have lS := S.size
  obtain ⟨e0, e1, e2, e3, e4, e5, e6, e7, h0, i0, h1, i1, h2, i2, h3, i3, h4, i4, h5, i5, h6, i6, h7, i7, G⟩ := id S
  refine AnyUntil.ready (rs := [5]) (by kernel_rfl) (by simp) ?_
  refine Each.free (o := _) (by kernel_rfl) rfl (fun K hK => ?_) Each.nil
  go_simp
  refine hK.out _ _ ?_
  clear hK K
  try simp only [List.setIfInBounds_toArray, List.set_cons_zero, List.set_cons_succ]
  clear e0 e1 e2 e3 e4 e5 e6 e7 h0 i0 h1 i1 h2 i2 h3 i3 h4 i4 h5 i5 h6 i6 h7 i7 G
  have K26 : Kp W24 (W24.setCell ⟨w.heap.size + 1, 0, none⟩ (.slice p19 n19 c19)) := S.kp (g := w.heap.size + 1) (o := 0) (x := .slice p1 n1 c1) (.slice p19 n19 c19) (by simp) (by simp)
  replace S : St w [(w.heap.size + 1, 0, .slice p19 n19 c19), (w.heap.size + 1 + 1, 0, .slice none 0 0), (w.heap.size + 1 + 1, 1, .bool false), (w.heap.size + 1 + 1, 2, .slice none 0 0), (w.heap.size + 1 + 1, 3, .bool false), (w.heap.size + 1, 1, .bool true), (w.heap.size, 0, .slice p16 n16 c16), (w.heap.size, 1, .bool b16)] [(w.heap.size + 1 + 1, 0), (w.heap.size + 1 + 1, 1), (w.heap.size + 1 + 1, 2), (w.heap.size + 1 + 1, 3), (w.heap.size + 1, 0), (w.heap.size + 1, 1), (w.heap.size, 0), (w.heap.size, 1)] (W24.setCell ⟨w.heap.size + 1, 0, none⟩ (.slice p19 n19 c19)) := S.set (g := w.heap.size + 1) (o := 0) (.slice p19 n19 c19) (by simp) (by simp <;> omega) (by omega)
  have K27 : Kp (W24.setCell ⟨w.heap.size + 1, 0, none⟩ (.slice p19 n19 c19)) ((W24.setCell ⟨w.heap.size + 1, 0, none⟩ (.slice p19 n19 c19)).setCell ⟨w.heap.size + 1, 1, none⟩ (.bool b19)) := S.kp (g := w.heap.size + 1) (o := 1) (x := .bool true) (.bool b19) (by simp) (by simp)
  replace S : St w [(w.heap.size + 1, 1, .bool b19), (w.heap.size + 1 + 1, 0, .slice none 0 0), (w.heap.size + 1 + 1, 1, .bool false), (w.heap.size + 1 + 1, 2, .slice none 0 0), (w.heap.size + 1 + 1, 3, .bool false), (w.heap.size + 1, 0, .slice p19 n19 c19), (w.heap.size, 0, .slice p16 n16 c16), (w.heap.size, 1, .bool b16)] [(w.heap.size + 1 + 1, 0), (w.heap.size + 1 + 1, 1), (w.heap.size + 1 + 1, 2), (w.heap.size + 1 + 1, 3), (w.heap.size + 1, 0), (w.heap.size + 1, 1), (w.heap.size, 0), (w.heap.size, 1)] ((W24.setCell ⟨w.heap.size + 1, 0, none⟩ (.slice p19 n19 c19)).setCell ⟨w.heap.size + 1, 1, none⟩ (.bool b19)) := S.set (g := w.heap.size + 1) (o := 1) (.bool b19) (by simp) (by simp <;> omega) (by omega)
  replace S : St w [(w.heap.size + 1 + 1, 0, .slice none 0 0), (w.heap.size + 1 + 1, 1, .bool false), (w.heap.size + 1 + 1, 2, .slice none 0 0), (w.heap.size + 1 + 1, 3, .bool false), (w.heap.size + 1, 0, .slice p19 n19 c19), (w.heap.size + 1, 1, .bool b19), (w.heap.size, 0, .slice p16 n16 c16), (w.heap.size, 1, .bool b16)] [(w.heap.size + 1 + 1, 0), (w.heap.size + 1 + 1, 1), (w.heap.size + 1 + 1, 2), (w.heap.size + 1 + 1, 3), (w.heap.size + 1, 0), (w.heap.size + 1, 1), (w.heap.size, 0), (w.heap.size, 1)] ((W24.setCell ⟨w.heap.size + 1, 0, none⟩ (.slice p19 n19 c19)).setCell ⟨w.heap.size + 1, 1, none⟩ (.bool b19)) := S.sub (by simp) (by simp)
  replace N16 := Lib.hid (N16.out.kp (K26.trans K27))
  replace N19 := Lib.hid (N19.out.kp (K26.trans K27))
  clear K26 K27
  have sz28 : ((W24.setCell ⟨w.heap.size + 1, 0, none⟩ (.slice p19 n19 c19)).setCell ⟨w.heap.size + 1, 1, none⟩ (.bool b19)).heap.size = W24.heap.size := by simp
  generalize ((W24.setCell ⟨w.heap.size + 1, 0, none⟩ (.slice p19 n19 c19)).setCell ⟨w.heap.size + 1, 1, none⟩ (.bool b19)) = W28 at *
  clear l0 l1 l2 lS
  have l0 := S.ltc (g := w.heap.size) (o := 0) (x := .slice p16 n16 c16) (by simp)
  have l1 := S.ltc (g := w.heap.size + 1) (o := 0) (x := .slice p19 n19 c19) (by simp)
  have l2 := S.ltc (g := w.heap.size + 1 + 1) (o := 0) (x := .slice none 0 0) (by simp)
  have lS := S.size
  refine AnyUntil.end (by kernel_rfl) ?_ _
  refine NoPanic.normal ?_
  obtain ⟨e0, e1, e2, e3, e4, e5, e6, e7, h0, i0, h1, i1, h2, i2, h3, i3, h4, i4, h5, i5, h6, i6, h7, i7, G⟩ := id S
  go_wp2_with fail
  clear e0 e1 e2 e3 e4 e5 e6 e7 h0 i0 h1 i1 h2 i2 h3 i3 h4 i4 h5 i5 h6 i6 h7 i7 G
  obtain ⟨z29, ez29⟩ : ∃ t : Int, (Int.gcd z16 z19 : Int) = t := ⟨_, rfl⟩
  have E29 := Lib.hid ez29
  clear ez29
  go_at_call 30
  with_reducible refine (Gcd_h ((i + j + 2)) N16.out N19.out (by omega) (by omega) (by omega) E29.out).mono ?_
  rintro e w30 ⟨p29, n29, c29, b29, rfl, h, g⟩
  replace N16 := Lib.hid (N16.out.kp (Kp.of g))
  replace N19 := Lib.hid (N19.out.kp (Kp.of g))
  have N29 := Lib.hid (h)
  replace S := S.step g
  have lg30 := g.size
  clear g h l0 l1 l2 lS
  have l0 := S.ltc (g := w.heap.size) (o := 0) (x := .slice p16 n16 c16) (by simp)
  have l1 := S.ltc (g := w.heap.size + 1) (o := 0) (x := .slice p19 n19 c19) (by simp)
  have l2 := S.ltc (g := w.heap.size + 1 + 1) (o := 0) (x := .slice none 0 0) (by simp)
  have lS := S.size
  obtain ⟨e0, e1, e2, e3, e4, e5, e6, e7, h0, i0, h1, i1, h2, i2, h3, i3, h4, i4, h5, i5, h6, i6, h7, i7, G⟩ := id S
  go_wp2_with fail
  clear e0 e1 e2 e3 e4 e5 e6 e7 h0 i0 h1 i1 h2 i2 h3 i3 h4 i4 h5 i5 h6 i6 h7 i7 G
  replace S : St w [(w30.heap.size, 0, .slice p29 n29 c29), (w30.heap.size, 1, .bool b29), (w.heap.size + 1 + 1, 0, .slice none 0 0), (w.heap.size + 1 + 1, 1, .bool false), (w.heap.size + 1 + 1, 2, .slice none 0 0), (w.heap.size + 1 + 1, 3, .bool false), (w.heap.size + 1, 0, .slice p19 n19 c19), (w.heap.size + 1, 1, .bool b19), (w.heap.size, 0, .slice p16 n16 c16), (w.heap.size, 1, .bool b16)] [(w30.heap.size, 0), (w30.heap.size, 1), (w.heap.size + 1 + 1, 0), (w.heap.size + 1 + 1, 1), (w.heap.size + 1 + 1, 2), (w.heap.size + 1 + 1, 3), (w.heap.size + 1, 0), (w.heap.size + 1, 1), (w.heap.size, 0), (w.heap.size, 1)] (w30.alloc (.cells #[.slice p29 n29 c29, .bool b29] 51)) := S.made (w30.heap.size) [.slice p29 n29 c29, .bool b29] 51 (by simp)
  replace N16 := Lib.hid (N16.out.kp (Kp.of (grown_alloc w30 (.cells #[.slice p29 n29 c29, .bool b29] 51) none)))
  replace N19 := Lib.hid (N19.out.kp (Kp.of (grown_alloc w30 (.cells #[.slice p29 n29 c29, .bool b29] 51) none)))
  replace N29 := Lib.hid (N29.out.kp (Kp.of (grown_alloc w30 (.cells #[.slice p29 n29 c29, .bool b29] 51) none)))
  have sz31 : (w30.alloc (.cells #[.slice p29 n29 c29, .bool b29] 51)).heap.size = w30.heap.size + 1 := by simp
  generalize (w30.alloc (.cells #[.slice p29 n29 c29, .bool b29] 51)) = W31 at *
  have T0 : Cl [(w.heap.size, 0, .slice p16 n16 c16), (w.heap.size, 1, .bool b16), (w30.heap.size, 0, .slice p29 n29 c29), (w30.heap.size, 1, .bool b29), (w.heap.size + 1, 0, .slice p19 n19 c19), (w.heap.size + 1, 1, .bool b19)] W31 := S.cl (by simp)
  refine wp_region_noPanic ?_
  refine wp_region_held_drew (S := fun w' => w'.cell? ⟨w.heap.size, 0, none⟩ = some (.slice p16 n16 c16) ∧ w'.cell? ⟨w.heap.size, 1, none⟩ = some (.bool b16) ∧ w'.cell? ⟨w30.heap.size, 0, none⟩ = some (.slice p29 n29 c29) ∧ w'.cell? ⟨w30.heap.size, 1, none⟩ = some (.bool b29) ∧ w'.cell? ⟨w.heap.size + 1, 0, none⟩ = some (.slice p19 n19 c19) ∧ w'.cell? ⟨w.heap.size + 1, 1, none⟩ = some (.bool b19) ∧ True) (by kernel_rfl) (by exact Cl.step (cs := [(w.heap.size, 0, .slice p16 n16 c16), (w.heap.size, 1, .bool b16), (w30.heap.size, 0, .slice p29 n29 c29), (w30.heap.size, 1, .bool b29), (w.heap.size + 1, 0, .slice p19 n19 c19), (w.heap.size + 1, 1, .bool b19)]) (grown_drew _ _) T0) (fun hHeld => ?_)
  change wpAnyH _ _ _ _ _ 8 #[false, false, false, false, false, false, false, false] _ _
  replace S := S.step (grown_drew W31 none)
  replace N16 := Lib.hid (N16.out.kp (Kp.of (grown_drew W31 none)))
  replace N19 := Lib.hid (N19.out.kp (Kp.of (grown_drew W31 none)))
  replace N29 := Lib.hid (N29.out.kp (Kp.of (grown_drew W31 none)))
  have lg32 := (grown_drew W31 none).size
  clear T0
  generalize W31.drew = wr32 at *
  clear l0 l1 l2 lS
  have l0 := S.ltc (g := w.heap.size) (o := 0) (x := .slice p16 n16 c16) (by simp)
  have l1 := S.ltc (g := w.heap.size + 1) (o := 0) (x := .slice p19 n19 c19) (by simp)
  have l2 := S.ltc (g := w.heap.size + 1 + 1) (o := 0) (x := .slice none 0 0) (by simp)
  have l3 := S.ltc (g := w30.heap.size) (o := 0) (x := .slice p29 n29 c29) (by simp)
  have lS := S.size
  refine wpAnyH_take (i := 0) (oi := _) (v := ?vq33) rfl (by kernel_rfl) (by kernel_rfl) (by kernel_rfl) (fun _ _ _ h => h) (Or.inl ⟨by rfl, ?hyq33⟩) (by assumption) ?restq33
  case hyq33 => (intro w hSw; (try dsimp only at hSw); go_simp; try with_reducible rfl)
  try simp only [Act.put, List.getElem_toArray, List.getElem_cons_zero, List.setIfInBounds_toArray, List.set_cons_zero, List.set_cons_succ]
  refine wpAnyH_take (i := 1) (oi := _) (v := ?vq34) rfl (by kernel_rfl) (by kernel_rfl) (by kernel_rfl) (fun _ _ _ h => h) (Or.inl ⟨by rfl, ?hyq34⟩) (by assumption) ?restq34
  case hyq34 => (intro w hSw; (try dsimp only at hSw); go_simp; try with_reducible rfl)
  try simp only [Act.put, List.getElem_toArray, List.getElem_cons_zero, List.getElem_cons_succ, List.setIfInBounds_toArray, List.set_cons_zero, List.set_cons_succ]
  refine wpAnyH_take (i := 3) (oi := _) (v := ?vq35) rfl (by kernel_rfl) (by kernel_rfl) (by kernel_rfl) (fun _ _ _ h => h) (Or.inl ⟨by rfl, ?hyq35⟩) (by assumption) ?restq35
  case hyq35 => (intro w hSw; (try dsimp only at hSw); go_simp; try with_reducible rfl)
  try simp only [Act.put, List.getElem_toArray, List.getElem_cons_zero, List.getElem_cons_succ, List.setIfInBounds_toArray, List.set_cons_zero, List.set_cons_succ]
  refine wpAnyH_take (i := 4) (oi := _) (v := ?vq36) rfl (by kernel_rfl) (by kernel_rfl) (by kernel_rfl) (fun _ _ _ h => h) (Or.inl ⟨by rfl, ?hyq36⟩) (by assumption) ?restq36
  case hyq36 => (intro w hSw; (try dsimp only at hSw); go_simp; try with_reducible rfl)
  try simp only [Act.put, List.getElem_toArray, List.getElem_cons_zero, List.getElem_cons_succ, List.setIfInBounds_toArray, List.set_cons_zero, List.set_cons_succ]
  have BY := Lib.hid (show z29 = byOf z16 z19 by rw [byOf_pos (show 0 < z19 by rw [← E19.out]; omega), E29.out])
  have NE := Lib.hid (BY.out ▸ byOf_ne (n := z16) (d := z19) (by have := (show 0 < z19 by rw [← E19.out]; omega); omega))
  have DZ := Lib.hid (BY.out ▸ byOf_dvd_n z16 z19)
  have DY := Lib.hid (BY.out ▸ byOf_dvd_d z16 z19)
  obtain ⟨z38, ez38⟩ : ∃ t : Int, z16 / z29 = t := ⟨_, rfl⟩
  have E38 := Lib.hid ez38
  clear ez38
  refine wpAnyH_ready (rs := [2]) (by kernel_rfl) (by simp) ?_
  refine AllReadyH.cons (o := _) rfl (fun K hK => ?_) AllReadyH.nil
  go_simp
  go_at_call 77
  with_reducible refine (Quo_h N16.out N29.out (by omega) NE.out DZ.out E38.out).mono ?_
  rintro e w39 ⟨p38, n38, c38, b38, rfl, h, g⟩
  clear N16
  replace N19 := Lib.hid (N19.out.kp (Kp.of g))
  replace N29 := Lib.hid (N29.out.kp (Kp.of g))
  have N38 := Lib.hid (h)
  replace S := S.step g
  have lg39 := g.size
  clear l0 l1 l2 l3 lS
  have l0 := S.ltc (g := w.heap.size) (o := 0) (x := .slice p16 n16 c16) (by simp)
  have l1 := S.ltc (g := w.heap.size + 1) (o := 0) (x := .slice p19 n19 c19) (by simp)
  have l2 := S.ltc (g := w.heap.size + 1 + 1) (o := 0) (x := .slice none 0 0) (by simp)
  have l3 := S.ltc (g := w30.heap.size) (o := 0) (x := .slice p29 n29 c29) (by simp)
  have lS := S.size
  go_wp2_with fail
  refine hK.out _ _ ?hSq37 (fun hHeld => ?_)
  case hSq37 => exact Cl.step (cs := [(w.heap.size, 0, .slice p16 n16 c16), (w.heap.size, 1, .bool b16), (w30.heap.size, 0, .slice p29 n29 c29), (w30.heap.size, 1, .bool b29), (w.heap.size + 1, 0, .slice p19 n19 c19), (w.heap.size + 1, 1, .bool b19)]) g (by assumption)
  clear hK K g h
  try simp only [List.setIfInBounds_toArray, List.set_cons_zero, List.set_cons_succ]
  obtain ⟨z41, ez41⟩ : ∃ t : Int, z19 / z29 = t := ⟨_, rfl⟩
  have E41 := Lib.hid ez41
  clear ez41
  refine wpAnyH_ready (rs := [5]) (by kernel_rfl) (by simp) ?_
  refine AllReadyH.cons (o := _) rfl (fun K hK => ?_) AllReadyH.nil
  go_simp
  go_at_call 77
  with_reducible refine (Quo_h N19.out N29.out (by omega) NE.out DY.out E41.out).mono ?_
  rintro e w42 ⟨p41, n41, c41, b41, rfl, h, g⟩
  clear N19 N29
  replace N38 := Lib.hid (N38.out.kp (Kp.of g))
  have N41 := Lib.hid (h)
  replace S := S.step g
  have lg42 := g.size
  clear l0 l1 l2 l3 lS
  have l0 := S.ltc (g := w.heap.size) (o := 0) (x := .slice p16 n16 c16) (by simp)
  have l1 := S.ltc (g := w.heap.size + 1) (o := 0) (x := .slice p19 n19 c19) (by simp)
  have l2 := S.ltc (g := w.heap.size + 1 + 1) (o := 0) (x := .slice none 0 0) (by simp)
  have l3 := S.ltc (g := w30.heap.size) (o := 0) (x := .slice p29 n29 c29) (by simp)
  have lS := S.size
  go_wp2_with fail
  refine hK.out _ _ ?hSq40 (fun hHeld => ?_)
  case hSq40 => exact Cl.step (cs := [(w.heap.size, 0, .slice p16 n16 c16), (w.heap.size, 1, .bool b16), (w30.heap.size, 0, .slice p29 n29 c29), (w30.heap.size, 1, .bool b29), (w.heap.size + 1, 0, .slice p19 n19 c19), (w.heap.size + 1, 1, .bool b19)]) g (by assumption)
  clear hK K g h
  try simp only [List.setIfInBounds_toArray, List.set_cons_zero, List.set_cons_succ]
  refine wpAnyH_take (i := 6) (oi := _) (v := ?vq43) rfl (by kernel_rfl) (by kernel_rfl) (by kernel_rfl) (fun _ _ _ h => h) (Or.inl ⟨by rfl, ?hyq43⟩) (by assumption) ?restq43
  case hyq43 => (intro w hSw; (try dsimp only at hSw); go_simp; try with_reducible rfl)
  try simp only [Act.put, List.getElem_toArray, List.getElem_cons_zero, List.getElem_cons_succ, List.setIfInBounds_toArray, List.set_cons_zero, List.set_cons_succ]
  obtain ⟨e0, e1, e2, e3, e4, e5, e6, e7, e8, e9, h0, i0, h1, i1, h2, i2, h3, i3, h4, i4, h5, i5, h6, i6, h7, i7, h8, i8, h9, i9, G⟩ := id S
  refine wpAnyH_ready (rs := [7]) (by kernel_rfl) (by simp) ?_
  refine AllReadyH.cons (o := _) rfl (fun K hK => ?_) AllReadyH.nil
  go_simp
  refine hK.out _ _ ?hSq44 (fun hHeld => ?_)
  case hSq44 => exact (Cl.set (cs := [(w.heap.size, 0, .slice p16 n16 c16), (w.heap.size, 1, .bool b16), (w30.heap.size, 0, .slice p29 n29 c29), (w30.heap.size, 1, .bool b29), (w.heap.size + 1, 0, .slice p19 n19 c19), (w.heap.size + 1, 1, .bool b19)]) (g := w.heap.size + 1 + 1) (o := 3) (u := .bool b41) (Cl.set (cs := [(w.heap.size, 0, .slice p16 n16 c16), (w.heap.size, 1, .bool b16), (w30.heap.size, 0, .slice p29 n29 c29), (w30.heap.size, 1, .bool b29), (w.heap.size + 1, 0, .slice p19 n19 c19), (w.heap.size + 1, 1, .bool b19)]) (g := w.heap.size + 1 + 1) (o := 2) (u := .slice p41 n41 c41) (Cl.set (cs := [(w.heap.size, 0, .slice p16 n16 c16), (w.heap.size, 1, .bool b16), (w30.heap.size, 0, .slice p29 n29 c29), (w30.heap.size, 1, .bool b29), (w.heap.size + 1, 0, .slice p19 n19 c19), (w.heap.size + 1, 1, .bool b19)]) (g := w.heap.size + 1 + 1) (o := 1) (u := .bool b38) (Cl.set (cs := [(w.heap.size, 0, .slice p16 n16 c16), (w.heap.size, 1, .bool b16), (w30.heap.size, 0, .slice p29 n29 c29), (w30.heap.size, 1, .bool b29), (w.heap.size + 1, 0, .slice p19 n19 c19), (w.heap.size + 1, 1, .bool b19)]) (g := w.heap.size + 1 + 1) (o := 0) (u := .slice p38 n38 c38) (by assumption) (by simp <;> omega)) (by simp <;> omega)) (by simp <;> omega)) (by simp <;> omega))
  clear hK K
  try simp only [List.setIfInBounds_toArray, List.set_cons_zero, List.set_cons_succ]
  clear e0 e1 e2 e3 e4 e5 e6 e7 e8 e9 h0 i0 h1 i1 h2 i2 h3 i3 h4 i4 h5 i5 h6 i6 h7 i7 h8 i8 h9 i9 G
  have K45 : Kp w42 (w42.setCell ⟨w.heap.size + 1 + 1, 0, none⟩ (.slice p38 n38 c38)) := S.kp (g := w.heap.size + 1 + 1) (o := 0) (x := .slice none 0 0) (.slice p38 n38 c38) (by simp) (by simp)
  replace S : St w [(w.heap.size + 1 + 1, 0, .slice p38 n38 c38), (w30.heap.size, 0, .slice p29 n29 c29), (w30.heap.size, 1, .bool b29), (w.heap.size + 1 + 1, 1, .bool false), (w.heap.size + 1 + 1, 2, .slice none 0 0), (w.heap.size + 1 + 1, 3, .bool false), (w.heap.size + 1, 0, .slice p19 n19 c19), (w.heap.size + 1, 1, .bool b19), (w.heap.size, 0, .slice p16 n16 c16), (w.heap.size, 1, .bool b16)] [(w30.heap.size, 0), (w30.heap.size, 1), (w.heap.size + 1 + 1, 0), (w.heap.size + 1 + 1, 1), (w.heap.size + 1 + 1, 2), (w.heap.size + 1 + 1, 3), (w.heap.size + 1, 0), (w.heap.size + 1, 1), (w.heap.size, 0), (w.heap.size, 1)] (w42.setCell ⟨w.heap.size + 1 + 1, 0, none⟩ (.slice p38 n38 c38)) := S.set (g := w.heap.size + 1 + 1) (o := 0) (.slice p38 n38 c38) (by simp) (by simp <;> omega) (by omega)
  have K46 : Kp (w42.setCell ⟨w.heap.size + 1 + 1, 0, none⟩ (.slice p38 n38 c38)) ((w42.setCell ⟨w.heap.size + 1 + 1, 0, none⟩ (.slice p38 n38 c38)).setCell ⟨w.heap.size + 1 + 1, 1, none⟩ (.bool b38)) := S.kp (g := w.heap.size + 1 + 1) (o := 1) (x := .bool false) (.bool b38) (by simp) (by simp)
  replace S : St w [(w.heap.size + 1 + 1, 1, .bool b38), (w30.heap.size, 0, .slice p29 n29 c29), (w30.heap.size, 1, .bool b29), (w.heap.size + 1 + 1, 0, .slice p38 n38 c38), (w.heap.size + 1 + 1, 2, .slice none 0 0), (w.heap.size + 1 + 1, 3, .bool false), (w.heap.size + 1, 0, .slice p19 n19 c19), (w.heap.size + 1, 1, .bool b19), (w.heap.size, 0, .slice p16 n16 c16), (w.heap.size, 1, .bool b16)] [(w30.heap.size, 0), (w30.heap.size, 1), (w.heap.size + 1 + 1, 0), (w.heap.size + 1 + 1, 1), (w.heap.size + 1 + 1, 2), (w.heap.size + 1 + 1, 3), (w.heap.size + 1, 0), (w.heap.size + 1, 1), (w.heap.size, 0), (w.heap.size, 1)] ((w42.setCell ⟨w.heap.size + 1 + 1, 0, none⟩ (.slice p38 n38 c38)).setCell ⟨w.heap.size + 1 + 1, 1, none⟩ (.bool b38)) := S.set (g := w.heap.size + 1 + 1) (o := 1) (.bool b38) (by simp) (by simp <;> omega) (by omega)
  have K47 : Kp ((w42.setCell ⟨w.heap.size + 1 + 1, 0, none⟩ (.slice p38 n38 c38)).setCell ⟨w.heap.size + 1 + 1, 1, none⟩ (.bool b38)) (((w42.setCell ⟨w.heap.size + 1 + 1, 0, none⟩ (.slice p38 n38 c38)).setCell ⟨w.heap.size + 1 + 1, 1, none⟩ (.bool b38)).setCell ⟨w.heap.size + 1 + 1, 2, none⟩ (.slice p41 n41 c41)) := S.kp (g := w.heap.size + 1 + 1) (o := 2) (x := .slice none 0 0) (.slice p41 n41 c41) (by simp) (by simp)
  replace S : St w [(w.heap.size + 1 + 1, 2, .slice p41 n41 c41), (w30.heap.size, 0, .slice p29 n29 c29), (w30.heap.size, 1, .bool b29), (w.heap.size + 1 + 1, 0, .slice p38 n38 c38), (w.heap.size + 1 + 1, 1, .bool b38), (w.heap.size + 1 + 1, 3, .bool false), (w.heap.size + 1, 0, .slice p19 n19 c19), (w.heap.size + 1, 1, .bool b19), (w.heap.size, 0, .slice p16 n16 c16), (w.heap.size, 1, .bool b16)] [(w30.heap.size, 0), (w30.heap.size, 1), (w.heap.size + 1 + 1, 0), (w.heap.size + 1 + 1, 1), (w.heap.size + 1 + 1, 2), (w.heap.size + 1 + 1, 3), (w.heap.size + 1, 0), (w.heap.size + 1, 1), (w.heap.size, 0), (w.heap.size, 1)] (((w42.setCell ⟨w.heap.size + 1 + 1, 0, none⟩ (.slice p38 n38 c38)).setCell ⟨w.heap.size + 1 + 1, 1, none⟩ (.bool b38)).setCell ⟨w.heap.size + 1 + 1, 2, none⟩ (.slice p41 n41 c41)) := S.set (g := w.heap.size + 1 + 1) (o := 2) (.slice p41 n41 c41) (by simp) (by simp <;> omega) (by omega)
  have K48 : Kp (((w42.setCell ⟨w.heap.size + 1 + 1, 0, none⟩ (.slice p38 n38 c38)).setCell ⟨w.heap.size + 1 + 1, 1, none⟩ (.bool b38)).setCell ⟨w.heap.size + 1 + 1, 2, none⟩ (.slice p41 n41 c41)) ((((w42.setCell ⟨w.heap.size + 1 + 1, 0, none⟩ (.slice p38 n38 c38)).setCell ⟨w.heap.size + 1 + 1, 1, none⟩ (.bool b38)).setCell ⟨w.heap.size + 1 + 1, 2, none⟩ (.slice p41 n41 c41)).setCell ⟨w.heap.size + 1 + 1, 3, none⟩ (.bool b41)) := S.kp (g := w.heap.size + 1 + 1) (o := 3) (x := .bool false) (.bool b41) (by simp) (by simp)
  replace S : St w [(w.heap.size + 1 + 1, 3, .bool b41), (w30.heap.size, 0, .slice p29 n29 c29), (w30.heap.size, 1, .bool b29), (w.heap.size + 1 + 1, 0, .slice p38 n38 c38), (w.heap.size + 1 + 1, 1, .bool b38), (w.heap.size + 1 + 1, 2, .slice p41 n41 c41), (w.heap.size + 1, 0, .slice p19 n19 c19), (w.heap.size + 1, 1, .bool b19), (w.heap.size, 0, .slice p16 n16 c16), (w.heap.size, 1, .bool b16)] [(w30.heap.size, 0), (w30.heap.size, 1), (w.heap.size + 1 + 1, 0), (w.heap.size + 1 + 1, 1), (w.heap.size + 1 + 1, 2), (w.heap.size + 1 + 1, 3), (w.heap.size + 1, 0), (w.heap.size + 1, 1), (w.heap.size, 0), (w.heap.size, 1)] ((((w42.setCell ⟨w.heap.size + 1 + 1, 0, none⟩ (.slice p38 n38 c38)).setCell ⟨w.heap.size + 1 + 1, 1, none⟩ (.bool b38)).setCell ⟨w.heap.size + 1 + 1, 2, none⟩ (.slice p41 n41 c41)).setCell ⟨w.heap.size + 1 + 1, 3, none⟩ (.bool b41)) := S.set (g := w.heap.size + 1 + 1) (o := 3) (.bool b41) (by simp) (by simp <;> omega) (by omega)
  replace S : St w [(w30.heap.size, 0, .slice p29 n29 c29), (w30.heap.size, 1, .bool b29), (w.heap.size + 1 + 1, 0, .slice p38 n38 c38), (w.heap.size + 1 + 1, 1, .bool b38), (w.heap.size + 1 + 1, 2, .slice p41 n41 c41), (w.heap.size + 1 + 1, 3, .bool b41), (w.heap.size + 1, 0, .slice p19 n19 c19), (w.heap.size + 1, 1, .bool b19), (w.heap.size, 0, .slice p16 n16 c16), (w.heap.size, 1, .bool b16)] [(w30.heap.size, 0), (w30.heap.size, 1), (w.heap.size + 1 + 1, 0), (w.heap.size + 1 + 1, 1), (w.heap.size + 1 + 1, 2), (w.heap.size + 1 + 1, 3), (w.heap.size + 1, 0), (w.heap.size + 1, 1), (w.heap.size, 0), (w.heap.size, 1)] ((((w42.setCell ⟨w.heap.size + 1 + 1, 0, none⟩ (.slice p38 n38 c38)).setCell ⟨w.heap.size + 1 + 1, 1, none⟩ (.bool b38)).setCell ⟨w.heap.size + 1 + 1, 2, none⟩ (.slice p41 n41 c41)).setCell ⟨w.heap.size + 1 + 1, 3, none⟩ (.bool b41)) := S.sub (by simp) (by simp)
  replace N38 := Lib.hid (N38.out.kp (((K45.trans K46).trans K47).trans K48))
  replace N41 := Lib.hid (N41.out.kp (((K45.trans K46).trans K47).trans K48))
  clear K45 K46 K47 K48
  have sz49 : ((((w42.setCell ⟨w.heap.size + 1 + 1, 0, none⟩ (.slice p38 n38 c38)).setCell ⟨w.heap.size + 1 + 1, 1, none⟩ (.bool b38)).setCell ⟨w.heap.size + 1 + 1, 2, none⟩ (.slice p41 n41 c41)).setCell ⟨w.heap.size + 1 + 1, 3, none⟩ (.bool b41)).heap.size = w42.heap.size := by simp
  generalize ((((w42.setCell ⟨w.heap.size + 1 + 1, 0, none⟩ (.slice p38 n38 c38)).setCell ⟨w.heap.size + 1 + 1, 1, none⟩ (.bool b38)).setCell ⟨w.heap.size + 1 + 1, 2, none⟩ (.slice p41 n41 c41)).setCell ⟨w.heap.size + 1 + 1, 3, none⟩ (.bool b41)) = W49 at *
  clear l0 l1 l2 l3 lS
  have l0 := S.ltc (g := w.heap.size) (o := 0) (x := .slice p16 n16 c16) (by simp)
  have l1 := S.ltc (g := w.heap.size + 1) (o := 0) (x := .slice p19 n19 c19) (by simp)
  have l2 := S.ltc (g := w.heap.size + 1 + 1) (o := 0) (x := .slice p38 n38 c38) (by simp)
  have l3 := S.ltc (g := w30.heap.size) (o := 0) (x := .slice p29 n29 c29) (by simp)
  have lS := S.size
  refine wpAnyH_done (by kernel_rfl) ?_ _
  refine NoPanic.normal ?_
  obtain ⟨e0, e1, e2, e3, e4, e5, e6, e7, e8, e9, h0, i0, h1, i1, h2, i2, h3, i3, h4, i4, h5, i5, h6, i6, h7, i7, h8, i8, h9, i9, G⟩ := id S
  go_wp2_with fail
  clear e0 e1 e2 e3 e4 e5 e6 e7 e8 e9 h0 i0 h1 i1 h2 i2 h3 i3 h4 i4 h5 i5 h6 i6 h7 i7 h8 i8 h9 i9 G
  refine post_S Tryz.results26 rfl rfl (S.cell (g := w.heap.size + 1 + 1) (o := 0) (x := .slice p38 n38 c38) (by simp)) (S.cell (g := w.heap.size + 1 + 1) (o := 1) (x := .bool b38) (by simp)) (S.cell (g := w.heap.size + 1 + 1) (o := 2) (x := .slice p41 n41 c41) (by simp)) (S.cell (g := w.heap.size + 1 + 1) (o := 3) (x := .bool b41) (by simp)) ⟨_, _, _, _, _, _, _, _, rfl, ⟨_, _, _, _, _, _, _, _, rfl, (N38.out.eqz (show z38 = _ by rw [qOf_ne (of_decide_eq_false Y0.out), ← Rat.neg_divInt_neg, E16.out, E19.out, ← num_by (n := z16) (by have := (show 0 < z19 by rw [← E19.out]; omega); omega), ← BY.out, E38.out])).more (by omega), (N41.out.eqz (show z41 = _ by rw [qOf_ne (of_decide_eq_false Y0.out), ← Rat.neg_divInt_neg, E16.out, E19.out, ← den_by (n := z16) (by have := (show 0 < z19 by rw [← E19.out]; omega); omega), ← BY.out, E41.out])).more (by omega)⟩, S.all⟩

theorem Make_h {v u : Value} {z y : Int} {t : Rat} {i j : Nat} {w : World} (hx : DecI w v z i) (hy : DecI w u y j) (hk : i + j ≤ 200000) (ht : qOf z y = t) : Calls Tryz.prog 26 #[v, u] w (GotS w t (i + j + 2)) := by
  subst ht
  obtain ⟨p0, c0, rfl, -⟩ := id hx
  obtain ⟨p1, c1, e1, -⟩ := id hy
  obtain ⟨n1, hn⟩ : ∃ n, (dig 10000 y.natAbs).length = n := ⟨_, rfl⟩
  rw [hn] at e1
  subst e1
  rcases Int.lt_trichotomy y 0 with h | h | h
  · rw [decide_eq_true h] at hy ⊢
    by_cases h1 : y.natAbs = 1
    · exact Make_neg_one hx hy hk h h1 (by rw [h1]; decide +kernel)
    · by_cases hl : (dig 10000 y.natAbs).length = 1
      · exact Make_neg_digit hx hy hk h hl h1
      · exact Make_neg_long hx hy hk h hl
  · exact Make_zero_one hx hy hk h
  · rw [decide_eq_false (show ¬ y < 0 by omega)] at hy ⊢
    by_cases hl : n1 = 1
    · subst hl
      obtain ⟨blk, off, rfl, hc⟩ := hy.one
      by_cases h1 : y.natAbs = 1
      · exact Make_pos_one hx hy hk h h1 hc
      · exact Make_pos_digit hx hy hk h h1 hc
    · exact Make_pos_long hx hy hk h hl

end Go.Proofs.YtigkehblnlghkaaGreat
