/- WholeAlls holds: for every row of whole numbers and every n the law returns true and leaves them as they were. No condition. -/
import Derived.Test.YtmkplojojaopmaaSums
import Derived.Test.YtmkplojojaopmaaStages
namespace Go.Proofs.Ytmkplojojaopmaa.alls
open Go.ChangeShapes Go.WideShapes Go.ChangeAt Go.RowKit

theorem nums_kp {w w' : World} {L : List (Bool × Value)} {zs : Nat → Int} {k : Nat} (h : ∀ (j : Nat) (r : Bool × Value), L[j]? = some r → ∃ X, Num w r.2 X k ∧ zs j = sg r.1 X) (g : Kp w w') : ∀ (j : Nat) (r : Bool × Value), L[j]? = some r → ∃ X, Num w' r.2 X k ∧ zs j = sg r.1 X := fun j r hr => by
  obtain ⟨X, h1, h2⟩ := h j r hr
  exact ⟨X, h1.kp g, h2⟩
theorem nums_app {w : World} {L : List (Bool × Value)} {zs : Nat → Int} {k i : Nat} (hL : L.length = i) (h : ∀ (j : Nat) (r : Bool × Value), L[j]? = some r → ∃ X, Num w r.2 X k ∧ zs j = sg r.1 X) {z : Int} {b : Bool} {s : Value} (hz : zs i = z) (hv : IntV w (.agg #[.bool b, s]) z k) :
    ∀ (j : Nat) (r : Bool × Value), (L ++ [(b, s)])[j]? = some r → ∃ X, Num w r.2 X k ∧ zs j = sg r.1 X := fun j r hr => by
  rw [List.getElem?_append] at hr
  split at hr
  · exact h j r hr
  · rename_i hj
    have hj2 : j = i := by
      have := (List.getElem?_eq_some_iff.1 hr).1
      simp at this
      omega
    subst hj2
    rw [hL, Nat.sub_self] at hr
    simp at hr
    subst hr
    obtain ⟨X, h1, h2⟩ := hv.parts
    exact ⟨X, h1, by rw [hz, h2]⟩
theorem abs_low {m : Int} (h : m < -4611686018427387903) : 4611686018427387904 ≤ m.natAbs := by omega
theorem abs_in {m : Int} (h : -4611686018427387903 ≤ m) (h2 : m < 4611686018427387904) : m.natAbs < 4611686018427387904 := by omega
theorem abs_high {m : Int} (h : 4611686018427387904 ≤ m) : 4611686018427387904 ≤ m.natAbs := by omega
theorem DecI.more {w : World} {v : Value} {z : Int} {k l : Nat} (h : DecI w v z k) (hl : k ≤ l) : DecI w v z l := by
  obtain ⟨p, cap, h1, h2, h3⟩ := h
  exact ⟨p, cap, h1, h2, h3.more hl⟩
set_option maxHeartbeats 16000000 in
set_option maxRecDepth 100000 in
theorem walk {v0 : Value} {n : Nat} {q : Nat → Bool × Value × List Nat} {w : World} (h0 : RowIn w v0 n q) (m : Int) (m1 : -9223372036854775808 ≤ m) (m2 : m ≤ 9223372036854775807) :
    Calls Try.prog 3 #[v0, .int .i64 m] w (Bool_ w true) := by
  obtain ⟨p0, cap0, rfl, n1, n2, h0⟩ := h0
  have H0 := Lib.hid h0
  clear h0
  have S : Bx w [] w := Bx.start w
  go_enter Try.func3, Try.ntmps3
  go_wp2_with fail
  with_reducible refine (Of_r 0 _ (by omega) (by omega)).mono ?_
  rintro e w1 ⟨v, rfl, h, bd, g⟩
  obtain ⟨z0, hz0⟩ : ∃ z : Int, 0 = z := ⟨_, rfl⟩
  rw [hz0] at h bd
  replace S := S.step _ g
  obtain ⟨pw, cw, rfl, -⟩ := id h
  have DS := Lib.hid (h.decI bd)
  have Hz0 := Lib.hid hz0
  clear h bd g hz0
  go_wp2_with fail
  with_reducible refine (Of_r 1 _ (by omega) (by omega)).mono ?_
  rintro e w2 ⟨v, rfl, h, bd, g⟩
  obtain ⟨z1, hz1⟩ : ∃ z : Int, 1 = z := ⟨_, rfl⟩
  rw [hz1] at h bd
  replace DS := Lib.hid (DS.out.kp (Kp.of g))
  replace S := S.step _ g
  obtain ⟨pq, cq, rfl, -⟩ := id h
  have DP := Lib.hid (h.decI bd)
  have Hz1 := Lib.hid hz1
  clear h bd g hz1
  have sw2 := S.all.size
  replace DS := Lib.hid (DS.out.kp (Kp.of (grown_alloc _ (.cells #[.slice pw (dig 10000 (z0).natAbs).length cw, .bool (decide (z0 < 0))] 26) none)))
  replace DP := Lib.hid (DP.out.kp (Kp.of (grown_alloc _ (.cells #[.slice pw (dig 10000 (z0).natAbs).length cw, .bool (decide (z0 < 0))] 26) none)))
  replace S := S.box (w2.heap.size) (.slice pw (dig 10000 (z0).natAbs).length cw) (.bool (decide (z0 < 0))) 26 (by simp)
  replace DS := Lib.hid (DS.out.kp (Kp.of (grown_alloc _ (.cells #[.slice pq (dig 10000 (z1).natAbs).length cq, .bool (decide (z1 < 0))] 26) none)))
  replace DP := Lib.hid (DP.out.kp (Kp.of (grown_alloc _ (.cells #[.slice pq (dig 10000 (z1).natAbs).length cq, .bool (decide (z1 < 0))] 26) none)))
  replace S := S.box (w2.heap.size + 1) (.slice pq (dig 10000 (z1).natAbs).length cq) (.bool (decide (z1 < 0))) 26 (by simp)
  obtain ⟨e0, e1, e2, e3, e4, e5, e6, e7, G⟩ := id S
  go_wp2_with fail
  clear e0 e1 e2 e3 e4 e5 e6 e7 G
  have sgz : ((w2.alloc (.cells #[.slice pw (dig 10000 (z0).natAbs).length cw, .bool (decide (z0 < 0))] 26)).alloc (.cells #[.slice pq (dig 10000 (z1).natAbs).length cq, .bool (decide (z1 < 0))] 26)).heap.size = w2.heap.size + 2 := by simp
  have sl := S.all.size
  generalize ((w2.alloc (.cells #[.slice pw (dig 10000 (z0).natAbs).length cw, .bool (decide (z0 < 0))] 26)).alloc (.cells #[.slice pq (dig 10000 (z1).natAbs).length cq, .bool (decide (z1 < 0))] 26)) = W2 at *
  obtain ⟨zs, hzs⟩ : ∃ f : Nat → Int, f = fun j => sg (q j).1 (val 4294967296 ((q j).2.2.take 5)) := ⟨_, rfl⟩
  have Hzs := Lib.hid hzs
  clear hzs
  obtain ⟨B, hB⟩ : ∃ B, W2.heap.size = B := ⟨_, rfl⟩
  have hB1 : w2.heap.size + 2 ≤ B := by omega
  have hB2 : B ≤ W2.heap.size := by omega
  have hB3 : w.heap.size ≤ B := by omega
  clear hB
  go_loopw [7, 8] (fun xv iv wr => ∃ (i : Nat) (L : List (Bool × Value)) (zu : Int) (p : Option Addr) (c : Nat) (zt : Int) (p2 : Option Addr) (c2 : Nat), i ≤ n ∧ i ≤ 8 ∧ iv = .int .i64 (i : Int) ∧ L.length = i ∧ Hid (zu = sumZ zs i) ∧ Hid (zt = prodZ zs i) ∧ Hid (OwnZ wr B xv L) ∧ Hid (∀ (j : Nat) (r : Bool × Value), L[j]? = some r → ∃ X, Num wr r.2 X 5 ∧ zs j = sg r.1 X) ∧ Hid (Bx w [(w2.heap.size + 1, .slice p2 (dig 10000 (zt).natAbs).length c2, .bool (decide (zt < 0))), (w2.heap.size, .slice p (dig 10000 (zu).natAbs).length c, .bool (decide (zu < 0)))] wr) ∧ Hid (DecI wr (.agg #[.slice p (dig 10000 (zu).natAbs).length c, .bool (decide (zu < 0))]) zu (2 + 6 * i)) ∧ Hid (DecI wr (.agg #[.slice p2 (dig 10000 (zt).natAbs).length c2, .bool (decide (zt < 0))]) zt (2 + 5 * i)) ∧ Hid (Kp W2 wr)) (fun _ iv _ => 8 - (intOf iv).toNat)
  case atStart => exact ⟨0, [], z0, pw, cw, z1, pq, cq, Nat.zero_le _, by omega, rfl, rfl, Hz0.out.symm, Hz1.out.symm, OwnZ.nil _ _, fun j r h => by simp at h, S, DS.out, DP.out, Kp.refl _⟩
  case round =>
    obtain ⟨i, L, zu, p, c, zt, p2, c2, hin, hi5, rfl, hL, Z, ZT, OZ, NU, S1, DS', DP', KW⟩ := hrel
    clear S DS DP
    have S := S1.out
    have HL := Lib.hid hL
    have szB := KW.out.1
    clear S1
    by_cases h1 : i < n
    · by_cases h2 : i < 8
      · have k1 : (i : Int) < (n : Int) := by omega
        have k2 : (i : Int) < 8 := by omega
        rcases H0.out with h0 | ⟨bb, off, rfl, hcell⟩
        · omega
        obtain ⟨d0, d1, d2, d3⟩ := hcell i (by omega)
        replace d0 := cell_grown S.all d0
        replace d1 := cell_grown S.all d1
        have D2 := Lib.hid (d2.grown S.all (.inl rfl))
        have D3 := Lib.hid d3
        obtain ⟨ps, cs0, es, -⟩ := id d2
        rw [es] at d1 D2
        obtain ⟨qb, hqb⟩ : ∃ x, (q i).1 = x := ⟨_, rfl⟩
        obtain ⟨ql, hql⟩ : ∃ x, (q i).2.2 = x := ⟨_, rfl⟩
        have ez := Lib.hid (show zs i = sg qb (val 4294967296 (ql.take 5)) by rw [Hzs.out, ← hqb, ← hql])
        rw [hqb] at d0
        rw [hql] at d1 D2 D3
        clear hcell d2 d3 es hqb hql
        obtain ⟨e0, e1, e2, e3, e4, e5, e6, e7, G⟩ := id S
        go_wp2_with fail
        clear e0 e1 e2 e3 e4 e5 e6 e7 G
        clear d0 d1
        refine (Of_l 5 D2.out D3.out (by omega)).mono ?_
        rintro e w3 ⟨pB, nB, cB, uy, rfl, hsr, hd, g⟩
        replace DS' := Lib.hid (DS'.out.kp (Kp.of g))
        replace DP' := Lib.hid (DP'.out.kp (Kp.of g))
        replace S := S.step _ g
        replace NU := Lib.hid (nums_kp NU.out (Kp.of g))
        replace OZ := Lib.hid (OZ.out.grown g (.inl rfl))
        replace KW := Lib.hid (KW.out.trans (Kp.of g))
        replace hsr := hsr.grown g (.inl rfl)
        clear g D2
        obtain ⟨zy, hzy⟩ : ∃ z, sg qb (val 4294967296 (ql.take 5)) = z := ⟨_, rfl⟩
        rw [hzy] at hd
        replace ez := Lib.hid (show zs i = zy by rw [ez.out, hzy])
        have hzy2 := Lib.hid hzy.symm
        clear hzy
        obtain ⟨py, cy, rfl, -⟩ := id hd
        have Dy := Lib.hid (hd)
        have VN := Lib.hid (show IntV _ (.agg #[.bool qb, .slice pB nB cB]) zy 5 from ⟨_, _, _, rfl, Num.row hsr (D3.out.take 5) 5 (by rw [List.length_take]; omega), hzy2.out⟩)
        clear hd hsr D3
        have v_0 := S.lt (g := w2.heap.size + 1) (x := .slice p2 (dig 10000 (zt).natAbs).length c2) (y := .bool (decide (zt < 0))) (by simp)
        have v_1 := S.lt (g := w2.heap.size) (x := .slice p (dig 10000 (zu).natAbs).length c) (y := .bool (decide (zu < 0))) (by simp)
        have sl3 := S.all.size
        have OZl : ∀ gg, u7.ownBlock = some gg → gg < w3.heap.size := fun gg e => (OZ.out.lt gg e).2
        replace NU := Lib.hid (nums_kp NU.out (Kp.of (grown_alloc _ (.cells #[.bool qb, .slice pB nB cB] 30) none)))
        replace OZ := Lib.hid (OZ.out.grown (grown_alloc _ (.cells #[.bool qb, .slice pB nB cB] 30) none) (.inl rfl))
        replace KW := Lib.hid (KW.out.trans (Kp.of (grown_alloc _ (.cells #[.bool qb, .slice pB nB cB] 30) none)))
        replace DS' := Lib.hid (DS'.out.kp (Kp.of (grown_alloc _ (.cells #[.bool qb, .slice pB nB cB] 30) none)))
        replace DP' := Lib.hid (DP'.out.kp (Kp.of (grown_alloc _ (.cells #[.bool qb, .slice pB nB cB] 30) none)))
        replace Dy := Lib.hid (Dy.out.kp (Kp.of (grown_alloc _ (.cells #[.bool qb, .slice pB nB cB] 30) none)))
        replace VN := Lib.hid (VN.out.kp (Kp.of (grown_alloc _ (.cells #[.bool qb, .slice pB nB cB] 30) none)))
        replace S := S.box (w3.heap.size) (.bool qb) (.slice pB nB cB) 30 (by simp)
        replace NU := Lib.hid (nums_kp NU.out (Kp.of (grown_alloc _ (.cells #[.slice py (dig 10000 (zy).natAbs).length cy, .bool (decide (zy < 0))] 26) none)))
        replace OZ := Lib.hid (OZ.out.grown (grown_alloc _ (.cells #[.slice py (dig 10000 (zy).natAbs).length cy, .bool (decide (zy < 0))] 26) none) (.inl rfl))
        replace KW := Lib.hid (KW.out.trans (Kp.of (grown_alloc _ (.cells #[.slice py (dig 10000 (zy).natAbs).length cy, .bool (decide (zy < 0))] 26) none)))
        replace DS' := Lib.hid (DS'.out.kp (Kp.of (grown_alloc _ (.cells #[.slice py (dig 10000 (zy).natAbs).length cy, .bool (decide (zy < 0))] 26) none)))
        replace DP' := Lib.hid (DP'.out.kp (Kp.of (grown_alloc _ (.cells #[.slice py (dig 10000 (zy).natAbs).length cy, .bool (decide (zy < 0))] 26) none)))
        replace Dy := Lib.hid (Dy.out.kp (Kp.of (grown_alloc _ (.cells #[.slice py (dig 10000 (zy).natAbs).length cy, .bool (decide (zy < 0))] 26) none)))
        replace VN := Lib.hid (VN.out.kp (Kp.of (grown_alloc _ (.cells #[.slice py (dig 10000 (zy).natAbs).length cy, .bool (decide (zy < 0))] 26) none)))
        replace S := S.box (w3.heap.size + 1) (.slice py (dig 10000 (zy).natAbs).length cy) (.bool (decide (zy < 0))) 26 (by simp)
        have OZ7 := Lib.hid (OZ.out.grown (grown_alloc _ (.cells #[.bool qb, .slice pB nB cB] 30) none) (.inl rfl))
        have hB7 : B ≤ w3.heap.size := by have := KW.out.1; simp at this; omega
        obtain ⟨e0, e1, e2, e3, e4, e5, e6, e7, e8, e9, e10, e11, e12, e13, e14, e15, G⟩ := id S
        go_upto_region 8 with (at_builtin; refine wp_append_z rfl _ _ rfl B u7 L rfl OZ7.out qb pB nB cB (w3.heap.size + 2) rfl (by simp [go_sem]) (by simp [go_sem]) (by simp; omega) (by have := HL.out; omega) ?_; intro xv' w8 hown hgr)
        clear e0 e1 e2 e3 e4 e5 e6 e7 e8 e9 e10 e11 e12 e13 e14 e15 G
        replace NU := Lib.hid (nums_kp NU.out (Kp.of (grown_alloc _ (.cells #[.bool qb, .slice pB nB cB] 30) none)))
        replace KW := Lib.hid (KW.out.trans (Kp.of (grown_alloc _ (.cells #[.bool qb, .slice pB nB cB] 30) none)))
        replace DS' := Lib.hid (DS'.out.kp (Kp.of (grown_alloc _ (.cells #[.bool qb, .slice pB nB cB] 30) none)))
        replace DP' := Lib.hid (DP'.out.kp (Kp.of (grown_alloc _ (.cells #[.bool qb, .slice pB nB cB] 30) none)))
        replace Dy := Lib.hid (Dy.out.kp (Kp.of (grown_alloc _ (.cells #[.bool qb, .slice pB nB cB] 30) none)))
        replace VN := Lib.hid (VN.out.kp (Kp.of (grown_alloc _ (.cells #[.bool qb, .slice pB nB cB] 30) none)))
        replace S := S.step _ (grown_alloc _ (.cells #[.bool qb, .slice pB nB cB] 30) none)
        have K8 := OZ7.out.kp hgr
        have hlx := OZ7.out.lt
        replace S := Bx.far S hgr (fun gg e => by have := OZl _ e; exact ⟨(hlx gg e).1, this⟩) (by simp <;> omega) (by omega)
        replace NU := Lib.hid (nums_kp NU.out K8)
        replace KW := Lib.hid (KW.out.trans K8)
        have OZ8 := Lib.hid hown
        replace DS' := Lib.hid (DS'.out.kp K8)
        replace DP' := Lib.hid (DP'.out.kp K8)
        replace Dy := Lib.hid (Dy.out.kp K8)
        replace VN := Lib.hid (VN.out.kp K8)
        clear K8 hown hgr hlx OZ OZ7
        have NU9 := Lib.hid (nums_app (k := 5) HL.out NU.out (z := zy) ez.out VN.out)
        clear NU VN
        obtain ⟨zu2, hzu2⟩ : ∃ t, zu + zy = t := ⟨_, rfl⟩
        obtain ⟨zt2, hzt2⟩ : ∃ t, zt * zy = t := ⟨_, rfl⟩
        have Eu := Lib.hid hzu2
        have Et := Lib.hid hzt2
        have Z2 := Lib.hid (show zu2 = sumZ zs (i + 1) by rw [← hzu2, Z.out, ← ez.out]; rfl)
        have ZT2 := Lib.hid (show zt2 = prodZ zs (i + 1) by rw [← hzt2, ZT.out, ← ez.out]; rfl)
        clear hzu2 hzt2 Z ZT
        have k1' : 2 + 6 * i + 5 ≤ 1000000 := by omega
        have k2' : 2 + 5 * i + 5 ≤ 1000000 := by omega
        have sz8 := S.all.size
        have u_0 := S.lt (g := w3.heap.size + 1) (x := .slice py (dig 10000 (zy).natAbs).length cy) (y := .bool (decide (zy < 0))) (by simp)
        have u_1 := S.lt (g := w3.heap.size) (x := .bool qb) (y := .slice pB nB cB) (by simp)
        have u_2 := S.lt (g := w2.heap.size + 1) (x := .slice p2 (dig 10000 (zt).natAbs).length c2) (y := .bool (decide (zt < 0))) (by simp)
        have u_3 := S.lt (g := w2.heap.size) (x := .slice p (dig 10000 (zu).natAbs).length c) (y := .bool (decide (zu < 0))) (by simp)
        skip
        obtain ⟨e0, e1, e2, e3, e4, e5, e6, e7, e8, e9, e10, e11, e12, e13, e14, e15, G⟩ := id S
        have S0 : Kept w8 [(w3.heap.size + 1, 0, .slice py (dig 10000 (zy).natAbs).length cy), (w3.heap.size + 1, 1, .bool (decide (zy < 0))), (w3.heap.size, 0, .bool qb), (w3.heap.size, 1, .slice pB nB cB), (w2.heap.size + 1, 0, .slice p2 (dig 10000 (zt).natAbs).length c2), (w2.heap.size + 1, 1, .bool (decide (zt < 0))), (w2.heap.size, 0, .slice p (dig 10000 (zu).natAbs).length c), (w2.heap.size, 1, .bool (decide (zu < 0)))] [] w8 := ⟨e0, e1, e4, e5, e8, e9, e12, e13, grown_refl _ _⟩
        clear e0 e1 e2 e3 e4 e5 e6 e7 e8 e9 e10 e11 e12 e13 e14 e15 G
        refine wp_region_noPanic ?_
        refine AnyUntil.start (T := fun w' => w'.cell? ⟨w3.heap.size + 1, 0, none⟩ = some (.slice py (dig 10000 (zy).natAbs).length cy) ∧ w'.cell? ⟨w3.heap.size + 1, 1, none⟩ = some (.bool (decide (zy < 0))) ∧ w'.cell? ⟨w3.heap.size, 0, none⟩ = some (.bool qb) ∧ w'.cell? ⟨w3.heap.size, 1, none⟩ = some (.slice pB nB cB) ∧ w'.cell? ⟨w2.heap.size + 1, 0, none⟩ = some (.slice p2 (dig 10000 (zt).natAbs).length c2) ∧ w'.cell? ⟨w2.heap.size + 1, 1, none⟩ = some (.bool (decide (zt < 0))) ∧ w'.cell? ⟨w2.heap.size, 0, none⟩ = some (.slice p (dig 10000 (zu).natAbs).length c) ∧ w'.cell? ⟨w2.heap.size, 1, none⟩ = some (.bool (decide (zu < 0))) ∧ w8.grownBy w' none) 6 (by kernel_rfl) (by exact Kept.step (W := w8) [(w3.heap.size + 1, 0, .slice py (dig 10000 (zy).natAbs).length cy), (w3.heap.size + 1, 1, .bool (decide (zy < 0))), (w3.heap.size, 0, .bool qb), (w3.heap.size, 1, .slice pB nB cB), (w2.heap.size + 1, 0, .slice p2 (dig 10000 (zt).natAbs).length c2), (w2.heap.size + 1, 1, .bool (decide (zt < 0))), (w2.heap.size, 0, .slice p (dig 10000 (zu).natAbs).length c), (w2.heap.size, 1, .bool (decide (zu < 0)))] [] (grown_drew _ _) S0) (fun hHeld => ?_)
        change AnyUntil _ _ _ _ _ _ 8 #[false, false, false, false, false, false, false, false] _ _
        refine AnyUntil.take [2, 6] (i := 0) (oi := _) (v := ?vs8x0) rfl (by kernel_rfl) (by kernel_rfl) (by kernel_rfl) (by kernel_rfl) (fun _ _ _ h => h) (Or.inl ⟨by rfl, ?hys8x0⟩) (by assumption) ?rests8x0
        case hys8x0 => (intro w hSw; (try dsimp only at hSw); go_simp; try with_reducible rfl)
        try simp only [Act.put, List.getElem_toArray, List.getElem_cons_zero, List.getElem_cons_succ, List.setIfInBounds_toArray, List.set_cons_zero, List.set_cons_succ]
        refine AnyUntil.take [2, 6] (i := 1) (oi := _) (v := ?vs8x1) rfl (by kernel_rfl) (by kernel_rfl) (by kernel_rfl) (by kernel_rfl) (fun _ _ _ h => h) (Or.inl ⟨by rfl, ?hys8x1⟩) (by assumption) ?rests8x1
        case hys8x1 => (intro w hSw; (try dsimp only at hSw); go_simp; try with_reducible rfl)
        try simp only [Act.put, List.getElem_toArray, List.getElem_cons_zero, List.getElem_cons_succ, List.setIfInBounds_toArray, List.set_cons_zero, List.set_cons_succ]
        refine AnyUntil.take [5, 6] (i := 3) (oi := _) (v := ?vs8x2) rfl (by kernel_rfl) (by kernel_rfl) (by kernel_rfl) (by kernel_rfl) (fun _ _ _ h => h) (Or.inl ⟨by rfl, ?hys8x2⟩) (by assumption) ?rests8x2
        case hys8x2 => (intro w hSw; (try dsimp only at hSw); go_simp; try with_reducible rfl)
        try simp only [Act.put, List.getElem_toArray, List.getElem_cons_zero, List.getElem_cons_succ, List.setIfInBounds_toArray, List.set_cons_zero, List.set_cons_succ]
        refine AnyUntil.take [5, 6] (i := 4) (oi := _) (v := ?vs8x3) rfl (by kernel_rfl) (by kernel_rfl) (by kernel_rfl) (by kernel_rfl) (fun _ _ _ h => h) (Or.inl ⟨by rfl, ?hys8x3⟩) (by assumption) ?rests8x3
        case hys8x3 => (intro w hSw; (try dsimp only at hSw); go_simp; try with_reducible rfl)
        try simp only [Act.put, List.getElem_toArray, List.getElem_cons_zero, List.getElem_cons_succ, List.setIfInBounds_toArray, List.set_cons_zero, List.set_cons_succ]
        refine AnyUntil.ready (rs := [2]) (by kernel_rfl) (by simp) ?_
        refine Each.held (o := _) rfl (fun K hK => ?_) Each.nil
        go_simp
        (go_at_call 7; (with_reducible refine (Add_r (DS'.out.grown (by go_split_ands; assumption)) (Dy.out.grown (by go_split_ands; assumption)) k1').mono ?_); rintro e w' ⟨v, rfl, h, bd, hg⟩; rw [Eu.out] at h bd; obtain ⟨pa, ca, rfl, -⟩ := id h; have d1 := h.decI bd; clear h bd)
        go_wp2_with fail
        refine hK.out _ _ ?hSs8x4 (fun hHeld => ?_)
        case hSs8x4 => exact Kept.step (W := w8) [(w3.heap.size + 1, 0, .slice py (dig 10000 (zy).natAbs).length cy), (w3.heap.size + 1, 1, .bool (decide (zy < 0))), (w3.heap.size, 0, .bool qb), (w3.heap.size, 1, .slice pB nB cB), (w2.heap.size + 1, 0, .slice p2 (dig 10000 (zt).natAbs).length c2), (w2.heap.size + 1, 1, .bool (decide (zt < 0))), (w2.heap.size, 0, .slice p (dig 10000 (zu).natAbs).length c), (w2.heap.size, 1, .bool (decide (zu < 0)))] [] (by assumption) (by assumption)
        clear hK K
        try simp only [Act.put, List.getElem_toArray, List.getElem_cons_zero, List.getElem_cons_succ, List.setIfInBounds_toArray, List.set_cons_zero, List.set_cons_succ]
        refine AnyUntil.ready (rs := [5]) (by kernel_rfl) (by simp) ?_
        refine Each.held (o := _) rfl (fun K hK => ?_) Each.nil
        go_simp
        (go_at_call 8; (with_reducible refine (Mul_r (DP'.out.grown (by go_split_ands; assumption)) (Dy.out.grown (by go_split_ands; assumption)) k2').mono ?_); rintro e w' ⟨v, rfl, h, bd, hg⟩; rw [Et.out] at h bd; obtain ⟨pb, cb, rfl, -⟩ := id h; have d2 := h.decI bd; replace d1 := d1.grown hg; clear h bd)
        go_wp2_with fail
        refine hK.out _ _ ?hSs8x5 (fun hHeld => ?_)
        case hSs8x5 => exact Kept.step (W := w8) [(w3.heap.size + 1, 0, .slice py (dig 10000 (zy).natAbs).length cy), (w3.heap.size + 1, 1, .bool (decide (zy < 0))), (w3.heap.size, 0, .bool qb), (w3.heap.size, 1, .slice pB nB cB), (w2.heap.size + 1, 0, .slice p2 (dig 10000 (zt).natAbs).length c2), (w2.heap.size + 1, 1, .bool (decide (zt < 0))), (w2.heap.size, 0, .slice p (dig 10000 (zu).natAbs).length c), (w2.heap.size, 1, .bool (decide (zu < 0)))] [] (by assumption) (by assumption)
        clear hK K
        try simp only [Act.put, List.getElem_toArray, List.getElem_cons_zero, List.getElem_cons_succ, List.setIfInBounds_toArray, List.set_cons_zero, List.set_cons_succ]
        have g := hHeld.2.2.2.2.2.2.2.2
        replace DS' := Lib.hid (DS'.out.kp (Kp.of g))
        replace DP' := Lib.hid (DP'.out.kp (Kp.of g))
        replace Dy := Lib.hid (Dy.out.kp (Kp.of g))
        replace S := S.step _ g
        replace NU9 := Lib.hid (nums_kp NU9.out (Kp.of g))
        replace OZ8 := Lib.hid (OZ8.out.grown g (.inl rfl))
        replace KW := Lib.hid (KW.out.trans (Kp.of g))
        have D1 := Lib.hid d1
        have D2 := Lib.hid d2
        clear d1 d2
        clear g hHeld S0
        generalize w' = wr9 at *
        have szs := S.all.size
        have us_0 := S.lt (g := w3.heap.size + 1) (x := .slice py (dig 10000 (zy).natAbs).length cy) (y := .bool (decide (zy < 0))) (by simp)
        have us_1 := S.lt (g := w3.heap.size) (x := .bool qb) (y := .slice pB nB cB) (by simp)
        have us_2 := S.lt (g := w2.heap.size + 1) (x := .slice p2 (dig 10000 (zt).natAbs).length c2) (y := .bool (decide (zt < 0))) (by simp)
        have us_3 := S.lt (g := w2.heap.size) (x := .slice p (dig 10000 (zu).natAbs).length c) (y := .bool (decide (zu < 0))) (by simp)
        obtain ⟨e0, e1, e2, e3, e4, e5, e6, e7, e8, e9, e10, e11, e12, e13, e14, e15, G⟩ := id S
        refine AnyUntil.ready (rs := [6]) (by kernel_rfl) (by simp) ?_
        refine Each.free (o := _) (by kernel_rfl) rfl (fun K hK => ?_) Each.nil
        go_simp
        refine hK.out _ _ ?_
        clear hK K
        try simp only [Act.put, List.getElem_toArray, List.getElem_cons_zero, List.getElem_cons_succ, List.setIfInBounds_toArray, List.set_cons_zero, List.set_cons_succ]
        have K : Kp wr9 ((wr9.setCell ⟨w2.heap.size, 0, none⟩ (.slice pa (dig 10000 (zu2).natAbs).length ca)).setCell ⟨w2.heap.size, 1, none⟩ (.bool (decide (zu2 < 0)))) := S.kp (g := w2.heap.size) (x := .slice p (dig 10000 (zu).natAbs).length c) (y := .bool (decide (zu < 0))) (.slice pa (dig 10000 (zu2).natAbs).length ca) (.bool (decide (zu2 < 0))) (by simp) (by simp) (by simp)
        replace S : Bx w [(w2.heap.size, .slice pa (dig 10000 (zu2).natAbs).length ca, .bool (decide (zu2 < 0))), (w3.heap.size + 1, .slice py (dig 10000 (zy).natAbs).length cy, .bool (decide (zy < 0))), (w3.heap.size, .bool qb, .slice pB nB cB), (w2.heap.size + 1, .slice p2 (dig 10000 (zt).natAbs).length c2, .bool (decide (zt < 0)))] ((wr9.setCell ⟨w2.heap.size, 0, none⟩ (.slice pa (dig 10000 (zu2).natAbs).length ca)).setCell ⟨w2.heap.size, 1, none⟩ (.bool (decide (zu2 < 0)))) := S.put (g := w2.heap.size) (u := .slice pa (dig 10000 (zu2).natAbs).length ca) (v := .bool (decide (zu2 < 0))) (x := .slice p (dig 10000 (zu).natAbs).length c) (y := .bool (decide (zu < 0))) (bs' := [(w3.heap.size + 1, .slice py (dig 10000 (zy).natAbs).length cy, .bool (decide (zy < 0))), (w3.heap.size, .bool qb, .slice pB nB cB), (w2.heap.size + 1, .slice p2 (dig 10000 (zt).natAbs).length c2, .bool (decide (zt < 0)))]) (by simp) (by simp <;> omega) (by simp <;> omega) (by omega)
        replace DS' := Lib.hid (DS'.out.kp K)
        replace DP' := Lib.hid (DP'.out.kp K)
        replace Dy := Lib.hid (Dy.out.kp K)
        replace NU9 := Lib.hid (nums_kp NU9.out K)
        replace OZ8 := Lib.hid (show OwnZ ((wr9.setCell ⟨w2.heap.size, 0, none⟩ (.slice pa (dig 10000 (zu2).natAbs).length ca)).setCell ⟨w2.heap.size, 1, none⟩ (.bool (decide (zu2 < 0)))) _ _ _ from OZ8.out.grown (set2_grown wr9 (w2.heap.size) (.slice pa (dig 10000 (zu2).natAbs).length ca) (.bool (decide (zu2 < 0)))) (.inr (fun e => by have := (OZ8.out.lt _ e).1; omega)))
        replace KW := Lib.hid (KW.out.trans K)
        replace D1 := Lib.hid (D1.out.kp K)
        replace D2 := Lib.hid (D2.out.kp K)
        clear K e0 e1 e2 e3 e4 e5 e6 e7 e8 e9 e10 e11 e12 e13 e14 e15 G
        have szs8x6 : (((wr9.setCell ⟨w2.heap.size, 0, none⟩ (.slice pa (dig 10000 (zu2).natAbs).length ca)).setCell ⟨w2.heap.size, 1, none⟩ (.bool (decide (zu2 < 0))))).heap.size = wr9.heap.size := by simp
        generalize ((wr9.setCell ⟨w2.heap.size, 0, none⟩ (.slice pa (dig 10000 (zu2).natAbs).length ca)).setCell ⟨w2.heap.size, 1, none⟩ (.bool (decide (zu2 < 0)))) = W10 at *
        obtain ⟨e0, e1, e2, e3, e4, e5, e6, e7, e8, e9, e10, e11, e12, e13, e14, e15, G⟩ := id S
        refine AnyUntil.ready (rs := [7]) (by kernel_rfl) (by simp) ?_
        refine Each.free (o := _) (by kernel_rfl) rfl (fun K hK => ?_) Each.nil
        go_simp
        refine hK.out _ _ ?_
        clear hK K
        try simp only [Act.put, List.getElem_toArray, List.getElem_cons_zero, List.getElem_cons_succ, List.setIfInBounds_toArray, List.set_cons_zero, List.set_cons_succ]
        have K : Kp W10 ((W10.setCell ⟨w2.heap.size + 1, 0, none⟩ (.slice pb (dig 10000 (zt2).natAbs).length cb)).setCell ⟨w2.heap.size + 1, 1, none⟩ (.bool (decide (zt2 < 0)))) := S.kp (g := w2.heap.size + 1) (x := .slice p2 (dig 10000 (zt).natAbs).length c2) (y := .bool (decide (zt < 0))) (.slice pb (dig 10000 (zt2).natAbs).length cb) (.bool (decide (zt2 < 0))) (by simp) (by simp) (by simp)
        replace S : Bx w [(w2.heap.size + 1, .slice pb (dig 10000 (zt2).natAbs).length cb, .bool (decide (zt2 < 0))), (w2.heap.size, .slice pa (dig 10000 (zu2).natAbs).length ca, .bool (decide (zu2 < 0))), (w3.heap.size + 1, .slice py (dig 10000 (zy).natAbs).length cy, .bool (decide (zy < 0))), (w3.heap.size, .bool qb, .slice pB nB cB)] ((W10.setCell ⟨w2.heap.size + 1, 0, none⟩ (.slice pb (dig 10000 (zt2).natAbs).length cb)).setCell ⟨w2.heap.size + 1, 1, none⟩ (.bool (decide (zt2 < 0)))) := S.put (g := w2.heap.size + 1) (u := .slice pb (dig 10000 (zt2).natAbs).length cb) (v := .bool (decide (zt2 < 0))) (x := .slice p2 (dig 10000 (zt).natAbs).length c2) (y := .bool (decide (zt < 0))) (bs' := [(w2.heap.size, .slice pa (dig 10000 (zu2).natAbs).length ca, .bool (decide (zu2 < 0))), (w3.heap.size + 1, .slice py (dig 10000 (zy).natAbs).length cy, .bool (decide (zy < 0))), (w3.heap.size, .bool qb, .slice pB nB cB)]) (by simp) (by simp <;> omega) (by simp <;> omega) (by omega)
        replace DS' := Lib.hid (DS'.out.kp K)
        replace DP' := Lib.hid (DP'.out.kp K)
        replace Dy := Lib.hid (Dy.out.kp K)
        replace NU9 := Lib.hid (nums_kp NU9.out K)
        replace OZ8 := Lib.hid (show OwnZ ((W10.setCell ⟨w2.heap.size + 1, 0, none⟩ (.slice pb (dig 10000 (zt2).natAbs).length cb)).setCell ⟨w2.heap.size + 1, 1, none⟩ (.bool (decide (zt2 < 0)))) _ _ _ from OZ8.out.grown (set2_grown W10 (w2.heap.size + 1) (.slice pb (dig 10000 (zt2).natAbs).length cb) (.bool (decide (zt2 < 0)))) (.inr (fun e => by have := (OZ8.out.lt _ e).1; omega)))
        replace KW := Lib.hid (KW.out.trans K)
        replace D1 := Lib.hid (D1.out.kp K)
        replace D2 := Lib.hid (D2.out.kp K)
        clear K e0 e1 e2 e3 e4 e5 e6 e7 e8 e9 e10 e11 e12 e13 e14 e15 G
        have szs10x7 : (((W10.setCell ⟨w2.heap.size + 1, 0, none⟩ (.slice pb (dig 10000 (zt2).natAbs).length cb)).setCell ⟨w2.heap.size + 1, 1, none⟩ (.bool (decide (zt2 < 0))))).heap.size = W10.heap.size := by simp
        generalize ((W10.setCell ⟨w2.heap.size + 1, 0, none⟩ (.slice pb (dig 10000 (zt2).natAbs).length cb)).setCell ⟨w2.heap.size + 1, 1, none⟩ (.bool (decide (zt2 < 0)))) = W11 at *
        refine AnyUntil.end (by kernel_rfl) ?_ _
        refine NoPanic.normal ?_
        have S9 := Lib.hid (show Bx w [(w2.heap.size + 1, .slice pb (dig 10000 (zt2).natAbs).length cb, .bool (decide (zt2 < 0))), (w2.heap.size, .slice pa (dig 10000 (zu2).natAbs).length ca, .bool (decide (zu2 < 0)))] W11 from S.sub (fun c hc => by simp only [List.mem_cons, List.mem_nil_iff, or_false] at hc ⊢; rcases hc with rfl | rfl <;> simp))
        replace D1 := Lib.hid (show DecI _ _ zu2 (2 + 6 * (i + 1)) from D1.out.more (by omega))
        replace D2 := Lib.hid (show DecI _ _ zt2 (2 + 5 * (i + 1)) from D2.out.more (by omega))
        clear S Dy DS' DP'
        go_wp2_with fail
        go_roundw
        case rel => exact ⟨i + 1, _, zu2, pa, ca, zt2, pb, cb, by omega, by omega, by go_num, by simp [HL.out], Z2.out, ZT2.out, OZ8.out, NU9.out, S9.out, D1.out, D2.out, KW.out⟩
        case measure => simp [intOf]; omega
      · rcases Int.lt_or_le m (-4611686018427387903) with hm | hm
        · have k1 : (i : Int) < (n : Int) := by omega
          have k2' : ¬ (i : Int) < 8 := by omega
          have RZ := Lib.hid (OZ.out.rowZ NU.out)
          clear OZ NU KW
          have kS : 5 + L.length ≤ 100000 := by have := HL.out; omega
          have kP : 2 + 5 * L.length + 5 ≤ 500000 := by have := HL.out; omega
          have kA : 2 + 6 * i ≤ 1000000 := by omega
          have kB : 2 + 5 * i ≤ 1000000 := by omega
          have k2 : 2 ≤ 1000000 := by omega
          obtain ⟨e0, e1, e2, e3, e4, e5, e6, e7, G⟩ := id S
          go_wp2_with fail
          clear e0 e1 e2 e3 e4 e5 e6 e7 G
          with_reducible refine (Of_i m _ m1 m2).mono ?_
          rintro e w21 ⟨v, rfl, h, bd, g⟩
          replace RZ := Lib.hid (RZ.out.grown g)
          replace DS' := Lib.hid (DS'.out.kp (Kp.of g))
          replace DP' := Lib.hid (DP'.out.kp (Kp.of g))
          replace S := S.step _ g
          clear g
          obtain ⟨pm, cm, rfl, -⟩ := id h
          have VM := Lib.hid (h.intV bd)
          clear h bd
          have hz0 := abs_low hm
          obtain ⟨e0, e1, e2, e3, e4, e5, e6, e7, G⟩ := id S
          go_wp2_with fail
          clear e0 e1 e2 e3 e4 e5 e6 e7 G
          with_reducible refine (Small_no VM.out k2 hz0).mono ?_
          rintro e w22 ⟨rfl, g⟩
          replace RZ := Lib.hid (RZ.out.grown g)
          replace DS' := Lib.hid (DS'.out.kp (Kp.of g))
          replace DP' := Lib.hid (DP'.out.kp (Kp.of g))
          replace VM := Lib.hid (VM.out.kp (Kp.of g))
          replace S := S.step _ g
          clear g
          have t1 : ¬ (-4611686018427387904 : Int) < m := by omega
          obtain ⟨e0, e1, e2, e3, e4, e5, e6, e7, G⟩ := id S
          go_wp2_with fail
          clear e0 e1 e2 e3 e4 e5 e6 e7 G
          obtain ⟨e0, e1, e2, e3, e4, e5, e6, e7, G⟩ := id S
          have S0 : Kept w22 [(w2.heap.size + 1, 0, .slice p2 (dig 10000 (zt).natAbs).length c2), (w2.heap.size + 1, 1, .bool (decide (zt < 0))), (w2.heap.size, 0, .slice p (dig 10000 (zu).natAbs).length c), (w2.heap.size, 1, .bool (decide (zu < 0)))] [] w22 := ⟨e0, e1, e4, e5, grown_refl _ _⟩
          clear e0 e1 e2 e3 e4 e5 e6 e7 G
          go_region_held3 (fun w' => w'.cell? ⟨w2.heap.size + 1, 0, none⟩ = some (.slice p2 (dig 10000 (zt).natAbs).length c2) ∧ w'.cell? ⟨w2.heap.size + 1, 1, none⟩ = some (.bool (decide (zt < 0))) ∧ w'.cell? ⟨w2.heap.size, 0, none⟩ = some (.slice p (dig 10000 (zu).natAbs).length c) ∧ w'.cell? ⟨w2.heap.size, 1, none⟩ = some (.bool (decide (zu < 0))) ∧ w22.grownBy w' none) (first | exact Kept.step (W := w22) [(w2.heap.size + 1, 0, .slice p2 (dig 10000 (zt).natAbs).length c2), (w2.heap.size + 1, 1, .bool (decide (zt < 0))), (w2.heap.size, 0, .slice p (dig 10000 (zu).natAbs).length c), (w2.heap.size, 1, .bool (decide (zu < 0)))] [] (by assumption) (by assumption) | exact Kept.step (W := w22) [(w2.heap.size + 1, 0, .slice p2 (dig 10000 (zt).natAbs).length c2), (w2.heap.size + 1, 1, .bool (decide (zt < 0))), (w2.heap.size, 0, .slice p (dig 10000 (zu).natAbs).length c), (w2.heap.size, 1, .bool (decide (zu < 0)))] [] (grown_alloc _ _ _) (by assumption) | exact Kept.step (W := w22) [(w2.heap.size + 1, 0, .slice p2 (dig 10000 (zt).natAbs).length c2), (w2.heap.size + 1, 1, .bool (decide (zt < 0))), (w2.heap.size, 0, .slice p (dig 10000 (zu).natAbs).length c), (w2.heap.size, 1, .bool (decide (zu < 0)))] [] (grown_drew _ _) S0)
            (first | (go_at_call 14; (with_reducible refine (wakes_true _).mono ?_); rintro e w' ⟨rfl, hg⟩) | (go_at_call 11; (with_reducible refine (Is_l d4 k2 n4).mono ?_); rintro e w' ⟨rfl, hg⟩; clear d4 n4) | (go_at_call 10; (with_reducible refine (Of_i m _ m1 m2).mono ?_); rintro e w' ⟨v, rfl, h, bd, hg⟩; have n4 := h.nor; replace d4 := d4.grown hg; clear h bd) | (go_at_call 5; (with_reducible refine (Of_r m _ m1 m2).mono ?_); rintro e w' ⟨v, rfl, h, bd, hg⟩; have d4 := h.decI bd; clear h bd) | (go_at_call 11; (with_reducible refine (Is_l (DP'.out.grown (by go_split_ands; assumption)) kB n3).mono ?_); rintro e w' ⟨rfl, hg⟩; clear n3) | (go_at_call 13; (with_reducible refine (Product_i (RZ.out.grown (by go_split_ands; assumption)) kP).mono ?_); rintro e w' ⟨v, rfl, h, bd, hg⟩; rw [HL.out, ← ZT.out] at h; have n3 := h.nor; clear h bd) | (go_at_call 11; (with_reducible refine (Is_l (DS'.out.grown (by go_split_ands; assumption)) kA n2).mono ?_); rintro e w' ⟨rfl, hg⟩; clear n2) | (go_at_call 12; (with_reducible refine (Sum_i (RZ.out.grown (by go_split_ands; assumption)) kS).mono ?_); rintro e w' ⟨v, rfl, h, bd, hg⟩; rw [HL.out, ← Z.out] at h; have n2 := h.nor; clear h bd))
          all_goals (rename_i hend; have g := hend.2.2.2.2; replace S := S.step _ g; clear g hend S0; go_wp2_with fail; go_ret; exact ⟨rfl, S.all⟩)
        rcases Int.lt_or_le m 4611686018427387904 with hn | hn
        · have k1 : (i : Int) < (n : Int) := by omega
          have k2' : ¬ (i : Int) < 8 := by omega
          have RZ := Lib.hid (OZ.out.rowZ NU.out)
          clear OZ NU KW
          have kS : 5 + L.length ≤ 100000 := by have := HL.out; omega
          have kP : 2 + 5 * L.length + 5 ≤ 500000 := by have := HL.out; omega
          have kA : 2 + 6 * i ≤ 1000000 := by omega
          have kB : 2 + 5 * i ≤ 1000000 := by omega
          have k2 : 2 ≤ 1000000 := by omega
          obtain ⟨e0, e1, e2, e3, e4, e5, e6, e7, G⟩ := id S
          go_wp2_with fail
          clear e0 e1 e2 e3 e4 e5 e6 e7 G
          with_reducible refine (Of_i m _ m1 m2).mono ?_
          rintro e w21 ⟨v, rfl, h, bd, g⟩
          replace RZ := Lib.hid (RZ.out.grown g)
          replace DS' := Lib.hid (DS'.out.kp (Kp.of g))
          replace DP' := Lib.hid (DP'.out.kp (Kp.of g))
          replace S := S.step _ g
          clear g
          obtain ⟨pm, cm, rfl, -⟩ := id h
          have VM := Lib.hid (h.intV bd)
          clear h bd
          have hz0 := abs_in hm hn
          obtain ⟨e0, e1, e2, e3, e4, e5, e6, e7, G⟩ := id S
          go_wp2_with fail
          clear e0 e1 e2 e3 e4 e5 e6 e7 G
          with_reducible refine (Small_yes VM.out k2 hz0).mono ?_
          rintro e w22 ⟨rfl, g⟩
          replace RZ := Lib.hid (RZ.out.grown g)
          replace DS' := Lib.hid (DS'.out.kp (Kp.of g))
          replace DP' := Lib.hid (DP'.out.kp (Kp.of g))
          replace VM := Lib.hid (VM.out.kp (Kp.of g))
          replace S := S.step _ g
          clear g
          have t1 : (-4611686018427387904 : Int) < m := by omega
          have t2 : m < 4611686018427387904 := by omega
          obtain ⟨e0, e1, e2, e3, e4, e5, e6, e7, G⟩ := id S
          go_wp2_with fail
          clear e0 e1 e2 e3 e4 e5 e6 e7 G
          obtain ⟨e0, e1, e2, e3, e4, e5, e6, e7, G⟩ := id S
          have S0 : Kept w22 [(w2.heap.size + 1, 0, .slice p2 (dig 10000 (zt).natAbs).length c2), (w2.heap.size + 1, 1, .bool (decide (zt < 0))), (w2.heap.size, 0, .slice p (dig 10000 (zu).natAbs).length c), (w2.heap.size, 1, .bool (decide (zu < 0)))] [] w22 := ⟨e0, e1, e4, e5, grown_refl _ _⟩
          clear e0 e1 e2 e3 e4 e5 e6 e7 G
          go_region_held3 (fun w' => w'.cell? ⟨w2.heap.size + 1, 0, none⟩ = some (.slice p2 (dig 10000 (zt).natAbs).length c2) ∧ w'.cell? ⟨w2.heap.size + 1, 1, none⟩ = some (.bool (decide (zt < 0))) ∧ w'.cell? ⟨w2.heap.size, 0, none⟩ = some (.slice p (dig 10000 (zu).natAbs).length c) ∧ w'.cell? ⟨w2.heap.size, 1, none⟩ = some (.bool (decide (zu < 0))) ∧ w22.grownBy w' none) (first | exact Kept.step (W := w22) [(w2.heap.size + 1, 0, .slice p2 (dig 10000 (zt).natAbs).length c2), (w2.heap.size + 1, 1, .bool (decide (zt < 0))), (w2.heap.size, 0, .slice p (dig 10000 (zu).natAbs).length c), (w2.heap.size, 1, .bool (decide (zu < 0)))] [] (by assumption) (by assumption) | exact Kept.step (W := w22) [(w2.heap.size + 1, 0, .slice p2 (dig 10000 (zt).natAbs).length c2), (w2.heap.size + 1, 1, .bool (decide (zt < 0))), (w2.heap.size, 0, .slice p (dig 10000 (zu).natAbs).length c), (w2.heap.size, 1, .bool (decide (zu < 0)))] [] (grown_alloc _ _ _) (by assumption) | exact Kept.step (W := w22) [(w2.heap.size + 1, 0, .slice p2 (dig 10000 (zt).natAbs).length c2), (w2.heap.size + 1, 1, .bool (decide (zt < 0))), (w2.heap.size, 0, .slice p (dig 10000 (zu).natAbs).length c), (w2.heap.size, 1, .bool (decide (zu < 0)))] [] (grown_drew _ _) S0)
            (first | (go_at_call 14; (with_reducible refine (wakes_true _).mono ?_); rintro e w' ⟨rfl, hg⟩) | (go_at_call 11; (with_reducible refine (Is_l d4 k2 n4).mono ?_); rintro e w' ⟨rfl, hg⟩; clear d4 n4) | (go_at_call 10; (with_reducible refine (Of_i m _ m1 m2).mono ?_); rintro e w' ⟨v, rfl, h, bd, hg⟩; have n4 := h.nor; replace d4 := d4.grown hg; clear h bd) | (go_at_call 5; (with_reducible refine (Of_r m _ m1 m2).mono ?_); rintro e w' ⟨v, rfl, h, bd, hg⟩; have d4 := h.decI bd; clear h bd) | (go_at_call 11; (with_reducible refine (Is_l (DP'.out.grown (by go_split_ands; assumption)) kB n3).mono ?_); rintro e w' ⟨rfl, hg⟩; clear n3) | (go_at_call 13; (with_reducible refine (Product_i (RZ.out.grown (by go_split_ands; assumption)) kP).mono ?_); rintro e w' ⟨v, rfl, h, bd, hg⟩; rw [HL.out, ← ZT.out] at h; have n3 := h.nor; clear h bd) | (go_at_call 11; (with_reducible refine (Is_l (DS'.out.grown (by go_split_ands; assumption)) kA n2).mono ?_); rintro e w' ⟨rfl, hg⟩; clear n2) | (go_at_call 12; (with_reducible refine (Sum_i (RZ.out.grown (by go_split_ands; assumption)) kS).mono ?_); rintro e w' ⟨v, rfl, h, bd, hg⟩; rw [HL.out, ← Z.out] at h; have n2 := h.nor; clear h bd))
          all_goals (rename_i hend; have g := hend.2.2.2.2; replace S := S.step _ g; clear g hend S0; go_wp2_with fail; go_ret; exact ⟨rfl, S.all⟩)
        · have k1 : (i : Int) < (n : Int) := by omega
          have k2' : ¬ (i : Int) < 8 := by omega
          have RZ := Lib.hid (OZ.out.rowZ NU.out)
          clear OZ NU KW
          have kS : 5 + L.length ≤ 100000 := by have := HL.out; omega
          have kP : 2 + 5 * L.length + 5 ≤ 500000 := by have := HL.out; omega
          have kA : 2 + 6 * i ≤ 1000000 := by omega
          have kB : 2 + 5 * i ≤ 1000000 := by omega
          have k2 : 2 ≤ 1000000 := by omega
          obtain ⟨e0, e1, e2, e3, e4, e5, e6, e7, G⟩ := id S
          go_wp2_with fail
          clear e0 e1 e2 e3 e4 e5 e6 e7 G
          with_reducible refine (Of_i m _ m1 m2).mono ?_
          rintro e w21 ⟨v, rfl, h, bd, g⟩
          replace RZ := Lib.hid (RZ.out.grown g)
          replace DS' := Lib.hid (DS'.out.kp (Kp.of g))
          replace DP' := Lib.hid (DP'.out.kp (Kp.of g))
          replace S := S.step _ g
          clear g
          obtain ⟨pm, cm, rfl, -⟩ := id h
          have VM := Lib.hid (h.intV bd)
          clear h bd
          have hz0 := abs_high hn
          obtain ⟨e0, e1, e2, e3, e4, e5, e6, e7, G⟩ := id S
          go_wp2_with fail
          clear e0 e1 e2 e3 e4 e5 e6 e7 G
          with_reducible refine (Small_no VM.out k2 hz0).mono ?_
          rintro e w22 ⟨rfl, g⟩
          replace RZ := Lib.hid (RZ.out.grown g)
          replace DS' := Lib.hid (DS'.out.kp (Kp.of g))
          replace DP' := Lib.hid (DP'.out.kp (Kp.of g))
          replace VM := Lib.hid (VM.out.kp (Kp.of g))
          replace S := S.step _ g
          clear g
          have t1 : (-4611686018427387904 : Int) < m := by omega
          have t2 : ¬ m < 4611686018427387904 := by omega
          obtain ⟨e0, e1, e2, e3, e4, e5, e6, e7, G⟩ := id S
          go_wp2_with fail
          clear e0 e1 e2 e3 e4 e5 e6 e7 G
          obtain ⟨e0, e1, e2, e3, e4, e5, e6, e7, G⟩ := id S
          have S0 : Kept w22 [(w2.heap.size + 1, 0, .slice p2 (dig 10000 (zt).natAbs).length c2), (w2.heap.size + 1, 1, .bool (decide (zt < 0))), (w2.heap.size, 0, .slice p (dig 10000 (zu).natAbs).length c), (w2.heap.size, 1, .bool (decide (zu < 0)))] [] w22 := ⟨e0, e1, e4, e5, grown_refl _ _⟩
          clear e0 e1 e2 e3 e4 e5 e6 e7 G
          go_region_held3 (fun w' => w'.cell? ⟨w2.heap.size + 1, 0, none⟩ = some (.slice p2 (dig 10000 (zt).natAbs).length c2) ∧ w'.cell? ⟨w2.heap.size + 1, 1, none⟩ = some (.bool (decide (zt < 0))) ∧ w'.cell? ⟨w2.heap.size, 0, none⟩ = some (.slice p (dig 10000 (zu).natAbs).length c) ∧ w'.cell? ⟨w2.heap.size, 1, none⟩ = some (.bool (decide (zu < 0))) ∧ w22.grownBy w' none) (first | exact Kept.step (W := w22) [(w2.heap.size + 1, 0, .slice p2 (dig 10000 (zt).natAbs).length c2), (w2.heap.size + 1, 1, .bool (decide (zt < 0))), (w2.heap.size, 0, .slice p (dig 10000 (zu).natAbs).length c), (w2.heap.size, 1, .bool (decide (zu < 0)))] [] (by assumption) (by assumption) | exact Kept.step (W := w22) [(w2.heap.size + 1, 0, .slice p2 (dig 10000 (zt).natAbs).length c2), (w2.heap.size + 1, 1, .bool (decide (zt < 0))), (w2.heap.size, 0, .slice p (dig 10000 (zu).natAbs).length c), (w2.heap.size, 1, .bool (decide (zu < 0)))] [] (grown_alloc _ _ _) (by assumption) | exact Kept.step (W := w22) [(w2.heap.size + 1, 0, .slice p2 (dig 10000 (zt).natAbs).length c2), (w2.heap.size + 1, 1, .bool (decide (zt < 0))), (w2.heap.size, 0, .slice p (dig 10000 (zu).natAbs).length c), (w2.heap.size, 1, .bool (decide (zu < 0)))] [] (grown_drew _ _) S0)
            (first | (go_at_call 14; (with_reducible refine (wakes_true _).mono ?_); rintro e w' ⟨rfl, hg⟩) | (go_at_call 11; (with_reducible refine (Is_l d4 k2 n4).mono ?_); rintro e w' ⟨rfl, hg⟩; clear d4 n4) | (go_at_call 10; (with_reducible refine (Of_i m _ m1 m2).mono ?_); rintro e w' ⟨v, rfl, h, bd, hg⟩; have n4 := h.nor; replace d4 := d4.grown hg; clear h bd) | (go_at_call 5; (with_reducible refine (Of_r m _ m1 m2).mono ?_); rintro e w' ⟨v, rfl, h, bd, hg⟩; have d4 := h.decI bd; clear h bd) | (go_at_call 11; (with_reducible refine (Is_l (DP'.out.grown (by go_split_ands; assumption)) kB n3).mono ?_); rintro e w' ⟨rfl, hg⟩; clear n3) | (go_at_call 13; (with_reducible refine (Product_i (RZ.out.grown (by go_split_ands; assumption)) kP).mono ?_); rintro e w' ⟨v, rfl, h, bd, hg⟩; rw [HL.out, ← ZT.out] at h; have n3 := h.nor; clear h bd) | (go_at_call 11; (with_reducible refine (Is_l (DS'.out.grown (by go_split_ands; assumption)) kA n2).mono ?_); rintro e w' ⟨rfl, hg⟩; clear n2) | (go_at_call 12; (with_reducible refine (Sum_i (RZ.out.grown (by go_split_ands; assumption)) kS).mono ?_); rintro e w' ⟨v, rfl, h, bd, hg⟩; rw [HL.out, ← Z.out] at h; have n2 := h.nor; clear h bd))
          all_goals (rename_i hend; have g := hend.2.2.2.2; replace S := S.step _ g; clear g hend S0; go_wp2_with fail; go_ret; exact ⟨rfl, S.all⟩)
    · rcases Int.lt_or_le m (-4611686018427387903) with hm | hm
      · have k1 : ¬ (i : Int) < (n : Int) := by omega
        have RZ := Lib.hid (OZ.out.rowZ NU.out)
        clear OZ NU KW
        have kS : 5 + L.length ≤ 100000 := by have := HL.out; omega
        have kP : 2 + 5 * L.length + 5 ≤ 500000 := by have := HL.out; omega
        have kA : 2 + 6 * i ≤ 1000000 := by omega
        have kB : 2 + 5 * i ≤ 1000000 := by omega
        have k2 : 2 ≤ 1000000 := by omega
        obtain ⟨e0, e1, e2, e3, e4, e5, e6, e7, G⟩ := id S
        go_wp2_with fail
        clear e0 e1 e2 e3 e4 e5 e6 e7 G
        with_reducible refine (Of_i m _ m1 m2).mono ?_
        rintro e w21 ⟨v, rfl, h, bd, g⟩
        replace RZ := Lib.hid (RZ.out.grown g)
        replace DS' := Lib.hid (DS'.out.kp (Kp.of g))
        replace DP' := Lib.hid (DP'.out.kp (Kp.of g))
        replace S := S.step _ g
        clear g
        obtain ⟨pm, cm, rfl, -⟩ := id h
        have VM := Lib.hid (h.intV bd)
        clear h bd
        have hz0 := abs_low hm
        obtain ⟨e0, e1, e2, e3, e4, e5, e6, e7, G⟩ := id S
        go_wp2_with fail
        clear e0 e1 e2 e3 e4 e5 e6 e7 G
        with_reducible refine (Small_no VM.out k2 hz0).mono ?_
        rintro e w22 ⟨rfl, g⟩
        replace RZ := Lib.hid (RZ.out.grown g)
        replace DS' := Lib.hid (DS'.out.kp (Kp.of g))
        replace DP' := Lib.hid (DP'.out.kp (Kp.of g))
        replace VM := Lib.hid (VM.out.kp (Kp.of g))
        replace S := S.step _ g
        clear g
        have t1 : ¬ (-4611686018427387904 : Int) < m := by omega
        obtain ⟨e0, e1, e2, e3, e4, e5, e6, e7, G⟩ := id S
        go_wp2_with fail
        clear e0 e1 e2 e3 e4 e5 e6 e7 G
        obtain ⟨e0, e1, e2, e3, e4, e5, e6, e7, G⟩ := id S
        have S0 : Kept w22 [(w2.heap.size + 1, 0, .slice p2 (dig 10000 (zt).natAbs).length c2), (w2.heap.size + 1, 1, .bool (decide (zt < 0))), (w2.heap.size, 0, .slice p (dig 10000 (zu).natAbs).length c), (w2.heap.size, 1, .bool (decide (zu < 0)))] [] w22 := ⟨e0, e1, e4, e5, grown_refl _ _⟩
        clear e0 e1 e2 e3 e4 e5 e6 e7 G
        go_region_held3 (fun w' => w'.cell? ⟨w2.heap.size + 1, 0, none⟩ = some (.slice p2 (dig 10000 (zt).natAbs).length c2) ∧ w'.cell? ⟨w2.heap.size + 1, 1, none⟩ = some (.bool (decide (zt < 0))) ∧ w'.cell? ⟨w2.heap.size, 0, none⟩ = some (.slice p (dig 10000 (zu).natAbs).length c) ∧ w'.cell? ⟨w2.heap.size, 1, none⟩ = some (.bool (decide (zu < 0))) ∧ w22.grownBy w' none) (first | exact Kept.step (W := w22) [(w2.heap.size + 1, 0, .slice p2 (dig 10000 (zt).natAbs).length c2), (w2.heap.size + 1, 1, .bool (decide (zt < 0))), (w2.heap.size, 0, .slice p (dig 10000 (zu).natAbs).length c), (w2.heap.size, 1, .bool (decide (zu < 0)))] [] (by assumption) (by assumption) | exact Kept.step (W := w22) [(w2.heap.size + 1, 0, .slice p2 (dig 10000 (zt).natAbs).length c2), (w2.heap.size + 1, 1, .bool (decide (zt < 0))), (w2.heap.size, 0, .slice p (dig 10000 (zu).natAbs).length c), (w2.heap.size, 1, .bool (decide (zu < 0)))] [] (grown_alloc _ _ _) (by assumption) | exact Kept.step (W := w22) [(w2.heap.size + 1, 0, .slice p2 (dig 10000 (zt).natAbs).length c2), (w2.heap.size + 1, 1, .bool (decide (zt < 0))), (w2.heap.size, 0, .slice p (dig 10000 (zu).natAbs).length c), (w2.heap.size, 1, .bool (decide (zu < 0)))] [] (grown_drew _ _) S0)
          (first | (go_at_call 14; (with_reducible refine (wakes_true _).mono ?_); rintro e w' ⟨rfl, hg⟩) | (go_at_call 11; (with_reducible refine (Is_l d4 k2 n4).mono ?_); rintro e w' ⟨rfl, hg⟩; clear d4 n4) | (go_at_call 10; (with_reducible refine (Of_i m _ m1 m2).mono ?_); rintro e w' ⟨v, rfl, h, bd, hg⟩; have n4 := h.nor; replace d4 := d4.grown hg; clear h bd) | (go_at_call 5; (with_reducible refine (Of_r m _ m1 m2).mono ?_); rintro e w' ⟨v, rfl, h, bd, hg⟩; have d4 := h.decI bd; clear h bd) | (go_at_call 11; (with_reducible refine (Is_l (DP'.out.grown (by go_split_ands; assumption)) kB n3).mono ?_); rintro e w' ⟨rfl, hg⟩; clear n3) | (go_at_call 13; (with_reducible refine (Product_i (RZ.out.grown (by go_split_ands; assumption)) kP).mono ?_); rintro e w' ⟨v, rfl, h, bd, hg⟩; rw [HL.out, ← ZT.out] at h; have n3 := h.nor; clear h bd) | (go_at_call 11; (with_reducible refine (Is_l (DS'.out.grown (by go_split_ands; assumption)) kA n2).mono ?_); rintro e w' ⟨rfl, hg⟩; clear n2) | (go_at_call 12; (with_reducible refine (Sum_i (RZ.out.grown (by go_split_ands; assumption)) kS).mono ?_); rintro e w' ⟨v, rfl, h, bd, hg⟩; rw [HL.out, ← Z.out] at h; have n2 := h.nor; clear h bd))
        all_goals (rename_i hend; have g := hend.2.2.2.2; replace S := S.step _ g; clear g hend S0; go_wp2_with fail; go_ret; exact ⟨rfl, S.all⟩)
      rcases Int.lt_or_le m 4611686018427387904 with hn | hn
      · have k1 : ¬ (i : Int) < (n : Int) := by omega
        have RZ := Lib.hid (OZ.out.rowZ NU.out)
        clear OZ NU KW
        have kS : 5 + L.length ≤ 100000 := by have := HL.out; omega
        have kP : 2 + 5 * L.length + 5 ≤ 500000 := by have := HL.out; omega
        have kA : 2 + 6 * i ≤ 1000000 := by omega
        have kB : 2 + 5 * i ≤ 1000000 := by omega
        have k2 : 2 ≤ 1000000 := by omega
        obtain ⟨e0, e1, e2, e3, e4, e5, e6, e7, G⟩ := id S
        go_wp2_with fail
        clear e0 e1 e2 e3 e4 e5 e6 e7 G
        with_reducible refine (Of_i m _ m1 m2).mono ?_
        rintro e w21 ⟨v, rfl, h, bd, g⟩
        replace RZ := Lib.hid (RZ.out.grown g)
        replace DS' := Lib.hid (DS'.out.kp (Kp.of g))
        replace DP' := Lib.hid (DP'.out.kp (Kp.of g))
        replace S := S.step _ g
        clear g
        obtain ⟨pm, cm, rfl, -⟩ := id h
        have VM := Lib.hid (h.intV bd)
        clear h bd
        have hz0 := abs_in hm hn
        obtain ⟨e0, e1, e2, e3, e4, e5, e6, e7, G⟩ := id S
        go_wp2_with fail
        clear e0 e1 e2 e3 e4 e5 e6 e7 G
        with_reducible refine (Small_yes VM.out k2 hz0).mono ?_
        rintro e w22 ⟨rfl, g⟩
        replace RZ := Lib.hid (RZ.out.grown g)
        replace DS' := Lib.hid (DS'.out.kp (Kp.of g))
        replace DP' := Lib.hid (DP'.out.kp (Kp.of g))
        replace VM := Lib.hid (VM.out.kp (Kp.of g))
        replace S := S.step _ g
        clear g
        have t1 : (-4611686018427387904 : Int) < m := by omega
        have t2 : m < 4611686018427387904 := by omega
        obtain ⟨e0, e1, e2, e3, e4, e5, e6, e7, G⟩ := id S
        go_wp2_with fail
        clear e0 e1 e2 e3 e4 e5 e6 e7 G
        obtain ⟨e0, e1, e2, e3, e4, e5, e6, e7, G⟩ := id S
        have S0 : Kept w22 [(w2.heap.size + 1, 0, .slice p2 (dig 10000 (zt).natAbs).length c2), (w2.heap.size + 1, 1, .bool (decide (zt < 0))), (w2.heap.size, 0, .slice p (dig 10000 (zu).natAbs).length c), (w2.heap.size, 1, .bool (decide (zu < 0)))] [] w22 := ⟨e0, e1, e4, e5, grown_refl _ _⟩
        clear e0 e1 e2 e3 e4 e5 e6 e7 G
        go_region_held3 (fun w' => w'.cell? ⟨w2.heap.size + 1, 0, none⟩ = some (.slice p2 (dig 10000 (zt).natAbs).length c2) ∧ w'.cell? ⟨w2.heap.size + 1, 1, none⟩ = some (.bool (decide (zt < 0))) ∧ w'.cell? ⟨w2.heap.size, 0, none⟩ = some (.slice p (dig 10000 (zu).natAbs).length c) ∧ w'.cell? ⟨w2.heap.size, 1, none⟩ = some (.bool (decide (zu < 0))) ∧ w22.grownBy w' none) (first | exact Kept.step (W := w22) [(w2.heap.size + 1, 0, .slice p2 (dig 10000 (zt).natAbs).length c2), (w2.heap.size + 1, 1, .bool (decide (zt < 0))), (w2.heap.size, 0, .slice p (dig 10000 (zu).natAbs).length c), (w2.heap.size, 1, .bool (decide (zu < 0)))] [] (by assumption) (by assumption) | exact Kept.step (W := w22) [(w2.heap.size + 1, 0, .slice p2 (dig 10000 (zt).natAbs).length c2), (w2.heap.size + 1, 1, .bool (decide (zt < 0))), (w2.heap.size, 0, .slice p (dig 10000 (zu).natAbs).length c), (w2.heap.size, 1, .bool (decide (zu < 0)))] [] (grown_alloc _ _ _) (by assumption) | exact Kept.step (W := w22) [(w2.heap.size + 1, 0, .slice p2 (dig 10000 (zt).natAbs).length c2), (w2.heap.size + 1, 1, .bool (decide (zt < 0))), (w2.heap.size, 0, .slice p (dig 10000 (zu).natAbs).length c), (w2.heap.size, 1, .bool (decide (zu < 0)))] [] (grown_drew _ _) S0)
          (first | (go_at_call 14; (with_reducible refine (wakes_true _).mono ?_); rintro e w' ⟨rfl, hg⟩) | (go_at_call 11; (with_reducible refine (Is_l d4 k2 n4).mono ?_); rintro e w' ⟨rfl, hg⟩; clear d4 n4) | (go_at_call 10; (with_reducible refine (Of_i m _ m1 m2).mono ?_); rintro e w' ⟨v, rfl, h, bd, hg⟩; have n4 := h.nor; replace d4 := d4.grown hg; clear h bd) | (go_at_call 5; (with_reducible refine (Of_r m _ m1 m2).mono ?_); rintro e w' ⟨v, rfl, h, bd, hg⟩; have d4 := h.decI bd; clear h bd) | (go_at_call 11; (with_reducible refine (Is_l (DP'.out.grown (by go_split_ands; assumption)) kB n3).mono ?_); rintro e w' ⟨rfl, hg⟩; clear n3) | (go_at_call 13; (with_reducible refine (Product_i (RZ.out.grown (by go_split_ands; assumption)) kP).mono ?_); rintro e w' ⟨v, rfl, h, bd, hg⟩; rw [HL.out, ← ZT.out] at h; have n3 := h.nor; clear h bd) | (go_at_call 11; (with_reducible refine (Is_l (DS'.out.grown (by go_split_ands; assumption)) kA n2).mono ?_); rintro e w' ⟨rfl, hg⟩; clear n2) | (go_at_call 12; (with_reducible refine (Sum_i (RZ.out.grown (by go_split_ands; assumption)) kS).mono ?_); rintro e w' ⟨v, rfl, h, bd, hg⟩; rw [HL.out, ← Z.out] at h; have n2 := h.nor; clear h bd))
        all_goals (rename_i hend; have g := hend.2.2.2.2; replace S := S.step _ g; clear g hend S0; go_wp2_with fail; go_ret; exact ⟨rfl, S.all⟩)
      · have k1 : ¬ (i : Int) < (n : Int) := by omega
        have RZ := Lib.hid (OZ.out.rowZ NU.out)
        clear OZ NU KW
        have kS : 5 + L.length ≤ 100000 := by have := HL.out; omega
        have kP : 2 + 5 * L.length + 5 ≤ 500000 := by have := HL.out; omega
        have kA : 2 + 6 * i ≤ 1000000 := by omega
        have kB : 2 + 5 * i ≤ 1000000 := by omega
        have k2 : 2 ≤ 1000000 := by omega
        obtain ⟨e0, e1, e2, e3, e4, e5, e6, e7, G⟩ := id S
        go_wp2_with fail
        clear e0 e1 e2 e3 e4 e5 e6 e7 G
        with_reducible refine (Of_i m _ m1 m2).mono ?_
        rintro e w21 ⟨v, rfl, h, bd, g⟩
        replace RZ := Lib.hid (RZ.out.grown g)
        replace DS' := Lib.hid (DS'.out.kp (Kp.of g))
        replace DP' := Lib.hid (DP'.out.kp (Kp.of g))
        replace S := S.step _ g
        clear g
        obtain ⟨pm, cm, rfl, -⟩ := id h
        have VM := Lib.hid (h.intV bd)
        clear h bd
        have hz0 := abs_high hn
        obtain ⟨e0, e1, e2, e3, e4, e5, e6, e7, G⟩ := id S
        go_wp2_with fail
        clear e0 e1 e2 e3 e4 e5 e6 e7 G
        with_reducible refine (Small_no VM.out k2 hz0).mono ?_
        rintro e w22 ⟨rfl, g⟩
        replace RZ := Lib.hid (RZ.out.grown g)
        replace DS' := Lib.hid (DS'.out.kp (Kp.of g))
        replace DP' := Lib.hid (DP'.out.kp (Kp.of g))
        replace VM := Lib.hid (VM.out.kp (Kp.of g))
        replace S := S.step _ g
        clear g
        have t1 : (-4611686018427387904 : Int) < m := by omega
        have t2 : ¬ m < 4611686018427387904 := by omega
        obtain ⟨e0, e1, e2, e3, e4, e5, e6, e7, G⟩ := id S
        go_wp2_with fail
        clear e0 e1 e2 e3 e4 e5 e6 e7 G
        obtain ⟨e0, e1, e2, e3, e4, e5, e6, e7, G⟩ := id S
        have S0 : Kept w22 [(w2.heap.size + 1, 0, .slice p2 (dig 10000 (zt).natAbs).length c2), (w2.heap.size + 1, 1, .bool (decide (zt < 0))), (w2.heap.size, 0, .slice p (dig 10000 (zu).natAbs).length c), (w2.heap.size, 1, .bool (decide (zu < 0)))] [] w22 := ⟨e0, e1, e4, e5, grown_refl _ _⟩
        clear e0 e1 e2 e3 e4 e5 e6 e7 G
        go_region_held3 (fun w' => w'.cell? ⟨w2.heap.size + 1, 0, none⟩ = some (.slice p2 (dig 10000 (zt).natAbs).length c2) ∧ w'.cell? ⟨w2.heap.size + 1, 1, none⟩ = some (.bool (decide (zt < 0))) ∧ w'.cell? ⟨w2.heap.size, 0, none⟩ = some (.slice p (dig 10000 (zu).natAbs).length c) ∧ w'.cell? ⟨w2.heap.size, 1, none⟩ = some (.bool (decide (zu < 0))) ∧ w22.grownBy w' none) (first | exact Kept.step (W := w22) [(w2.heap.size + 1, 0, .slice p2 (dig 10000 (zt).natAbs).length c2), (w2.heap.size + 1, 1, .bool (decide (zt < 0))), (w2.heap.size, 0, .slice p (dig 10000 (zu).natAbs).length c), (w2.heap.size, 1, .bool (decide (zu < 0)))] [] (by assumption) (by assumption) | exact Kept.step (W := w22) [(w2.heap.size + 1, 0, .slice p2 (dig 10000 (zt).natAbs).length c2), (w2.heap.size + 1, 1, .bool (decide (zt < 0))), (w2.heap.size, 0, .slice p (dig 10000 (zu).natAbs).length c), (w2.heap.size, 1, .bool (decide (zu < 0)))] [] (grown_alloc _ _ _) (by assumption) | exact Kept.step (W := w22) [(w2.heap.size + 1, 0, .slice p2 (dig 10000 (zt).natAbs).length c2), (w2.heap.size + 1, 1, .bool (decide (zt < 0))), (w2.heap.size, 0, .slice p (dig 10000 (zu).natAbs).length c), (w2.heap.size, 1, .bool (decide (zu < 0)))] [] (grown_drew _ _) S0)
          (first | (go_at_call 14; (with_reducible refine (wakes_true _).mono ?_); rintro e w' ⟨rfl, hg⟩) | (go_at_call 11; (with_reducible refine (Is_l d4 k2 n4).mono ?_); rintro e w' ⟨rfl, hg⟩; clear d4 n4) | (go_at_call 10; (with_reducible refine (Of_i m _ m1 m2).mono ?_); rintro e w' ⟨v, rfl, h, bd, hg⟩; have n4 := h.nor; replace d4 := d4.grown hg; clear h bd) | (go_at_call 5; (with_reducible refine (Of_r m _ m1 m2).mono ?_); rintro e w' ⟨v, rfl, h, bd, hg⟩; have d4 := h.decI bd; clear h bd) | (go_at_call 11; (with_reducible refine (Is_l (DP'.out.grown (by go_split_ands; assumption)) kB n3).mono ?_); rintro e w' ⟨rfl, hg⟩; clear n3) | (go_at_call 13; (with_reducible refine (Product_i (RZ.out.grown (by go_split_ands; assumption)) kP).mono ?_); rintro e w' ⟨v, rfl, h, bd, hg⟩; rw [HL.out, ← ZT.out] at h; have n3 := h.nor; clear h bd) | (go_at_call 11; (with_reducible refine (Is_l (DS'.out.grown (by go_split_ands; assumption)) kA n2).mono ?_); rintro e w' ⟨rfl, hg⟩; clear n2) | (go_at_call 12; (with_reducible refine (Sum_i (RZ.out.grown (by go_split_ands; assumption)) kS).mono ?_); rintro e w' ⟨v, rfl, h, bd, hg⟩; rw [HL.out, ← Z.out] at h; have n2 := h.nor; clear h bd))
        all_goals (rename_i hend; have g := hend.2.2.2.2; replace S := S.step _ g; clear g hend S0; go_wp2_with fail; go_ret; exact ⟨rfl, S.all⟩)

set_option maxRecDepth 100000 in
theorem lifted (os : Os) (started : os.Started) (H : Type) (enc : TypeId × Value → H) :
    ReturnsInHanded {} Try.checked os 3 .any (Rows.wholeAllsSpec.pre6 enc Try.prog Try.f3 Rows.wholeAllsRow.domain false) (Rows.wholeAllsSpec.post enc Try.prog Try.f3 false true false false) := by
  refine returnsInHanded_of_change (C := Try.checked) Try.own started (by kernel_rfl) Try.func3
    (ChangeSpec.witness6 (enc := enc) (C := Try.checked) false ⟨#[], #[.slice none 0 0, .int .i64 0], []⟩ 8 (by kernel_rfl) (by kernel_rfl) (by kernel_rfl) (by kernel_rfl)) ?_
  intro W base args ds gs before hval0 hW _ _
  have hval : ∀ (j : Nat) t v, Try.f3.params[j]? = some t → args[j]? = some v → Value.okWide Try.prog W .any base t v := hval0
  obtain ⟨p, q, hA0, hV, rfl, _, _⟩ := id hW
  have hA : DataW.TrodAll enc Try.prog W 0 (fun _ => true) true Try.f3.params.toList args.toList ds p := hA0
  rw [Try.params3] at hA hval
  obtain ⟨v0, vs0, d0, ds0, p0, q0, hargs, rfl, rfl, h0, r0⟩ := trodAll_cons hA
  obtain ⟨v1, vs1, d1, ds1, p1, q1, rfl, rfl, rfl, h1, r1⟩ := trodAll_cons r0
  obtain ⟨rfl, rfl, rfl⟩ := trodAll_nil r1
  obtain rfl : args = #[v0, v1] := by cases args; simp_all
  obtain ⟨m0, q0, s0⟩ := ints_of_trod h0 (hval 0 22 v0 rfl rfl)
  obtain ⟨n1, rfl, rfl, rfl, f1⟩ := open_int Try.underlying3 (hval 1 3 v1 rfl rfl) h1
  refine (walk s0 n1 (wf_lo f1) (wf_hi f1)).mono fun e W' ⟨he, hg⟩ => ?_
  subst he
  refine ⟨_, rfl, law_post Try.laidOut rfl (by kernel_rfl) Try.underlying4 ?_ ?_ hW hg⟩
  · rw [Try.params3]; decide +kernel
  · rw [Try.params3]
    intro ds h
    match ds, h with
    | [_, _], _ => rfl

theorem holds : Rows.WholeAllsSaid :=
  OpenClaim.holds_of_wide 3 Try.f3 rfl rfl rfl rfl rfl rfl rfl ⟨rfl, rfl, rfl, rfl, rfl⟩ rfl rfl rfl rfl rfl (by kernel_rfl) Try.func3 (by kernel_rfl)
    (of_decide_eq_true (by kernel_rfl)) (by unfold Func.isWrapper; first | (rw [if_pos (by decide +kernel)]; kernel_rfl) | (rw [if_neg (by decide +kernel)]; exact ⟨rfl, rfl⟩))
    (fun os started H enc _ => lifted os started H enc)

end Go.Proofs.Ytmkplojojaopmaa.alls
