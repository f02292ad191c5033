/- WholeGcds holds: for every row of whole numbers and every whole number the law returns true and leaves them as they were. No condition. -/
import Derived.Test.YtmmmpdpgkjcohaaRowsI
namespace Go.Proofs.Ytmmmpdpgkjcohaa.gcds
open Go.ChangeShapes Go.WideShapes Go.ChangeAt Go.RowKit

theorem nums_kp {w w' : World} {L : List (Bool × Value)} {zs : Nat → Int} {k : Nat} (h : ∀ (j : Nat) (r : Bool × Value), L[j]? = some r → ∃ X, Num w r.2 X k ∧ zs j = sg r.1 X) (g : Kp w w') : ∀ (j : Nat) (r : Bool × Value), L[j]? = some r → ∃ X, Num w' r.2 X k ∧ zs j = sg r.1 X := fun j r hr => by
  obtain ⟨X, h1, h2⟩ := h j r hr
  exact ⟨X, h1.kp g, h2⟩
theorem nums_app {w : World} {L : List (Bool × Value)} {zs : Nat → Int} {k i : Nat} (hL : L.length = i) (h : ∀ (j : Nat) (r : Bool × Value), L[j]? = some r → ∃ X, Num w r.2 X k ∧ zs j = sg r.1 X) {z : Int} {b : Bool} {s : Value} (hz : zs i = z) (hv : IntV w (.agg #[.bool b, s]) z k) :
    ∀ (j : Nat) (r : Bool × Value), (L ++ [(b, s)])[j]? = some r → ∃ X, Num w r.2 X k ∧ zs j = sg r.1 X := fun j r hr => by
  rw [List.getElem?_append] at hr
  split at hr
  · exact h j r hr
  · rename_i hj
    have hj2 : j = i := by
      have := (List.getElem?_eq_some_iff.1 hr).1
      simp at this
      omega
    subst hj2
    rw [hL, Nat.sub_self] at hr
    simp at hr
    subst hr
    obtain ⟨X, h1, h2⟩ := hv.parts
    exact ⟨X, h1, by rw [hz, h2]⟩
theorem Bx.far {W w w' : World} {bs : List (Nat × Value × Value)} {v : Value} {B C : Nat} (h : Bx W bs w) (g : w.grownBy w' v.ownBlock) (hB : ∀ gg, v.ownBlock = some gg → B ≤ gg ∧ gg < C) (hb : ∀ b, b ∈ bs → b.1 < B ∨ C ≤ b.1) (hW : W.heap.size ≤ B) : Bx W bs w' := by
  have hg : W.grownBy w' none := by
    cases hv : v.ownBlock with
    | none => rw [hv] at g; exact grown_trans h.all g
    | some gg => rw [hv] at g; exact grown_new h.all g (Nat.le_trans hW (hB gg hv).1)
  rw [Bx.iff] at h ⊢
  refine ⟨fun b hm => ?_, hg⟩
  have hc := h.1 b hm
  have hne : some b.1 ≠ v.ownBlock := fun e => by
    have h1 := hB b.1 e.symm
    have h2 := hb b hm
    omega
  have hl : b.1 < w.heap.size := cell_lt hc.1
  have hbk := g.block b.1 hl hne
  refine ⟨?_, ?_, ?_, ?_⟩
  · rw [World.cell?_of_block hbk]; exact hc.1
  · rw [World.cell?_of_block hbk]; exact hc.2.1
  · have := hc.2.2.1; simp only [World.frozen?, hbk] at this ⊢; exact this
  · have := hc.2.2.2; simp only [World.frozen?, hbk] at this ⊢; exact this
set_option maxHeartbeats 8000000 in
set_option maxRecDepth 100000 in
theorem walk {v0 : Value} {n : Nat} {q : Nat → Bool × Value × List Nat} {b1 : Bool} {v1 : Value} {xs : List Nat} {w : World} (h0 : RowIn w v0 n q) (hx : Sl w .u32 v1 xs) (ax : All 4294967296 xs) :
    Calls Try.prog 7 #[v0, .agg #[.bool b1, v1]] w (Bool_ w true) := by
  obtain ⟨p0, cap0, rfl, n1, n2, h0⟩ := h0
  obtain ⟨p1, c1, rfl, -⟩ := id hx
  have H0 := Lib.hid h0
  have Hx := Lib.hid hx
  have Ax := Lib.hid ax
  have S : Bx w [(w.heap.size, .bool b1, .slice p1 xs.length c1)] (w.alloc (.cells #[.bool b1, .slice p1 xs.length c1] 24)) := ((Bx.start w).box (w.heap.size) (.bool b1) (.slice p1 xs.length c1) 24 (by simp))
  clear hx ax h0
  go_enter Try.func7, Try.ntmps7
  obtain ⟨e0, e1, e2, e3, G⟩ := id S
  go_wp2_with fail
  clear e0 e1 e2 e3 G
  refine (Of_l 3 (Hx.out.grown S.all (.inl rfl)) Ax.out (by omega)).mono ?_
  rintro e w1 ⟨pA, nA, cA, uz, rfl, hs, hd, g⟩
  replace hs := hs.grown g (.inl rfl)
  replace S := S.step _ g
  clear g
  obtain ⟨zz, hzz⟩ : ∃ z, sg b1 (val 4294967296 (xs.take 3)) = z := ⟨_, rfl⟩
  rw [hzz] at hd
  have bdz := hd.bd
  obtain ⟨pz, cz, rfl, -⟩ := id hd
  have VA := Lib.hid (show IntV _ (.agg #[.bool b1, .slice pA nA cA]) zz 3 from ⟨_, _, _, rfl, Num.row hs (Ax.out.take 3) 3 (by rw [List.length_take]; omega), hzz.symm⟩)
  have SA := Lib.hid (show Sl _ .u32 (.slice pA nA cA) (xs.take 3) from hs)
  have Dz := Lib.hid (hd)
  clear hs hd hzz
  have z1_0 := S.lt (g := w.heap.size) (x := .bool b1) (y := .slice p1 xs.length c1) (by simp)
  obtain ⟨e0, e1, e2, e3, G⟩ := id S
  have K : Kp w1 (((w1.setCell ⟨w.heap.size, 0, none⟩ (.bool b1)).setCell ⟨w.heap.size, 1, none⟩ (.slice pA nA cA)).alloc (.cells #[.slice pz (dig 10000 (zz).natAbs).length cz, .bool (decide (zz < 0))] 28)) := (S.kp (g := w.heap.size) (x := .bool b1) (y := .slice p1 xs.length c1) (.bool b1) (.slice pA nA cA) (by simp) (by simp) (by simp)).trans (Kp.of (grown_alloc _ _ _))
  have S2 : Bx w [(w.heap.size, .bool b1, .slice pA nA cA)] ((w1.setCell ⟨w.heap.size, 0, none⟩ (.bool b1)).setCell ⟨w.heap.size, 1, none⟩ (.slice pA nA cA)) := S.put (g := w.heap.size) (u := .bool b1) (v := .slice pA nA cA) (x := .bool b1) (y := .slice p1 xs.length c1) (bs' := []) (by simp) (by simp <;> omega) (by simp <;> omega) (by omega)
  replace S : Bx w [(w1.heap.size, .slice pz (dig 10000 (zz).natAbs).length cz, .bool (decide (zz < 0))), (w.heap.size, .bool b1, .slice pA nA cA)] (((w1.setCell ⟨w.heap.size, 0, none⟩ (.bool b1)).setCell ⟨w.heap.size, 1, none⟩ (.slice pA nA cA)).alloc (.cells #[.slice pz (dig 10000 (zz).natAbs).length cz, .bool (decide (zz < 0))] 28)) := S2.box (w1.heap.size) (.slice pz (dig 10000 (zz).natAbs).length cz) (.bool (decide (zz < 0))) 28 (by simp)
  replace VA := Lib.hid (VA.out.kp K)
  replace SA := Lib.hid (SA.out.kp K)
  replace Dz := Lib.hid (Dz.out.kp K)
  go_wp2_with fail
  clear K S2 e0 e1 e2 e3 G
  generalize (((w1.setCell ⟨w.heap.size, 0, none⟩ (.bool b1)).setCell ⟨w.heap.size, 1, none⟩ (.slice pA nA cA)).alloc (.cells #[.slice pz (dig 10000 (zz).natAbs).length cz, .bool (decide (zz < 0))] 28)) = W1 at *
  obtain ⟨nA3, hnA⟩ : ∃ m, (xs.take 3).length = m := ⟨_, rfl⟩
  have l3 : nA3 ≤ 3 := by rw [← hnA, List.length_take]; omega
  obtain ⟨pA', cA', eA, -⟩ := id SA.out
  simp only [Value.slice.injEq] at eA
  obtain ⟨rfl, eA2, rfl⟩ := eA
  have nle : (nA : Int) ≤ 3 := by omega
  clear eA2 hnA
  with_reducible refine (Of_r 0 _ (by omega) (by omega)).mono ?_
  rintro e w2 ⟨v, rfl, h, bd, g⟩
  obtain ⟨z0, hz0⟩ : ∃ z : Int, 0 = z := ⟨_, rfl⟩
  rw [hz0] at h bd
  replace VA := Lib.hid (VA.out.kp (Kp.of g))
  replace SA := Lib.hid (SA.out.kp (Kp.of g))
  replace Dz := Lib.hid (Dz.out.kp (Kp.of g))
  replace S := S.step _ g
  obtain ⟨pw, cw, rfl, -⟩ := id h
  have DW := Lib.hid ((h.decI bd).more (show 2 ≤ 7 by omega))
  have Hz0 := Lib.hid hz0
  clear h bd g hz0
  have x_0 := S.lt (g := w1.heap.size) (x := .slice pz (dig 10000 (zz).natAbs).length cz) (y := .bool (decide (zz < 0))) (by simp)
  have x_1 := S.lt (g := w.heap.size) (x := .bool b1) (y := .slice pA nA cA) (by simp)
  replace VA := Lib.hid (VA.out.kp (Kp.of (grown_alloc _ (.cells #[.slice pw (dig 10000 (z0).natAbs).length cw, .bool (decide (z0 < 0))] 28) none)))
  replace SA := Lib.hid (SA.out.kp (Kp.of (grown_alloc _ (.cells #[.slice pw (dig 10000 (z0).natAbs).length cw, .bool (decide (z0 < 0))] 28) none)))
  replace Dz := Lib.hid (Dz.out.kp (Kp.of (grown_alloc _ (.cells #[.slice pw (dig 10000 (z0).natAbs).length cw, .bool (decide (z0 < 0))] 28) none)))
  replace DW := Lib.hid (DW.out.kp (Kp.of (grown_alloc _ (.cells #[.slice pw (dig 10000 (z0).natAbs).length cw, .bool (decide (z0 < 0))] 28) none)))
  replace S := S.box (w2.heap.size) (.slice pw (dig 10000 (z0).natAbs).length cw) (.bool (decide (z0 < 0))) 28 (by simp)
  obtain ⟨e0, e1, e2, e3, e4, e5, e6, e7, e8, e9, e10, e11, G⟩ := id S
  go_wp2_with fail
  clear e0 e1 e2 e3 e4 e5 e6 e7 e8 e9 e10 e11 G
  have sgz : (w2.alloc (.cells #[.slice pw (dig 10000 (z0).natAbs).length cw, .bool (decide (z0 < 0))] 28)).heap.size = w2.heap.size + 1 := by simp
  have sl := S.all.size
  generalize (w2.alloc (.cells #[.slice pw (dig 10000 (z0).natAbs).length cw, .bool (decide (z0 < 0))] 28)) = W2 at *
  clear SA VA
  obtain ⟨zs, hzs⟩ : ∃ f : Nat → Int, f = fun j => sg (q j).1 (val 4294967296 ((q j).2.2.take 4)) * zz := ⟨_, rfl⟩
  have Hzs := Lib.hid hzs
  clear hzs
  obtain ⟨B, hB⟩ : ∃ B, W2.heap.size = B := ⟨_, rfl⟩
  have hB1 : w2.heap.size + 1 ≤ B := by omega
  have hB2 : B ≤ W2.heap.size := by omega
  have hB3 : w.heap.size ≤ B := by omega
  clear hB
  go_loopw [6, 8] (fun xv iv wr => ∃ (i : Nat) (L : List (Bool × Value)) (zw : Int) (p : Option Addr) (c : Nat), i ≤ n ∧ i ≤ 5 ∧ iv = .int .i64 (i : Int) ∧ L.length = i ∧ Hid (zw = (gcdZ zs i : Int)) ∧ Hid (OwnZ wr B xv L) ∧ Hid (∀ (j : Nat) (r : Bool × Value), L[j]? = some r → ∃ X, Num wr r.2 X 7 ∧ zs j = sg r.1 X) ∧ Hid (Bx w [(w2.heap.size, .slice p (dig 10000 (zw).natAbs).length c, .bool (decide (zw < 0))), (w1.heap.size, .slice pz (dig 10000 (zz).natAbs).length cz, .bool (decide (zz < 0))), (w.heap.size, .bool b1, .slice pA nA cA)] wr) ∧ Hid (DecI wr (.agg #[.slice p (dig 10000 (zw).natAbs).length c, .bool (decide (zw < 0))]) zw 7) ∧ Hid (Kp W2 wr)) (fun _ iv _ => 5 - (intOf iv).toNat)
  case atStart => exact ⟨0, [], z0, pw, cw, Nat.zero_le _, by omega, rfl, rfl, Hz0.out.symm, OwnZ.nil _ _, fun j r h => by simp at h, S, DW.out, Kp.refl _⟩
  case round =>
    obtain ⟨i, L, zw, p, c, hin, hi5, rfl, hL, Z, OZ, NU, S1, DW', KW⟩ := hrel
    clear S DW
    have S := S1.out
    have Dz := Lib.hid (Dz.out.kp KW.out)
    have HL := Lib.hid hL
    have szB := KW.out.1
    clear S1
    by_cases h1 : i < n
    · by_cases h2 : i < 5
      · have k1 : (i : Int) < (n : Int) := by omega
        have k2 : (i : Int) < 5 := by omega
        rcases H0.out with h0 | ⟨bb, off, rfl, hcell⟩
        · omega
        obtain ⟨d0, d1, d2, d3⟩ := hcell i (by omega)
        replace d0 := cell_grown S.all d0
        replace d1 := cell_grown S.all d1
        have D2 := Lib.hid (d2.grown S.all (.inl rfl))
        have D3 := Lib.hid d3
        obtain ⟨ps, cs0, es, -⟩ := id d2
        rw [es] at d1 D2
        obtain ⟨qb, hqb⟩ : ∃ x, (q i).1 = x := ⟨_, rfl⟩
        obtain ⟨ql, hql⟩ : ∃ x, (q i).2.2 = x := ⟨_, rfl⟩
        have ez := Lib.hid (show zs i = sg qb (val 4294967296 (ql.take 4)) * zz by rw [Hzs.out, ← hqb, ← hql])
        rw [hqb] at d0
        rw [hql] at d1 D2 D3
        clear hcell d2 d3 es hqb hql
        obtain ⟨e0, e1, e2, e3, e4, e5, e6, e7, e8, e9, e10, e11, G⟩ := id S
        go_wp2_with fail
        clear e0 e1 e2 e3 e4 e5 e6 e7 e8 e9 e10 e11 G
        clear d0 d1
        refine (Of_l 4 D2.out D3.out (by omega)).mono ?_
        rintro e w3 ⟨pB, nB, cB, uy, rfl, -, hd, g⟩
        replace Dz := Lib.hid (Dz.out.kp (Kp.of g))
        replace DW' := Lib.hid (DW'.out.kp (Kp.of g))
        replace S := S.step _ g
        replace NU := Lib.hid (nums_kp NU.out (Kp.of g))
        replace OZ := Lib.hid (OZ.out.grown g (.inl rfl))
        replace KW := Lib.hid (KW.out.trans (Kp.of g))
        clear g D2 D3
        obtain ⟨zy, hzy⟩ : ∃ z, sg qb (val 4294967296 (ql.take 4)) = z := ⟨_, rfl⟩
        rw [hzy] at hd
        replace ez := Lib.hid (show zs i = zy * zz by rw [ez.out, hzy])
        clear hzy
        obtain ⟨py, cy, rfl, -⟩ := id hd
        have Dy := Lib.hid (hd)
        clear hd
        have v_0 := S.lt (g := w2.heap.size) (x := .slice p (dig 10000 (zw).natAbs).length c) (y := .bool (decide (zw < 0))) (by simp)
        have v_1 := S.lt (g := w1.heap.size) (x := .slice pz (dig 10000 (zz).natAbs).length cz) (y := .bool (decide (zz < 0))) (by simp)
        have v_2 := S.lt (g := w.heap.size) (x := .bool b1) (y := .slice pA nA cA) (by simp)
        have sl3 := S.all.size
        have OZl : ∀ gg, u6.ownBlock = some gg → gg < w3.heap.size := fun gg e => (OZ.out.lt gg e).2
        replace NU := Lib.hid (nums_kp NU.out (Kp.of (grown_alloc _ (.cells #[.bool qb, .slice pB nB cB] 24) none)))
        replace OZ := Lib.hid (OZ.out.grown (grown_alloc _ (.cells #[.bool qb, .slice pB nB cB] 24) none) (.inl rfl))
        replace KW := Lib.hid (KW.out.trans (Kp.of (grown_alloc _ (.cells #[.bool qb, .slice pB nB cB] 24) none)))
        replace Dz := Lib.hid (Dz.out.kp (Kp.of (grown_alloc _ (.cells #[.bool qb, .slice pB nB cB] 24) none)))
        replace DW' := Lib.hid (DW'.out.kp (Kp.of (grown_alloc _ (.cells #[.bool qb, .slice pB nB cB] 24) none)))
        replace Dy := Lib.hid (Dy.out.kp (Kp.of (grown_alloc _ (.cells #[.bool qb, .slice pB nB cB] 24) none)))
        replace S := S.box (w3.heap.size) (.bool qb) (.slice pB nB cB) 24 (by simp)
        replace NU := Lib.hid (nums_kp NU.out (Kp.of (grown_alloc _ (.cells #[.slice py (dig 10000 (zy).natAbs).length cy, .bool (decide (zy < 0))] 28) none)))
        replace OZ := Lib.hid (OZ.out.grown (grown_alloc _ (.cells #[.slice py (dig 10000 (zy).natAbs).length cy, .bool (decide (zy < 0))] 28) none) (.inl rfl))
        replace KW := Lib.hid (KW.out.trans (Kp.of (grown_alloc _ (.cells #[.slice py (dig 10000 (zy).natAbs).length cy, .bool (decide (zy < 0))] 28) none)))
        replace Dz := Lib.hid (Dz.out.kp (Kp.of (grown_alloc _ (.cells #[.slice py (dig 10000 (zy).natAbs).length cy, .bool (decide (zy < 0))] 28) none)))
        replace DW' := Lib.hid (DW'.out.kp (Kp.of (grown_alloc _ (.cells #[.slice py (dig 10000 (zy).natAbs).length cy, .bool (decide (zy < 0))] 28) none)))
        replace Dy := Lib.hid (Dy.out.kp (Kp.of (grown_alloc _ (.cells #[.slice py (dig 10000 (zy).natAbs).length cy, .bool (decide (zy < 0))] 28) none)))
        replace S := S.box (w3.heap.size + 1) (.slice py (dig 10000 (zy).natAbs).length cy) (.bool (decide (zy < 0))) 28 (by simp)
        obtain ⟨e0, e1, e2, e3, e4, e5, e6, e7, e8, e9, e10, e11, e12, e13, e14, e15, e16, e17, e18, e19, G⟩ := id S
        go_wp2_with fail
        clear e0 e1 e2 e3 e4 e5 e6 e7 e8 e9 e10 e11 e12 e13 e14 e15 e16 e17 e18 e19 G
        have sz3 : ((w3.alloc (.cells #[.bool qb, .slice pB nB cB] 24)).alloc (.cells #[.slice py (dig 10000 (zy).natAbs).length cy, .bool (decide (zy < 0))] 28)).heap.size = w3.heap.size + 2 := by simp
        generalize ((w3.alloc (.cells #[.bool qb, .slice pB nB cB] 24)).alloc (.cells #[.slice py (dig 10000 (zy).natAbs).length cy, .bool (decide (zy < 0))] 28)) = W4 at *
        with_reducible refine (Mul_r Dy.out Dz.out (by omega)).mono ?_
        rintro e w5 ⟨v, rfl, h, bd, g⟩
        obtain ⟨zm, hzm⟩ : ∃ t, zy * zz = t := ⟨_, rfl⟩
        rw [hzm] at h bd ez
        replace Dz := Lib.hid (Dz.out.kp (Kp.of g))
        replace DW' := Lib.hid (DW'.out.kp (Kp.of g))
        replace Dy := Lib.hid (Dy.out.kp (Kp.of g))
        replace S := S.step _ g
        replace NU := Lib.hid (nums_kp NU.out (Kp.of g))
        replace OZ := Lib.hid (OZ.out.grown g (.inl rfl))
        replace KW := Lib.hid (KW.out.trans (Kp.of g))
        have sz5 : w3.heap.size + 2 ≤ w5.heap.size := by have := g.size; omega
        obtain ⟨pm, cm, rfl, -⟩ := id h
        have Dm := Lib.hid (h.decI bd)
        clear h bd g hzm
        clear Dy
        obtain ⟨e0, e1, e2, e3, e4, e5, e6, e7, e8, e9, e10, e11, e12, e13, e14, e15, e16, e17, e18, e19, G⟩ := id S
        have K : Kp w5 ((w5.setCell ⟨w3.heap.size + 1, 0, none⟩ (.slice pm (dig 10000 (zm).natAbs).length cm)).setCell ⟨w3.heap.size + 1, 1, none⟩ (.bool (decide (zm < 0)))) := S.kp (g := w3.heap.size + 1) (x := .slice py (dig 10000 (zy).natAbs).length cy) (y := .bool (decide (zy < 0))) (.slice pm (dig 10000 (zm).natAbs).length cm) (.bool (decide (zm < 0))) (by simp) (by simp) (by simp)
        replace S : Bx w [(w3.heap.size + 1, .slice pm (dig 10000 (zm).natAbs).length cm, .bool (decide (zm < 0))), (w3.heap.size, .bool qb, .slice pB nB cB), (w2.heap.size, .slice p (dig 10000 (zw).natAbs).length c, .bool (decide (zw < 0))), (w1.heap.size, .slice pz (dig 10000 (zz).natAbs).length cz, .bool (decide (zz < 0))), (w.heap.size, .bool b1, .slice pA nA cA)] ((w5.setCell ⟨w3.heap.size + 1, 0, none⟩ (.slice pm (dig 10000 (zm).natAbs).length cm)).setCell ⟨w3.heap.size + 1, 1, none⟩ (.bool (decide (zm < 0)))) := S.put (g := w3.heap.size + 1) (u := .slice pm (dig 10000 (zm).natAbs).length cm) (v := .bool (decide (zm < 0))) (x := .slice py (dig 10000 (zy).natAbs).length cy) (y := .bool (decide (zy < 0))) (bs' := [(w3.heap.size, .bool qb, .slice pB nB cB), (w2.heap.size, .slice p (dig 10000 (zw).natAbs).length c, .bool (decide (zw < 0))), (w1.heap.size, .slice pz (dig 10000 (zz).natAbs).length cz, .bool (decide (zz < 0))), (w.heap.size, .bool b1, .slice pA nA cA)]) (by simp) (by simp <;> omega) (by simp <;> omega) (by omega)
        replace Dz := Lib.hid (Dz.out.kp K)
        replace DW' := Lib.hid (DW'.out.kp K)
        replace Dm := Lib.hid (Dm.out.kp K)
        replace NU := Lib.hid (nums_kp NU.out K)
        replace OZ := Lib.hid (show OwnZ ((w5.setCell ⟨w3.heap.size + 1, 0, none⟩ (.slice pm (dig 10000 (zm).natAbs).length cm)).setCell ⟨w3.heap.size + 1, 1, none⟩ (.bool (decide (zm < 0)))) _ _ _ from OZ.out.grown (set2_grown w5 (w3.heap.size + 1) (.slice pm (dig 10000 (zm).natAbs).length cm) (.bool (decide (zm < 0)))) (.inr (fun e => by have := OZl _ e; omega)))
        replace KW := Lib.hid (KW.out.trans K)
        go_wp2_with fail
        clear K e0 e1 e2 e3 e4 e5 e6 e7 e8 e9 e10 e11 e12 e13 e14 e15 e16 e17 e18 e19 G
        have sz6 : ((w5.setCell ⟨w3.heap.size + 1, 0, none⟩ (.slice pm (dig 10000 (zm).natAbs).length cm)).setCell ⟨w3.heap.size + 1, 1, none⟩ (.bool (decide (zm < 0)))).heap.size = w5.heap.size := by simp
        generalize ((w5.setCell ⟨w3.heap.size + 1, 0, none⟩ (.slice pm (dig 10000 (zm).natAbs).length cm)).setCell ⟨w3.heap.size + 1, 1, none⟩ (.bool (decide (zm < 0)))) = W6 at *
        with_reducible refine (To_r Dm.out (by omega)).mono ?_
        rintro e w7 ⟨v, rfl, hm, bm, g⟩
        replace Dz := Lib.hid (Dz.out.kp (Kp.of g))
        replace DW' := Lib.hid (DW'.out.kp (Kp.of g))
        replace Dm := Lib.hid (Dm.out.kp (Kp.of g))
        replace S := S.step _ g
        replace NU := Lib.hid (nums_kp NU.out (Kp.of g))
        replace OZ := Lib.hid (OZ.out.grown g (.inl rfl))
        replace KW := Lib.hid (KW.out.trans (Kp.of g))
        obtain ⟨pn, cn, rfl, hn2⟩ := id hm
        have VN := Lib.hid (hm.intV bm)
        have sz7 : w3.heap.size + 2 ≤ w7.heap.size := by have := g.size; omega
        clear hm bm hn2 g
        have hB7 : B ≤ w7.heap.size := by have := KW.out.1; omega
        have OZ7 := Lib.hid (OZ.out.grown (grown_alloc _ (.cells #[.bool (decide (zm < 0)), .slice pn (dig 4294967296 (zm).natAbs).length cn] 24) none) (.inl rfl))
        obtain ⟨e0, e1, e2, e3, e4, e5, e6, e7, e8, e9, e10, e11, e12, e13, e14, e15, e16, e17, e18, e19, G⟩ := id S
        go_upto_region 10 with (at_builtin; refine wp_append_z rfl _ _ rfl B _ L rfl OZ7.out (decide (zm < 0)) pn (dig 4294967296 (zm).natAbs).length cn w7.heap.size rfl (by simp [go_sem]) (by simp [go_sem]) (by simp; omega) (by have := HL.out; omega) ?_; intro xv' w8 hown hgr)
        clear e0 e1 e2 e3 e4 e5 e6 e7 e8 e9 e10 e11 e12 e13 e14 e15 e16 e17 e18 e19 G
        replace NU := Lib.hid (nums_kp NU.out (Kp.of (grown_alloc _ (.cells #[.bool (decide (zm < 0)), .slice pn (dig 4294967296 (zm).natAbs).length cn] 24) none)))
        replace OZ := Lib.hid (OZ.out.grown (grown_alloc _ (.cells #[.bool (decide (zm < 0)), .slice pn (dig 4294967296 (zm).natAbs).length cn] 24) none) (.inl rfl))
        replace KW := Lib.hid (KW.out.trans (Kp.of (grown_alloc _ (.cells #[.bool (decide (zm < 0)), .slice pn (dig 4294967296 (zm).natAbs).length cn] 24) none)))
        replace Dz := Lib.hid (Dz.out.kp (Kp.of (grown_alloc _ (.cells #[.bool (decide (zm < 0)), .slice pn (dig 4294967296 (zm).natAbs).length cn] 24) none)))
        replace DW' := Lib.hid (DW'.out.kp (Kp.of (grown_alloc _ (.cells #[.bool (decide (zm < 0)), .slice pn (dig 4294967296 (zm).natAbs).length cn] 24) none)))
        replace Dm := Lib.hid (Dm.out.kp (Kp.of (grown_alloc _ (.cells #[.bool (decide (zm < 0)), .slice pn (dig 4294967296 (zm).natAbs).length cn] 24) none)))
        replace VN := Lib.hid (VN.out.kp (Kp.of (grown_alloc _ (.cells #[.bool (decide (zm < 0)), .slice pn (dig 4294967296 (zm).natAbs).length cn] 24) none)))
        replace S := S.step _ (grown_alloc _ (.cells #[.bool (decide (zm < 0)), .slice pn (dig 4294967296 (zm).natAbs).length cn] 24) none)
        have K8 := OZ7.out.kp hgr
        have hlx := OZ7.out.lt
        replace S := Bx.far S hgr (fun gg e => by have := OZl _ e; exact ⟨(hlx gg e).1, this⟩) (by simp <;> omega) (by omega)
        replace NU := Lib.hid (nums_kp NU.out K8)
        replace KW := Lib.hid (KW.out.trans K8)
        have OZ8 := Lib.hid hown
        replace Dz := Lib.hid (Dz.out.kp K8)
        replace DW' := Lib.hid (DW'.out.kp K8)
        replace Dm := Lib.hid (Dm.out.kp K8)
        replace VN := Lib.hid (VN.out.kp K8)
        clear K8 hown hgr hlx OZ OZ7
        obtain ⟨e0, e1, e2, e3, e4, e5, e6, e7, e8, e9, e10, e11, e12, e13, e14, e15, e16, e17, e18, e19, G⟩ := id S
        go_wp2_with fail
        clear e0 e1 e2 e3 e4 e5 e6 e7 e8 e9 e10 e11 e12 e13 e14 e15 e16 e17 e18 e19 G
        with_reducible refine (Gcd_r DW'.out Dm.out (by omega)).mono ?_
        rintro e w9 ⟨v, rfl, hd, g⟩
        obtain ⟨zv, hzv⟩ : ∃ t : Int, ((Nat.gcd zw.natAbs zm.natAbs : Nat) : Int) = t := ⟨_, rfl⟩
        rw [hzv] at hd
        replace Dz := Lib.hid (Dz.out.kp (Kp.of g))
        replace DW' := Lib.hid (DW'.out.kp (Kp.of g))
        replace Dm := Lib.hid (Dm.out.kp (Kp.of g))
        replace VN := Lib.hid (VN.out.kp (Kp.of g))
        replace S := S.step _ g
        replace NU := Lib.hid (nums_kp NU.out (Kp.of g))
        replace OZ8 := Lib.hid (OZ8.out.grown g (.inl rfl))
        replace KW := Lib.hid (KW.out.trans (Kp.of g))
        obtain ⟨pv, cv, rfl, -⟩ := id hd
        have DV := Lib.hid (hd)
        clear hd g
        have Zv := Lib.hid (show zv = (gcdZ zs (i + 1) : Int) by rw [← hzv, Z.out, Int.natAbs_natCast]; show _ = ((Nat.gcd (gcdZ zs i) (zs i).natAbs : Nat) : Int); rw [ez.out])
        clear hzv
        have NU9 := Lib.hid (nums_app (k := 7) HL.out NU.out (z := zm) (by have := ez.out; exact this) VN.out)
        clear NU
        obtain ⟨e0, e1, e2, e3, e4, e5, e6, e7, e8, e9, e10, e11, e12, e13, e14, e15, e16, e17, e18, e19, G⟩ := id S
        have K : Kp w9 ((w9.setCell ⟨w2.heap.size, 0, none⟩ (.slice pv (dig 10000 (zv).natAbs).length cv)).setCell ⟨w2.heap.size, 1, none⟩ (.bool (decide (zv < 0)))) := S.kp (g := w2.heap.size) (x := .slice p (dig 10000 (zw).natAbs).length c) (y := .bool (decide (zw < 0))) (.slice pv (dig 10000 (zv).natAbs).length cv) (.bool (decide (zv < 0))) (by simp) (by simp) (by simp)
        have S9 := Lib.hid (show Bx w [(w2.heap.size, .slice pv (dig 10000 (zv).natAbs).length cv, .bool (decide (zv < 0))), (w1.heap.size, .slice pz (dig 10000 (zz).natAbs).length cz, .bool (decide (zz < 0))), (w.heap.size, .bool b1, .slice pA nA cA)] ((w9.setCell ⟨w2.heap.size, 0, none⟩ (.slice pv (dig 10000 (zv).natAbs).length cv)).setCell ⟨w2.heap.size, 1, none⟩ (.bool (decide (zv < 0)))) from S.put (g := w2.heap.size) (u := .slice pv (dig 10000 (zv).natAbs).length cv) (v := .bool (decide (zv < 0))) (x := .slice p (dig 10000 (zw).natAbs).length c) (y := .bool (decide (zw < 0))) (bs' := [(w1.heap.size, .slice pz (dig 10000 (zz).natAbs).length cz, .bool (decide (zz < 0))), (w.heap.size, .bool b1, .slice pA nA cA)]) (by simp) (by simp <;> omega) (by simp <;> omega) (by omega))
        have D9 := Lib.hid (DV.out.kp K)
        have N9 := Lib.hid (nums_kp NU9.out K)
        have O9 := Lib.hid (OZ8.out.grown (set2_grown w9 (w2.heap.size) (.slice pv (dig 10000 (zv).natAbs).length cv) (.bool (decide (zv < 0)))) (.inr (fun e => by have := (OZ8.out.lt _ e).1; omega)))
        have K9 := Lib.hid (KW.out.trans K)
        clear K DV NU9 OZ8 KW Dz DW' Dm VN S
        go_wp2_with fail
        go_roundw
        case rel => exact ⟨i + 1, _, zv, pv, cv, by omega, by omega, by go_num, by simp [HL.out], Zv.out, O9.out, N9.out, S9.out, D9.out, K9.out⟩
        case measure => simp [intOf]; omega
      · have k1 : (i : Int) < (n : Int) := by omega
        have k2 : ¬ (i : Int) < 5 := by omega
        have RZ := Lib.hid (OZ.out.rowZ NU.out)
        clear OZ NU KW
        have k7 : 7 ≤ 1000000 := by omega
        obtain ⟨e0, e1, e2, e3, e4, e5, e6, e7, e8, e9, e10, e11, G⟩ := id S
        go_wp2_with fail
        clear e0 e1 e2 e3 e4 e5 e6 e7 e8 e9 e10 e11 G
        obtain ⟨e0, e1, e2, e3, e4, e5, e6, e7, e8, e9, e10, e11, G⟩ := id S
        have S0 : Kept wr [(w2.heap.size, 0, .slice p (dig 10000 (zw).natAbs).length c), (w2.heap.size, 1, .bool (decide (zw < 0))), (w1.heap.size, 0, .slice pz (dig 10000 (zz).natAbs).length cz), (w1.heap.size, 1, .bool (decide (zz < 0))), (w.heap.size, 0, .bool b1), (w.heap.size, 1, .slice pA nA cA)] [] wr := ⟨e0, e1, e4, e5, e8, e9, grown_refl _ _⟩
        clear e0 e1 e2 e3 e4 e5 e6 e7 e8 e9 e10 e11 G
        go_region_held3 (fun w' => w'.cell? ⟨w2.heap.size, 0, none⟩ = some (.slice p (dig 10000 (zw).natAbs).length c) ∧ w'.cell? ⟨w2.heap.size, 1, none⟩ = some (.bool (decide (zw < 0))) ∧ w'.cell? ⟨w1.heap.size, 0, none⟩ = some (.slice pz (dig 10000 (zz).natAbs).length cz) ∧ w'.cell? ⟨w1.heap.size, 1, none⟩ = some (.bool (decide (zz < 0))) ∧ w'.cell? ⟨w.heap.size, 0, none⟩ = some (.bool b1) ∧ w'.cell? ⟨w.heap.size, 1, none⟩ = some (.slice pA nA cA) ∧ wr.grownBy w' none) (first | exact Kept.step (W := wr) [(w2.heap.size, 0, .slice p (dig 10000 (zw).natAbs).length c), (w2.heap.size, 1, .bool (decide (zw < 0))), (w1.heap.size, 0, .slice pz (dig 10000 (zz).natAbs).length cz), (w1.heap.size, 1, .bool (decide (zz < 0))), (w.heap.size, 0, .bool b1), (w.heap.size, 1, .slice pA nA cA)] [] (by assumption) (by assumption) | exact Kept.step (W := wr) [(w2.heap.size, 0, .slice p (dig 10000 (zw).natAbs).length c), (w2.heap.size, 1, .bool (decide (zw < 0))), (w1.heap.size, 0, .slice pz (dig 10000 (zz).natAbs).length cz), (w1.heap.size, 1, .bool (decide (zz < 0))), (w.heap.size, 0, .bool b1), (w.heap.size, 1, .slice pA nA cA)] [] (grown_alloc _ _ _) (by assumption) | exact Kept.step (W := wr) [(w2.heap.size, 0, .slice p (dig 10000 (zw).natAbs).length c), (w2.heap.size, 1, .bool (decide (zw < 0))), (w1.heap.size, 0, .slice pz (dig 10000 (zz).natAbs).length cz), (w1.heap.size, 1, .bool (decide (zz < 0))), (w.heap.size, 0, .bool b1), (w.heap.size, 1, .slice pA nA cA)] [] (grown_drew _ _) S0)
          (first | (go_at_call 28; (with_reducible refine (wakes_true _).mono ?_); rintro e w' ⟨rfl, hg⟩) | (go_at_call 14; (with_reducible refine (Is_l (DW'.out.grown (by go_split_ands; assumption)) k7 n2).mono ?_); rintro e w' ⟨rfl, hg⟩; clear n2) | (go_at_call 40; (with_reducible refine (Gcd_i (RZ.out.grown (by go_split_ands; assumption)) k7).mono ?_); rintro e w' ⟨v, rfl, h, bd, hg⟩; rw [HL.out, ← Z.out] at h; have n2 := h.nor; clear h bd))
        all_goals (rename_i hend; have g := hend.2.2.2.2.2.2; replace S := S.step _ g; clear g hend S0; go_wp2_with fail; go_ret; exact ⟨rfl, S.all⟩)
    · have k1 : ¬ (i : Int) < (n : Int) := by omega
      have RZ := Lib.hid (OZ.out.rowZ NU.out)
      clear OZ NU KW
      have k7 : 7 ≤ 1000000 := by omega
      obtain ⟨e0, e1, e2, e3, e4, e5, e6, e7, e8, e9, e10, e11, G⟩ := id S
      go_wp2_with fail
      clear e0 e1 e2 e3 e4 e5 e6 e7 e8 e9 e10 e11 G
      obtain ⟨e0, e1, e2, e3, e4, e5, e6, e7, e8, e9, e10, e11, G⟩ := id S
      have S0 : Kept wr [(w2.heap.size, 0, .slice p (dig 10000 (zw).natAbs).length c), (w2.heap.size, 1, .bool (decide (zw < 0))), (w1.heap.size, 0, .slice pz (dig 10000 (zz).natAbs).length cz), (w1.heap.size, 1, .bool (decide (zz < 0))), (w.heap.size, 0, .bool b1), (w.heap.size, 1, .slice pA nA cA)] [] wr := ⟨e0, e1, e4, e5, e8, e9, grown_refl _ _⟩
      clear e0 e1 e2 e3 e4 e5 e6 e7 e8 e9 e10 e11 G
      go_region_held3 (fun w' => w'.cell? ⟨w2.heap.size, 0, none⟩ = some (.slice p (dig 10000 (zw).natAbs).length c) ∧ w'.cell? ⟨w2.heap.size, 1, none⟩ = some (.bool (decide (zw < 0))) ∧ w'.cell? ⟨w1.heap.size, 0, none⟩ = some (.slice pz (dig 10000 (zz).natAbs).length cz) ∧ w'.cell? ⟨w1.heap.size, 1, none⟩ = some (.bool (decide (zz < 0))) ∧ w'.cell? ⟨w.heap.size, 0, none⟩ = some (.bool b1) ∧ w'.cell? ⟨w.heap.size, 1, none⟩ = some (.slice pA nA cA) ∧ wr.grownBy w' none) (first | exact Kept.step (W := wr) [(w2.heap.size, 0, .slice p (dig 10000 (zw).natAbs).length c), (w2.heap.size, 1, .bool (decide (zw < 0))), (w1.heap.size, 0, .slice pz (dig 10000 (zz).natAbs).length cz), (w1.heap.size, 1, .bool (decide (zz < 0))), (w.heap.size, 0, .bool b1), (w.heap.size, 1, .slice pA nA cA)] [] (by assumption) (by assumption) | exact Kept.step (W := wr) [(w2.heap.size, 0, .slice p (dig 10000 (zw).natAbs).length c), (w2.heap.size, 1, .bool (decide (zw < 0))), (w1.heap.size, 0, .slice pz (dig 10000 (zz).natAbs).length cz), (w1.heap.size, 1, .bool (decide (zz < 0))), (w.heap.size, 0, .bool b1), (w.heap.size, 1, .slice pA nA cA)] [] (grown_alloc _ _ _) (by assumption) | exact Kept.step (W := wr) [(w2.heap.size, 0, .slice p (dig 10000 (zw).natAbs).length c), (w2.heap.size, 1, .bool (decide (zw < 0))), (w1.heap.size, 0, .slice pz (dig 10000 (zz).natAbs).length cz), (w1.heap.size, 1, .bool (decide (zz < 0))), (w.heap.size, 0, .bool b1), (w.heap.size, 1, .slice pA nA cA)] [] (grown_drew _ _) S0)
        (first | (go_at_call 28; (with_reducible refine (wakes_true _).mono ?_); rintro e w' ⟨rfl, hg⟩) | (go_at_call 14; (with_reducible refine (Is_l (DW'.out.grown (by go_split_ands; assumption)) k7 n2).mono ?_); rintro e w' ⟨rfl, hg⟩; clear n2) | (go_at_call 40; (with_reducible refine (Gcd_i (RZ.out.grown (by go_split_ands; assumption)) k7).mono ?_); rintro e w' ⟨v, rfl, h, bd, hg⟩; rw [HL.out, ← Z.out] at h; have n2 := h.nor; clear h bd))
      all_goals (rename_i hend; have g := hend.2.2.2.2.2.2; replace S := S.step _ g; clear g hend S0; go_wp2_with fail; go_ret; exact ⟨rfl, S.all⟩)

set_option maxRecDepth 100000 in
theorem lifted (os : Os) (started : os.Started) (H : Type) (enc : TypeId × Value → H) :
    ReturnsInHanded {} Try.checked os 7 .any (Rows.wholeGcdsSpec.pre6 enc Try.prog Try.f7 Rows.wholeGcdsRow.domain false) (Rows.wholeGcdsSpec.post enc Try.prog Try.f7 false true false false) := by
  refine returnsInHanded_of_change (C := Try.checked) Try.own started (by kernel_rfl) Try.func7
    (ChangeSpec.witness6 (enc := enc) (C := Try.checked) false ⟨#[], #[.slice none 0 0, .agg #[.bool false, .slice none 0 0]], []⟩ 8 (by kernel_rfl) (by kernel_rfl) (by kernel_rfl) (by kernel_rfl)) ?_
  intro W base args ds gs before hval0 hW _ _
  have hval : ∀ (j : Nat) t v, Try.f7.params[j]? = some t → args[j]? = some v → Value.okWide Try.prog W .any base t v := hval0
  obtain ⟨p, q, hA0, hV, rfl, _, _⟩ := id hW
  have hA : DataW.TrodAll enc Try.prog W 0 (fun _ => true) true Try.f7.params.toList args.toList ds p := hA0
  rw [Try.params7] at hA hval
  obtain ⟨v0, vs0, d0, ds0, p0, q0, hargs, rfl, rfl, h0, r0⟩ := trodAll_cons hA
  obtain ⟨v1, vs1, d1, ds1, p1, q1, rfl, rfl, rfl, h1, r1⟩ := trodAll_cons r0
  obtain ⟨rfl, rfl, rfl⟩ := trodAll_nil r1
  obtain rfl : args = #[v0, v1] := by cases args; simp_all
  obtain ⟨m0, q0, s0⟩ := ints_of_trod h0 (hval 0 43 v0 rfl rfl)
  obtain ⟨b1, w1, xs1, rfl, s1, a1⟩ := int_of_trod h1 (hval 1 24 v1 rfl rfl)
  refine (walk s0 s1 a1).mono fun e W' ⟨he, hg⟩ => ?_
  subst he
  refine ⟨_, rfl, law_post Try.laidOut rfl (by kernel_rfl) Try.underlying4 ?_ ?_ hW hg⟩
  · rw [Try.params7]; decide +kernel
  · rw [Try.params7]
    intro ds h
    match ds, h with
    | [_, _], _ => rfl

theorem holds : Rows.WholeGcdsSaid :=
  OpenClaim.holds_of_wide 7 Try.f7 rfl rfl rfl rfl rfl rfl rfl ⟨rfl, rfl, rfl, rfl, rfl⟩ rfl rfl rfl rfl rfl (by kernel_rfl) Try.func7 (by kernel_rfl)
    (of_decide_eq_true (by kernel_rfl)) (by unfold Func.isWrapper; first | (rw [if_pos (by decide +kernel)]; kernel_rfl) | (rw [if_neg (by decide +kernel)]; exact ⟨rfl, rfl⟩))
    (fun os started H enc _ => lifted os started H enc)

end Go.Proofs.Ytmmmpdpgkjcohaa.gcds
