/- Ratio's functions by the symbolic walk. The reference's rationals: Quo, Make. The reference's Make, by the symbolic walk. The reference's rationals, what comes in, copies and checks, by the symbolic walk. -/
import Derived.Test.YteblgmjpociffaaSymS
import Derived.Test.YteblgmjpociffaaRats
namespace Go.Proofs.Yteblgmjpociffaa.Sym
open Go.RowKit
section
variable {Φ : Nat → World → Value → Prop}
/-- .. its sign told. -/
def QVb (w : World) (v : Value) (b : Bool) (z y : Int) (k : Nat) : Prop := ∃ s b' s', v = .agg #[.bool b, s, .bool b', s'] ∧ Num w s z.natAbs k ∧ z = sg b z.natAbs ∧ IntV w (.agg #[.bool b', s']) y k
theorem QVb.kp {w w' : World} {v : Value} {b : Bool} {z y : Int} {k : Nat} (h : QVb w v b z y k) (g : Kp w w') : QVb w' v b z y k := by
  obtain ⟨s, b', s', h1, h2, h3, h4⟩ := h
  exact ⟨s, b', s', h1, h2.kp g, h3, h4.kp g⟩
theorem QVb.is {w : World} {v : Value} {b : Bool} {z y : Int} {k : Nat} (h : QVb w v b z y k) : (CSh.agg [.lit (.cb b), .s, .b, .s]).is v := by
  obtain ⟨s, b', s', rfl, h1, h2, h3⟩ := h
  obtain ⟨p, n, c, rfl⟩ := h1.slice
  obtain ⟨b2, p', n', c', e, h3⟩ := h3.open
  simp only [Value.agg.injEq, Array.mk.injEq, List.cons.injEq, Value.bool.injEq, and_true] at e
  obtain ⟨rfl, rfl⟩ := e
  exact ⟨[_, _, _, _], rfl, rfl, ⟨_, _, _, rfl⟩, ⟨_, rfl⟩, ⟨_, _, _, rfl⟩, trivial⟩
theorem QVb.num {w : World} {v : Value} {b : Bool} {z y : Int} {k : Nat} (h : QVb w v b z y k) : Num w (subV 1 1 v) z.natAbs k := by
  obtain ⟨s, b', s', rfl, h1, h2, h3⟩ := h; exact h1
theorem QVb.snd {w : World} {v : Value} {b : Bool} {z y : Int} {k : Nat} (h : QVb w v b z y k) : IntV w (subV 2 2 v) y k := by
  obtain ⟨s, b', s', rfl, h1, h2, h3⟩ := h; exact h3
end
end Go.Proofs.Yteblgmjpociffaa.Sym

namespace Go.Proofs.Yteblgmjpociffaa
open Go.RowKit

theorem decI_mk {w : World} {X k cap n : Nat} {p : Option Addr} {z : Int} {c : Bool} (b : Bool) (h : Dec w (.slice p n cap) X k) (hn : n = (dig 10000 X).length) (hz : z = sg b X) (hc : c = (b && decide (0 < n))) : DecI w (.agg #[.slice p n cap, .bool c]) z k := by
  subst hn hz hc
  refine ⟨p, cap, ?_, ?_⟩
  · rw [sg_neg, sg_abs, dig_some _ _ (by omega)]
  · rw [sg_abs]; exact h
theorem DecI.flag {w : World} {p : Option Addr} {n c k : Nat} {b : Bool} {z : Int} (h : DecI w (.agg #[.slice p n c, .bool b]) z k) : b = decide (z < 0) ∧ n = (dig 10000 z.natAbs).length := by
  obtain ⟨p', c', e, -⟩ := h
  simp only [Value.agg.injEq, Array.mk.injEq, List.cons.injEq, Value.bool.injEq, Value.slice.injEq, and_true] at e
  exact ⟨e.2, e.1.2.1⟩
/-- One digit, in memory. -/
def Cel (w : World) (blk off : Nat) (x : Int) : Prop := w.cell? ⟨blk, off, none⟩ = some (.int .i64 x)
theorem Cel.kp {w w' : World} {blk off : Nat} {x : Int} (h : Cel w blk off x) (g : Kp w w') : Cel w' blk off x := g.2 _ _ _ h
theorem dig_len_one {X : Nat} (h : (dig 10000 X).length = 1) : 0 < X ∧ X < 10000 := by
  have h1 := dig_lt_pow (b := 10000) (by omega) X
  rw [h] at h1
  refine ⟨?_, by omega⟩
  rcases Nat.eq_zero_or_pos X with rfl | h2
  · have := (dig_len_zero (b := 10000) (by omega) (n := 0)).2 rfl; omega
  · exact h2
theorem DecI.one {w : World} {p : Option Addr} {c k : Nat} {b : Bool} {z : Int} (h : DecI w (.agg #[.slice p 1 c, .bool b]) z k) : ∃ blk off, p = some ⟨blk, off, none⟩ ∧ Cel w blk off (z.natAbs : Nat) := by
  obtain ⟨-, hn⟩ := h.flag
  obtain ⟨p', c', e, h2⟩ := h
  simp only [Value.agg.injEq, Array.mk.injEq, List.cons.injEq, Value.bool.injEq, Value.slice.injEq, and_true] at e
  obtain ⟨⟨rfl, -, rfl⟩, -⟩ := e
  obtain ⟨q, c2, e2, -, -, h3⟩ := h2.1
  simp only [Value.slice.injEq, true_and] at e2
  obtain ⟨rfl, rfl⟩ := e2
  have hx := dig_len_one hn.symm
  rcases h3 with h3 | ⟨blk, off, rfl, -, h3⟩
  · rw [h3] at hn; cases hn
  · refine ⟨blk, off, rfl, ?_⟩
    have := h3 0 (by omega)
    rw [dig_small (by omega) hx.1 hx.2] at this
    exact this
theorem num_one (z : Int) : (Rat.divInt z 1).num = z := by rw [Rat.num_divInt]; simp
theorem den_one (z : Int) : ((Rat.divInt z 1).den : Int) = 1 := by rw [Rat.den_divInt]; simp
theorem byOf_pos {z y : Int} (h : 0 < y) : byOf z y = (Int.gcd z y : Int) := by rw [byOf, if_neg (by omega)]

set_option maxHeartbeats 4000000 in
set_option maxRecDepth 100000 in
theorem Quo_d {b b' : Bool} {p q : Option Addr} {n m cap cap' X Y i j : Nat} {w : World} (hx : Dec w (.slice p n cap) X i) (hy : Dec w (.slice q m cap') Y j) (hi : i + j ≤ 900000) (hY : 0 < Y) :
    Calls Try.prog 63 #[.agg #[.slice p n cap, .bool b], .agg #[.slice q m cap', .bool b']] w (GotD w (sg (b != b') (X / Y)) i) := by
  have Hx := Lib.hid hx
  have Hy := Lib.hid hy
  have S0 : Kept w [(w.heap.size + 1, 0, (.slice q m cap')), (w.heap.size + 1, 1, (.bool b')), (w.heap.size, 0, (.slice p n cap)), (w.heap.size, 1, (.bool b))] [w.heap.size + 1 + 1] (((w.alloc (.cells #[.slice p n cap, .bool b] 45)).alloc (.cells #[.slice q m cap', .bool b'] 45)).alloc (.cells #[.slice none 0 0, .bool false] 45)) := (((Kept.start w).box _ _ _ _ rfl).box _ _ _ _ (by simp)).res _ _ _ _ _ (by simp)
  clear hx hy
  go_enter Try.func63, Try.ntmps63
  go_wp2_with fail
  refine (DivD_n (Hx.out.grown (Kept.all _ _ S0)) (Hy.out.grown (Kept.all _ _ S0)) (by omega) hY).mono ?_
  rintro e w1 ⟨vq, vr, rfl, hq, hr, bq, br, hg⟩
  obtain ⟨pq, cq, rfl⟩ := hq.slice
  obtain ⟨pr, cr, rfl⟩ := hr.slice
  have Hq := Lib.hid hq
  have Bq := Lib.hid bq
  replace S0 := Kept.grown _ _ S0 hg
  have s2 := S0.lt (g := w.heap.size + 1 + 1) (by simp)
  clear hg hq hr bq br
  obtain ⟨l, hl⟩ : ∃ l, (dig 10000 (X / Y)).length = l := ⟨_, rfl⟩
  rw [hl] at Hq
  rw [hl]
  have Hl := Lib.hid hl
  clear hl
  obtain ⟨c0, c1, c2, c3, r0, r1, f0, f1, G⟩ := id S0
  go_wp2_with fail
  refine (made_any _ _ _ _ _).mono ?_
  rintro e w2 ⟨rfl, hg⟩
  replace S0 := Kept.grown _ _ S0 hg
  replace Hq := Lib.hid (Hq.out.grown hg (.inl rfl))
  clear hg c0 c1 c2 c3 r0 r1 f0 f1 G
  obtain ⟨c0, c1, c2, c3, r0, r1, f0, f1, G⟩ := id S0
  go_wp2_with fail
  have G2 := Kept.all _ _ (Kept.set (g := w.heap.size + 1 + 1) (u := .slice pq l cq) (v := .bool ((b != b') && decide (0 < l))) _ _ (by simp <;> omega) (by omega) S0)
  refine post_D Try.results63 rfl rfl (set2_fst r0) (set2_snd r1) (GotD.mk (decI_mk (b != b') (X := X / Y) ?_ Hl.out.symm rfl rfl) G2)
  exact ⟨(Hq.out.grown (set2_grown _ _ _ _) (own_ne Hq.out (by first | omega | (simp <;> omega)))).sl, Bq.out⟩
set_option maxHeartbeats 4000000 in
set_option maxRecDepth 100000 in
theorem Quo_h {v u : Value} {z y t : Int} {i j : Nat} {w : World} (hx : DecI w v z i) (hy : DecI w u y j) (hi : i + j ≤ 900000) (h0 : y ≠ 0) (hd : y ∣ z) (ht : z / y = t) :
    Calls Try.prog 63 #[v, u] w (GotD w t i) := by
  subst ht
  obtain ⟨b, p, n, cap, X, rfl, dx, rfl⟩ := hx.open
  obtain ⟨b', q, m, cap', Y, rfl, dy, rfl⟩ := hy.open
  have hY : Y ≠ 0 := by rintro rfl; exact h0 (by cases b' <;> rfl)
  have hR : X % Y = 0 := by
    have := Int.natAbs_dvd_natAbs.2 hd
    rw [sg_abs, sg_abs] at this
    exact Nat.mod_eq_zero_of_dvd this
  rw [(div_plain (b := b) (b' := b') hY (.inr hR)).1]
  exact Quo_d dx dy hi (Nat.pos_of_ne_zero hY)

end Go.Proofs.Yteblgmjpociffaa

namespace Go.Proofs.Yteblgmjpociffaa.Sym
open Go.RowKit
/-- The digits of a number, as cells. -/
def dgF (y : Int) (i : Nat) (_ : World) (v : Value) : Prop := v = .agg #[.int .i64 ((nth (dig 10000 y.natAbs) i : Nat) : Int)]
theorem DecI.arr {w : World} {v : Value} {y : Int} {k n : Nat} (h : DecI w v y k) (h0 : y ≠ 0) (hl : (dig 10000 y.natAbs).length = n) : Arr 1 (dgF y) n w (subV 0 1 v) := by
  subst hl
  obtain ⟨p, c, rfl, h2⟩ := h
  obtain ⟨q, c2, e2, -, -, h3⟩ := h2.1
  simp only [Value.slice.injEq, true_and] at e2
  obtain ⟨rfl, rfl⟩ := e2
  rcases h3 with h3 | ⟨b, off, rfl, -, h3⟩
  · have := (dig_len_zero (b := 10000) (by omega) (n := y.natAbs)).1 (by rw [h3]; rfl)
    omega
  · refine ⟨_, _, rfl, fun i hi => ⟨b, off, rfl, [.int .i64 ((nth (dig 10000 y.natAbs) i : Nat) : Int)], rfl, fun j u hj => ?_, rfl⟩⟩
    have h4 := h3 i hi
    match j, hj with
    | 0, hj =>
      simp only [List.getElem?_cons_zero, Option.some.injEq] at hj
      subst hj
      rw [Nat.mul_one, Nat.add_zero]
      exact h4
theorem DecI.isA {w : World} {v : Value} {y : Int} {k : Nat} {b : Bool} (h : DecI w v y k) (hb : decide (y < 0) = b) : (CSh.agg [.s, .lit (.cb b)]).is v := by
  obtain ⟨p, c, rfl, -⟩ := h
  exact ⟨_, rfl, ⟨_, _, _, rfl⟩, by rw [hb]; rfl, trivial⟩
section
variable {P : Program} {Φ : Nat → World → Value → Prop} {X : Nat → Prop} {p q x x2 i j n : Nat} {z y t : Int} {w w' : World} {e : Ending}
theorem one_outA {sh : CSh} {u : Value} {G : World → Value → Prop} {w : World} (hs : sh.is u) (hx : Φ x = G) (h : ∀ w1, Off X w w1 → G w1 u) : outsOk Φ X w [⟨sh, [(0, 0, x)]⟩] [u] := ⟨⟨hs, fun r hr w1 hw => by
  simp only [List.mem_singleton] at hr; subst hr
  show Φ x w1 _; rw [hx]; exact h w1 hw⟩, trivial⟩
theorem qLoadD {T : TypeId} (hT : aggOf P T = some false) (hp : ∀ w v, Φ p w v → Ptr 1 (dgF y 0) w v) (hx : Φ x = fun _ v => v = .int .i64 ((nth (dig 10000 y.natAbs) 0 : Nat) : Int)) : SiteOk Φ P ⟨0, [.fact p], [⟨.one .i, [(0, 0, x)]⟩], .quiet (mLoad T)⟩ := fun X w ac o xs _ hm ha => by
  unfold mLoad at hm
  split at hm
  case h_2 => cases hm
  rename_i t y ho
  split at hm
  case isFalse => cases hm
  rename_i ht
  subst ht
  simp only [Option.some.injEq] at hm
  subst hm
  obtain ⟨b, off, hv, l, h1, h2, h3⟩ := hp _ _ (ha.1 w (Off.refl _ _))
  have h3 : Value.agg l.toArray = .agg #[.int .i64 _] := h3
  obtain rfl : l = [.int .i64 _] := by simpa using h3
  have hc := h2 0 _ rfl
  refine ⟨.int .i64 _, w, ?_, grown_refl w none, one_outA ⟨⟨_, rfl⟩, fun _ h => by cases h⟩ hx fun _ _ => rfl⟩
  rw [Nat.add_zero] at hc
  unfold execOp
  simp [ho, hv, Instr.loadAt, Instr.sureAddr, loadVar, run_isAgg hT, hc]
theorem pstA (hx : Φ x = fun w v => DecI w v t i) (hx2 : Φ x2 = fun w v => Arr 1 (dgF t) n w v) (h0 : 0 < t) (hl : (dig 10000 t.natAbs).length = n) (h : GotD w t i e w') : post Φ X [⟨.agg [.s, .lit (.cb false)], [(0, 0, x), (0, 1, x2)]⟩] false w e w' := by
  obtain ⟨s, m, c, b, rfl, h1, h2⟩ := h
  obtain rfl : b = false := h1.flag.1.trans (decide_eq_false (by omega))
  refine ⟨h2, [_], rfl, ⟨⟨_, rfl, ⟨_, _, _, rfl⟩, rfl, trivial⟩, fun q hq w1 hw => ?_⟩, trivial⟩
  have h' := DecI.kp h1 hw.1
  simp only [List.mem_cons, List.not_mem_nil, or_false] at hq
  rcases hq with rfl | rfl
  · show Φ x w1 _; rw [hx]; exact h'
  · show Φ x2 w1 _; rw [hx2]; exact DecI.arr h' (by omega) hl
theorem tNegA (hp : ∀ w v, Φ p w v → DecI w v z i) (hx : Φ x = fun w v => DecI w v (-z) i) (hx2 : Φ x2 = fun w v => Arr 1 (dgF (-z)) n w v) (h0 : z < 0) (hl : (dig 10000 (-z).natAbs).length = n) : SiteOk Φ Try.prog ⟨61, [.fact p], [⟨.agg [.s, .lit (.cb false)], [(0, 0, x), (0, 1, x2)]⟩], false⟩ :=
  site1 fun _ _ _ h1 => (Neg_h (hp _ _ (get h1)) rfl).mono fun _ _ h => pstA hx hx2 (by omega) hl h
theorem tOfA (hx : Φ x = fun w v => DecI w v 1 2) (hx2 : Φ x2 = fun w v => Arr 1 (dgF 1) 1 w v) : SiteOk Φ Try.prog ⟨28, [.lit (.ci .i64 1)], [⟨.agg [.s, .lit (.cb false)], [(0, 0, x), (0, 1, x2)]⟩], false⟩ :=
  site1 fun _ _ v h1 => by
    obtain rfl : v = .int .i64 1 := h1
    exact (Of_h 1 (by decide) (by decide) rfl).mono fun _ _ h => pstA hx hx2 (by decide) (by decide +kernel) h
theorem tQuo (hp : ∀ w v, Φ p w v → DecI w v z i) (hq : ∀ w v, Φ q w v → DecI w v y j) (hx : Φ x = fun w v => DecI w v t i) (hi : i + j ≤ 900000) (h0' : y ≠ 0) (h1' : y ∣ z) (ht : z / y = t) : SiteOk Φ Try.prog ⟨63, [.fact p, .fact q], [⟨dS, [(0, 0, x)]⟩], false⟩ :=
  site2 fun _ _ _ _ h0 h1 => (Quo_h (hp _ _ (get h0)) (hq _ _ (get h1)) hi h0' h1' ht).mono fun _ _ h => pstD hx h
/-- Two halves, the second one's sign told. -/
theorem halvesA {b : Bool} {p1 p2 : Nat} (h : ∀ w v, sS.is v → Φ p1 w (subV 0 2 v) → Φ p2 w (subV 2 2 v) → Φ x w v) (X : Nat → Prop) (w : World) (v : Value) (hv : (CSh.agg [.s, .b, .s, .lit (.cb b)]).is v ∧ ∀ q, q ∈ [(0, 2, p1), (2, 2, p2)] → ∀ w1, Off X w w1 → Φ q.2.2 w1 (subV q.1 q.2.1 v)) : sS.is v ∧ ∀ q, q ∈ [(0, 0, x)] → ∀ w1, Off X w w1 → Φ q.2.2 w1 (subV q.1 q.2.1 v) := by
  have hs : sS.is v := by
    obtain ⟨vs, rfl, h⟩ := hv.1
    match vs, h with
    | [v0, v1, v2, v3], h =>
      obtain ⟨h0, h1, h2, h3, _⟩ := h
      exact ⟨_, rfl, h0, h1, h2, ⟨_, h3⟩, trivial⟩
  exact ⟨hs, fun q hq w1 hw => by
    simp only [List.mem_singleton] at hq
    subst hq
    exact h w1 _ hs (hv.2 (0, 2, p1) (by simp) w1 hw) (hv.2 (2, 2, p2) (by simp) w1 hw)⟩
theorem dig_self {m : Nat} (hl : (dig 10000 m).length = 1) : nth (dig 10000 m) 0 = m := by
  have h := dig_len_one hl
  rw [dig_small (by omega) h.1 h.2]; rfl
theorem qOf_z (h0 : y = 0) : qOf z y = Rat.divInt z 1 := by rw [qOf, if_pos h0]
theorem qOf_n (h0 : y < 0) : qOf z y = Rat.divInt (-z) (-y) := by rw [qOf_ne (by omega), Rat.neg_divInt_neg]
theorem oneN_z (h0 : y = 0) : z = (qOf z y).num := by rw [qOf_z h0, num_one]
theorem oneD_z (h0 : y = 0) : (1 : Int) = ((qOf z y).den : Int) := by rw [qOf_z h0, den_one]
theorem one_p (h0 : 0 < y) (hl : (dig 10000 y.natAbs).length = 1) (hd : nth (dig 10000 y.natAbs) 0 = 1) : y = 1 := by
  rw [dig_self hl] at hd; omega
theorem oneN_p (h0 : 0 < y) (hl : (dig 10000 y.natAbs).length = 1) (hd : nth (dig 10000 y.natAbs) 0 = 1) : z = (qOf z y).num := by
  rw [one_p h0 hl hd, qOf_ne (by decide), num_one]
theorem oneD_p (h0 : 0 < y) (hl : (dig 10000 y.natAbs).length = 1) (hd : nth (dig 10000 y.natAbs) 0 = 1) : y = ((qOf z y).den : Int) := by
  rw [one_p h0 hl hd, qOf_ne (by decide), den_one]
theorem oneN_n (h0 : y < 0) (hl : (dig 10000 (-y).natAbs).length = 1) (hd : nth (dig 10000 (-y).natAbs) 0 = 1) : -z = (qOf z y).num := by
  rw [qOf_n h0, one_p (by omega) hl hd, num_one]
theorem oneD_n (h0 : y < 0) (hl : (dig 10000 (-y).natAbs).length = 1) (hd : nth (dig 10000 (-y).natAbs) 0 = 1) : -y = ((qOf z y).den : Int) := by
  rw [qOf_n h0, one_p (by omega) hl hd, den_one]
theorem lowN_p (h0 : 0 < y) : z / byOf z y = (qOf z y).num := by rw [qOf_ne (by omega)]; exact num_by (by omega)
theorem lowD_p (h0 : 0 < y) : y / byOf z y = ((qOf z y).den : Int) := by rw [qOf_ne (by omega)]; exact den_by (by omega)
theorem lowN_n (h0 : y < 0) : -z / byOf (-z) (-y) = (qOf z y).num := by rw [qOf_n h0]; exact num_by (by omega)
theorem lowD_n (h0 : y < 0) : -y / byOf (-z) (-y) = ((qOf z y).den : Int) := by rw [qOf_n h0]; exact den_by (by omega)
def phi_mk_z_one (z y : Int) (t : Rat) (i j : Nat) : List (World → Value → Prop) := [fun w v => DecI w v z i, fun w v => DecI w v y j, fun w v => DecI w v 1 2, fun w v => Arr 1 (dgF (1 : Int)) 1 w v, fun w v => Ptr 1 ((dgF (1 : Int)) 0) w v, fun _ v => v = .int .i64 ((nth (dig 10000 (1 : Int).natAbs) 0 : Nat) : Int), fun w v => DecQ w v t (i + j + 2)]
def ins_mk_z_one : List Out := [⟨.agg [.s, .b], [(0, 0, 0)]⟩, ⟨.agg [.s, .b], [(0, 0, 1)]⟩]
def ss_mk_z_one : List Site := [⟨35, [.fact 1], [⟨.one (.lit (.cb true)), []⟩], false⟩,
      ⟨28, [.lit (.ci .i64 1)], [⟨.agg [.s, .lit (.cb false)], [(0, 0, 2), (0, 1, 3)]⟩], false⟩,
      ⟨0, [.fact 3], [⟨.one (.lit (.ci .i64 1)), []⟩], .quiet (mLen 43)⟩,
      ⟨0, [.fact 3, .lit (.ci .i64 0)], [⟨.one (.p), [(0, 0, 4)]⟩], .quiet (mIdx 43)⟩,
      ⟨0, [.fact 4], [⟨.one (.i), [(0, 0, 5)]⟩], .quiet (mLoad 3)⟩,
      ⟨0, [.fact 5, .lit (.ci .i64 1)], [⟨.one (.lit (.cb true)), []⟩], .quiet (mBin .eql)⟩]
set_option maxRecDepth 100000 in
theorem mk_z_one {z y : Int} {t : Rat} {i j : Nat} (_hk : i + j ≤ 200000) (h0 : y = 0) (ht : qOf z y = t) : SiteOk (ph (phi_mk_z_one z y t i j)) Try.prog ⟨26, [.fact 0, .fact 1], [⟨sS, [(0, 0, 6)]⟩], false⟩ := by
  skip
  exact fn_ok ins_mk_z_one [⟨.agg [.s, .b, .s, .lit (.cb false)], [(0, 2, 0), (2, 2, 2)]⟩] ss_mk_z_one Try.func26 (by kernel_rfl)
    (all_cons (tZero dD (decide_eq_true h0))
      (all_cons (tOfA rfl rfl)
      (all_cons (qLenC (n := 1) (sz := 1) (F := (dgF (1 : Int))) rfl Try.underlying43 (fun _ _ h => h))
      (all_cons (qIdxC (n := 1) (sz := 1) 0 (F := (dgF (1 : Int))) Try.underlying43 (by kernel_rfl) (fun _ _ h => h) rfl (by decide) rfl)
      (all_cons (qLoadD (by kernel_rfl) (fun _ _ h => h) rfl)
      (all_cons (qTestC (op := .eql) (fun _ _ h => h) (fun t w => by rw [← show decide (((nth (dig 10000 (1 : Int).natAbs) 0 : Nat) : Int) = 1) = true from (by decide +kernel)]; rfl))
      all_nil))))))
    (ins_ok [.fact 0 (.agg [.s, .b]), .fact 1 (.agg [.s, .b])] ⟨fun _ _ h => DecI.is h, fun _ _ h => DecI.is h, trivial⟩) (out1 (halvesA fun _ _ hs h1 h2 => DecQ.join hs (DecI.more (DecI.eqz h1 (by rw [← ht]; exact oneN_z h0)) (by omega)) (DecI.more (DecI.eqz h2 (by rw [← ht]; exact oneD_z h0)) (by omega))))

def phi_mk_p_one (z y : Int) (t : Rat) (i j : Nat) : List (World → Value → Prop) := [fun w v => DecI w v z i, fun w v => DecI w v y j, fun w v => Arr 1 (dgF y) 1 w v, fun w v => Ptr 1 ((dgF y) 0) w v, fun _ v => v = .int .i64 ((nth (dig 10000 y.natAbs) 0 : Nat) : Int), fun w v => DecQ w v t (i + j + 2)]
def ins_mk_p_one : List Out := [⟨.agg [.s, .b], [(0, 0, 0)]⟩, ⟨.agg [.s, .lit (.cb false)], [(0, 0, 1), (0, 1, 2)]⟩]
def ss_mk_p_one : List Site := [⟨35, [.fact 1], [⟨.one (.lit (.cb false)), []⟩], false⟩,
      ⟨0, [.fact 2], [⟨.one (.lit (.ci .i64 1)), []⟩], .quiet (mLen 43)⟩,
      ⟨0, [.fact 2, .lit (.ci .i64 0)], [⟨.one (.p), [(0, 0, 3)]⟩], .quiet (mIdx 43)⟩,
      ⟨0, [.fact 3], [⟨.one (.i), [(0, 0, 4)]⟩], .quiet (mLoad 3)⟩,
      ⟨0, [.fact 4, .lit (.ci .i64 1)], [⟨.one (.lit (.cb true)), []⟩], .quiet (mBin .eql)⟩]
set_option maxRecDepth 100000 in
theorem mk_p_one {z y : Int} {t : Rat} {i j : Nat} (_hk : i + j ≤ 200000) (h0 : 0 < y) (ht : qOf z y = t) (hl : (dig 10000 y.natAbs).length = 1) (hd : nth (dig 10000 y.natAbs) 0 = 1) : SiteOk (ph (phi_mk_p_one z y t i j)) Try.prog ⟨26, [.fact 0, .fact 1], [⟨sS, [(0, 0, 5)]⟩], false⟩ := by
  have hp : 0 < y := h0
  exact fn_ok ins_mk_p_one [⟨.agg [.s, .b, .s, .lit (.cb false)], [(0, 2, 0), (2, 2, 1)]⟩] ss_mk_p_one Try.func26 (by kernel_rfl)
    (all_cons (tZero dD (decide_eq_false (by omega)))
      (all_cons (qLenC (n := 1) (sz := 1) (F := (dgF y)) rfl Try.underlying43 (fun _ _ h => h))
      (all_cons (qIdxC (n := 1) (sz := 1) 0 (F := (dgF y)) Try.underlying43 (by kernel_rfl) (fun _ _ h => h) rfl (by decide) rfl)
      (all_cons (qLoadD (by kernel_rfl) (fun _ _ h => h) rfl)
      (all_cons (qTestC (op := .eql) (fun _ _ h => h) (fun t w => by rw [← show decide (((nth (dig 10000 y.natAbs) 0 : Nat) : Int) = 1) = true from decide_eq_true (by rw [hd]; rfl)]; rfl))
      all_nil)))))
    (ins_ok [.fact 0 (.agg [.s, .b]), .sub 1 (.agg [.s, .lit (.cb false)]) [(0, 1, 2)]] ⟨fun _ _ h => DecI.is h, ⟨fun _ _ h => DecI.isA h (decide_eq_false (by omega)), fun _ _ h => DecI.arr h (by omega) hl, trivial⟩, trivial⟩) (out1 (halvesA fun _ _ hs h1 h2 => DecQ.join hs (DecI.more (DecI.eqz h1 (by rw [← ht]; exact oneN_p h0 hl hd)) (by omega)) (DecI.more (DecI.eqz h2 (by rw [← ht]; exact oneD_p h0 hl hd)) (by omega))))

def phi_mk_p_digit (z y : Int) (t : Rat) (i j : Nat) : List (World → Value → Prop) := [fun w v => DecI w v z i, fun w v => DecI w v y j, fun w v => Arr 1 (dgF y) 1 w v, fun w v => Ptr 1 ((dgF y) 0) w v, fun _ v => v = .int .i64 ((nth (dig 10000 y.natAbs) 0 : Nat) : Int), fun w v => DecI w v (byOf z y) (i + j), fun w v => DecI w v (z / (byOf z y)) i, fun w v => DecI w v (y / (byOf z y)) j, fun w v => DecQ w v t (i + j + 2)]
def ins_mk_p_digit : List Out := [⟨.agg [.s, .b], [(0, 0, 0)]⟩, ⟨.agg [.s, .lit (.cb false)], [(0, 0, 1), (0, 1, 2)]⟩]
def ss_mk_p_digit : List Site := [⟨35, [.fact 1], [⟨.one (.lit (.cb false)), []⟩], false⟩,
      ⟨0, [.fact 2], [⟨.one (.lit (.ci .i64 1)), []⟩], .quiet (mLen 43)⟩,
      ⟨0, [.fact 2, .lit (.ci .i64 0)], [⟨.one (.p), [(0, 0, 3)]⟩], .quiet (mIdx 43)⟩,
      ⟨0, [.fact 3], [⟨.one (.i), [(0, 0, 4)]⟩], .quiet (mLoad 3)⟩,
      ⟨0, [.fact 4, .lit (.ci .i64 1)], [⟨.one (.lit (.cb false)), []⟩], .quiet (mBin .eql)⟩,
      ⟨62, [.fact 0, .fact 1], [⟨.agg [.s, .b], [(0, 0, 5)]⟩], false⟩,
      ⟨63, [.fact 0, .fact 5], [⟨.agg [.s, .b], [(0, 0, 6)]⟩], false⟩,
      ⟨63, [.fact 1, .fact 5], [⟨.agg [.s, .b], [(0, 0, 7)]⟩], false⟩]
set_option maxRecDepth 100000 in
theorem mk_p_digit {z y : Int} {t : Rat} {i j : Nat} (hk : i + j ≤ 200000) (h0 : 0 < y) (ht : qOf z y = t) (hl : (dig 10000 y.natAbs).length = 1) (h1 : nth (dig 10000 y.natAbs) 0 ≠ 1) : SiteOk (ph (phi_mk_p_digit z y t i j)) Try.prog ⟨26, [.fact 0, .fact 1], [⟨sS, [(0, 0, 8)]⟩], false⟩ := by
  have hp : 0 < y := h0
  exact fn_ok ins_mk_p_digit [⟨.agg [.s, .b, .s, .b], [(0, 2, 6), (2, 2, 7)]⟩] ss_mk_p_digit Try.func26 (by kernel_rfl)
    (all_cons (tZero dD (decide_eq_false (by omega)))
      (all_cons (qLenC (n := 1) (sz := 1) (F := (dgF y)) rfl Try.underlying43 (fun _ _ h => h))
      (all_cons (qIdxC (n := 1) (sz := 1) 0 (F := (dgF y)) Try.underlying43 (by kernel_rfl) (fun _ _ h => h) rfl (by decide) rfl)
      (all_cons (qLoadD (by kernel_rfl) (fun _ _ h => h) rfl)
      (all_cons (qTestC (op := .eql) (fun _ _ h => h) (fun t w => by rw [← show decide (((nth (dig 10000 y.natAbs) 0 : Nat) : Int) = 1) = false from decide_eq_false (by omega)]; rfl))
      (all_cons (tGcd (i + j) dD dD rfl (by omega) (by omega) (by omega) (byOf_pos hp).symm)
      (all_cons (tQuo dD dD rfl (by omega) (byOf_ne (by omega)) (byOf_dvd_n _ _) rfl)
      (all_cons (tQuo dD dD rfl (by omega) (byOf_ne (by omega)) (byOf_dvd_d _ _) rfl)
      all_nil))))))))
    (ins_ok [.fact 0 (.agg [.s, .b]), .sub 1 (.agg [.s, .lit (.cb false)]) [(0, 1, 2)]] ⟨fun _ _ h => DecI.is h, ⟨fun _ _ h => DecI.isA h (decide_eq_false (by omega)), fun _ _ h => DecI.arr h (by omega) hl, trivial⟩, trivial⟩) (out1 (halves fun _ _ hs h1 h2 => DecQ.join hs (DecI.more (DecI.eqz h1 (by rw [← ht]; exact lowN_p h0)) (by omega)) (DecI.more (DecI.eqz h2 (by rw [← ht]; exact lowD_p h0)) (by omega))))

def phi_mk_p_long (z y : Int) (t : Rat) (i j n : Nat) : List (World → Value → Prop) := [fun w v => DecI w v z i, fun w v => DecI w v y j, fun w v => Arr 1 (dgF y) n w v, fun _ v => v = .int .i64 ((n : Nat) : Int), fun w v => DecI w v (byOf z y) (i + j), fun w v => DecI w v (z / (byOf z y)) i, fun w v => DecI w v (y / (byOf z y)) j, fun w v => DecQ w v t (i + j + 2)]
def ins_mk_p_long : List Out := [⟨.agg [.s, .b], [(0, 0, 0)]⟩, ⟨.agg [.s, .lit (.cb false)], [(0, 0, 1), (0, 1, 2)]⟩]
def ss_mk_p_long : List Site := [⟨35, [.fact 1], [⟨.one (.lit (.cb false)), []⟩], false⟩,
      ⟨0, [.fact 2], [⟨.one (.i), [(0, 0, 3)]⟩], .quiet (mLen 43)⟩,
      ⟨0, [.fact 3, .lit (.ci .i64 1)], [⟨.one (.lit (.cb false)), []⟩], .quiet (mBin .eql)⟩,
      ⟨62, [.fact 0, .fact 1], [⟨.agg [.s, .b], [(0, 0, 4)]⟩], false⟩,
      ⟨63, [.fact 0, .fact 4], [⟨.agg [.s, .b], [(0, 0, 5)]⟩], false⟩,
      ⟨63, [.fact 1, .fact 4], [⟨.agg [.s, .b], [(0, 0, 6)]⟩], false⟩]
set_option maxRecDepth 100000 in
theorem mk_p_long {z y : Int} {t : Rat} {i j n : Nat} (hk : i + j ≤ 200000) (h0 : 0 < y) (ht : qOf z y = t) (hl : (dig 10000 y.natAbs).length = n) (hl1 : n ≠ 1)  : SiteOk (ph (phi_mk_p_long z y t i j n)) Try.prog ⟨26, [.fact 0, .fact 1], [⟨sS, [(0, 0, 7)]⟩], false⟩ := by
  have hp : 0 < y := h0
  exact fn_ok ins_mk_p_long [⟨.agg [.s, .b, .s, .b], [(0, 2, 5), (2, 2, 6)]⟩] ss_mk_p_long Try.func26 (by kernel_rfl)
    (all_cons (tZero dD (decide_eq_false (by omega)))
      (all_cons (qLen (sz := 1) (n := n) (F := (dgF y)) Try.underlying43 (fun _ _ h => h) rfl)
      (all_cons (qTestC (op := .eql) (fun _ _ h => h) (fun t w => by rw [← show decide (((n : Nat) : Int) = 1) = false from decide_eq_false (by omega)]; rfl))
      (all_cons (tGcd (i + j) dD dD rfl (by omega) (by omega) (by omega) (byOf_pos hp).symm)
      (all_cons (tQuo dD dD rfl (by omega) (byOf_ne (by omega)) (byOf_dvd_n _ _) rfl)
      (all_cons (tQuo dD dD rfl (by omega) (byOf_ne (by omega)) (byOf_dvd_d _ _) rfl)
      all_nil))))))
    (ins_ok [.fact 0 (.agg [.s, .b]), .sub 1 (.agg [.s, .lit (.cb false)]) [(0, 1, 2)]] ⟨fun _ _ h => DecI.is h, ⟨fun _ _ h => DecI.isA h (decide_eq_false (by omega)), fun _ _ h => DecI.arr h (by omega) hl, trivial⟩, trivial⟩) (out1 (halves fun _ _ hs h1 h2 => DecQ.join hs (DecI.more (DecI.eqz h1 (by rw [← ht]; exact lowN_p h0)) (by omega)) (DecI.more (DecI.eqz h2 (by rw [← ht]; exact lowD_p h0)) (by omega))))

def phi_mk_n_one (z y : Int) (t : Rat) (i j : Nat) : List (World → Value → Prop) := [fun w v => DecI w v z i, fun w v => DecI w v y j, fun w v => DecI w v (-z) i, fun w v => DecI w v (-y) j, fun w v => Arr 1 (dgF (-y)) 1 w v, fun w v => Ptr 1 ((dgF (-y)) 0) w v, fun _ v => v = .int .i64 ((nth (dig 10000 (-y).natAbs) 0 : Nat) : Int), fun w v => DecQ w v t (i + j + 2)]
def ins_mk_n_one : List Out := [⟨.agg [.s, .b], [(0, 0, 0)]⟩, ⟨.agg [.s, .lit (.cb true)], [(0, 0, 1)]⟩]
def ss_mk_n_one : List Site := [⟨35, [.fact 1], [⟨.one (.lit (.cb false)), []⟩], false⟩,
      ⟨61, [.fact 0], [⟨.agg [.s, .b], [(0, 0, 2)]⟩], false⟩,
      ⟨61, [.fact 1], [⟨.agg [.s, .lit (.cb false)], [(0, 0, 3), (0, 1, 4)]⟩], false⟩,
      ⟨0, [.fact 4], [⟨.one (.lit (.ci .i64 1)), []⟩], .quiet (mLen 43)⟩,
      ⟨0, [.fact 4, .lit (.ci .i64 0)], [⟨.one (.p), [(0, 0, 5)]⟩], .quiet (mIdx 43)⟩,
      ⟨0, [.fact 5], [⟨.one (.i), [(0, 0, 6)]⟩], .quiet (mLoad 3)⟩,
      ⟨0, [.fact 6, .lit (.ci .i64 1)], [⟨.one (.lit (.cb true)), []⟩], .quiet (mBin .eql)⟩]
set_option maxRecDepth 100000 in
theorem mk_n_one {z y : Int} {t : Rat} {i j : Nat} (_hk : i + j ≤ 200000) (h0 : y < 0) (ht : qOf z y = t) (hl : (dig 10000 (-y).natAbs).length = 1) (hd : nth (dig 10000 (-y).natAbs) 0 = 1) : SiteOk (ph (phi_mk_n_one z y t i j)) Try.prog ⟨26, [.fact 0, .fact 1], [⟨sS, [(0, 0, 7)]⟩], false⟩ := by
  have hp : 0 < -y := by omega
  exact fn_ok ins_mk_n_one [⟨.agg [.s, .b, .s, .lit (.cb false)], [(0, 2, 2), (2, 2, 3)]⟩] ss_mk_n_one Try.func26 (by kernel_rfl)
    (all_cons (tZero dD (decide_eq_false (by omega)))
      (all_cons (tNeg dD rfl rfl)
      (all_cons (tNegA dD rfl rfl h0 hl)
      (all_cons (qLenC (n := 1) (sz := 1) (F := (dgF (-y))) rfl Try.underlying43 (fun _ _ h => h))
      (all_cons (qIdxC (n := 1) (sz := 1) 0 (F := (dgF (-y))) Try.underlying43 (by kernel_rfl) (fun _ _ h => h) rfl (by decide) rfl)
      (all_cons (qLoadD (by kernel_rfl) (fun _ _ h => h) rfl)
      (all_cons (qTestC (op := .eql) (fun _ _ h => h) (fun t w => by rw [← show decide (((nth (dig 10000 (-y).natAbs) 0 : Nat) : Int) = 1) = true from decide_eq_true (by rw [hd]; rfl)]; rfl))
      all_nil)))))))
    (ins_ok [.fact 0 (.agg [.s, .b]), .fact 1 (.agg [.s, .lit (.cb true)])] ⟨fun _ _ h => DecI.is h, fun _ _ h => DecI.isA h (decide_eq_true (by omega)), trivial⟩) (out1 (halvesA fun _ _ hs h1 h2 => DecQ.join hs (DecI.more (DecI.eqz h1 (by rw [← ht]; exact oneN_n h0 hl hd)) (by omega)) (DecI.more (DecI.eqz h2 (by rw [← ht]; exact oneD_n h0 hl hd)) (by omega))))

def phi_mk_n_digit (z y : Int) (t : Rat) (i j : Nat) : List (World → Value → Prop) := [fun w v => DecI w v z i, fun w v => DecI w v y j, fun w v => DecI w v (-z) i, fun w v => DecI w v (-y) j, fun w v => Arr 1 (dgF (-y)) 1 w v, fun w v => Ptr 1 ((dgF (-y)) 0) w v, fun _ v => v = .int .i64 ((nth (dig 10000 (-y).natAbs) 0 : Nat) : Int), fun w v => DecI w v (byOf (-z) (-y)) (i + j), fun w v => DecI w v ((-z) / (byOf (-z) (-y))) i, fun w v => DecI w v ((-y) / (byOf (-z) (-y))) j, fun w v => DecQ w v t (i + j + 2)]
def ins_mk_n_digit : List Out := [⟨.agg [.s, .b], [(0, 0, 0)]⟩, ⟨.agg [.s, .lit (.cb true)], [(0, 0, 1)]⟩]
def ss_mk_n_digit : List Site := [⟨35, [.fact 1], [⟨.one (.lit (.cb false)), []⟩], false⟩,
      ⟨61, [.fact 0], [⟨.agg [.s, .b], [(0, 0, 2)]⟩], false⟩,
      ⟨61, [.fact 1], [⟨.agg [.s, .lit (.cb false)], [(0, 0, 3), (0, 1, 4)]⟩], false⟩,
      ⟨0, [.fact 4], [⟨.one (.lit (.ci .i64 1)), []⟩], .quiet (mLen 43)⟩,
      ⟨0, [.fact 4, .lit (.ci .i64 0)], [⟨.one (.p), [(0, 0, 5)]⟩], .quiet (mIdx 43)⟩,
      ⟨0, [.fact 5], [⟨.one (.i), [(0, 0, 6)]⟩], .quiet (mLoad 3)⟩,
      ⟨0, [.fact 6, .lit (.ci .i64 1)], [⟨.one (.lit (.cb false)), []⟩], .quiet (mBin .eql)⟩,
      ⟨62, [.fact 2, .fact 3], [⟨.agg [.s, .b], [(0, 0, 7)]⟩], false⟩,
      ⟨63, [.fact 2, .fact 7], [⟨.agg [.s, .b], [(0, 0, 8)]⟩], false⟩,
      ⟨63, [.fact 3, .fact 7], [⟨.agg [.s, .b], [(0, 0, 9)]⟩], false⟩]
set_option maxRecDepth 100000 in
theorem mk_n_digit {z y : Int} {t : Rat} {i j : Nat} (hk : i + j ≤ 200000) (h0 : y < 0) (ht : qOf z y = t) (hl : (dig 10000 (-y).natAbs).length = 1) (h1 : nth (dig 10000 (-y).natAbs) 0 ≠ 1) : SiteOk (ph (phi_mk_n_digit z y t i j)) Try.prog ⟨26, [.fact 0, .fact 1], [⟨sS, [(0, 0, 10)]⟩], false⟩ := by
  have hp : 0 < -y := by omega
  exact fn_ok ins_mk_n_digit [⟨.agg [.s, .b, .s, .b], [(0, 2, 8), (2, 2, 9)]⟩] ss_mk_n_digit Try.func26 (by kernel_rfl)
    (all_cons (tZero dD (decide_eq_false (by omega)))
      (all_cons (tNeg dD rfl rfl)
      (all_cons (tNegA dD rfl rfl h0 hl)
      (all_cons (qLenC (n := 1) (sz := 1) (F := (dgF (-y))) rfl Try.underlying43 (fun _ _ h => h))
      (all_cons (qIdxC (n := 1) (sz := 1) 0 (F := (dgF (-y))) Try.underlying43 (by kernel_rfl) (fun _ _ h => h) rfl (by decide) rfl)
      (all_cons (qLoadD (by kernel_rfl) (fun _ _ h => h) rfl)
      (all_cons (qTestC (op := .eql) (fun _ _ h => h) (fun t w => by rw [← show decide (((nth (dig 10000 (-y).natAbs) 0 : Nat) : Int) = 1) = false from decide_eq_false (by omega)]; rfl))
      (all_cons (tGcd (i + j) dD dD rfl (by omega) (by omega) (by omega) (byOf_pos hp).symm)
      (all_cons (tQuo dD dD rfl (by omega) (byOf_ne (by omega)) (byOf_dvd_n _ _) rfl)
      (all_cons (tQuo dD dD rfl (by omega) (byOf_ne (by omega)) (byOf_dvd_d _ _) rfl)
      all_nil))))))))))
    (ins_ok [.fact 0 (.agg [.s, .b]), .fact 1 (.agg [.s, .lit (.cb true)])] ⟨fun _ _ h => DecI.is h, fun _ _ h => DecI.isA h (decide_eq_true (by omega)), trivial⟩) (out1 (halves fun _ _ hs h1 h2 => DecQ.join hs (DecI.more (DecI.eqz h1 (by rw [← ht]; exact lowN_n h0)) (by omega)) (DecI.more (DecI.eqz h2 (by rw [← ht]; exact lowD_n h0)) (by omega))))

def phi_mk_n_long (z y : Int) (t : Rat) (i j n : Nat) : List (World → Value → Prop) := [fun w v => DecI w v z i, fun w v => DecI w v y j, fun w v => DecI w v (-z) i, fun w v => DecI w v (-y) j, fun w v => Arr 1 (dgF (-y)) n w v, fun _ v => v = .int .i64 ((n : Nat) : Int), fun w v => DecI w v (byOf (-z) (-y)) (i + j), fun w v => DecI w v ((-z) / (byOf (-z) (-y))) i, fun w v => DecI w v ((-y) / (byOf (-z) (-y))) j, fun w v => DecQ w v t (i + j + 2)]
def ins_mk_n_long : List Out := [⟨.agg [.s, .b], [(0, 0, 0)]⟩, ⟨.agg [.s, .lit (.cb true)], [(0, 0, 1)]⟩]
def ss_mk_n_long : List Site := [⟨35, [.fact 1], [⟨.one (.lit (.cb false)), []⟩], false⟩,
      ⟨61, [.fact 0], [⟨.agg [.s, .b], [(0, 0, 2)]⟩], false⟩,
      ⟨61, [.fact 1], [⟨.agg [.s, .lit (.cb false)], [(0, 0, 3), (0, 1, 4)]⟩], false⟩,
      ⟨0, [.fact 4], [⟨.one (.i), [(0, 0, 5)]⟩], .quiet (mLen 43)⟩,
      ⟨0, [.fact 5, .lit (.ci .i64 1)], [⟨.one (.lit (.cb false)), []⟩], .quiet (mBin .eql)⟩,
      ⟨62, [.fact 2, .fact 3], [⟨.agg [.s, .b], [(0, 0, 6)]⟩], false⟩,
      ⟨63, [.fact 2, .fact 6], [⟨.agg [.s, .b], [(0, 0, 7)]⟩], false⟩,
      ⟨63, [.fact 3, .fact 6], [⟨.agg [.s, .b], [(0, 0, 8)]⟩], false⟩]
set_option maxRecDepth 100000 in
theorem mk_n_long {z y : Int} {t : Rat} {i j n : Nat} (hk : i + j ≤ 200000) (h0 : y < 0) (ht : qOf z y = t) (hl : (dig 10000 (-y).natAbs).length = n) (hl1 : n ≠ 1)  : SiteOk (ph (phi_mk_n_long z y t i j n)) Try.prog ⟨26, [.fact 0, .fact 1], [⟨sS, [(0, 0, 9)]⟩], false⟩ := by
  have hp : 0 < -y := by omega
  exact fn_ok ins_mk_n_long [⟨.agg [.s, .b, .s, .b], [(0, 2, 7), (2, 2, 8)]⟩] ss_mk_n_long Try.func26 (by kernel_rfl)
    (all_cons (tZero dD (decide_eq_false (by omega)))
      (all_cons (tNeg dD rfl rfl)
      (all_cons (tNegA dD rfl rfl h0 hl)
      (all_cons (qLen (sz := 1) (n := n) (F := (dgF (-y))) Try.underlying43 (fun _ _ h => h) rfl)
      (all_cons (qTestC (op := .eql) (fun _ _ h => h) (fun t w => by rw [← show decide (((n : Nat) : Int) = 1) = false from decide_eq_false (by omega)]; rfl))
      (all_cons (tGcd (i + j) dD dD rfl (by omega) (by omega) (by omega) (byOf_pos hp).symm)
      (all_cons (tQuo dD dD rfl (by omega) (byOf_ne (by omega)) (byOf_dvd_n _ _) rfl)
      (all_cons (tQuo dD dD rfl (by omega) (byOf_ne (by omega)) (byOf_dvd_d _ _) rfl)
      all_nil))))))))
    (ins_ok [.fact 0 (.agg [.s, .b]), .fact 1 (.agg [.s, .lit (.cb true)])] ⟨fun _ _ h => DecI.is h, fun _ _ h => DecI.isA h (decide_eq_true (by omega)), trivial⟩) (out1 (halves fun _ _ hs h1 h2 => DecQ.join hs (DecI.more (DecI.eqz h1 (by rw [← ht]; exact lowN_n h0)) (by omega)) (DecI.more (DecI.eqz h2 (by rw [← ht]; exact lowD_n h0)) (by omega))))
end
end Go.Proofs.Yteblgmjpociffaa.Sym
namespace Go.Proofs.Yteblgmjpociffaa
theorem Sym.mkArgs {Φ : Nat → World → Value → Prop} {v u : Value} {z y : Int} {i j : Nat} {w : World} (h0 : Φ 0 = fun w v => DecI w v z i) (h1 : Φ 1 = fun w v => DecI w v y j) (hx : DecI w v z i) (hy : DecI w u y j) : Sym.argsOk Φ (fun _ => False) w [.fact 0, .fact 1] [v, u] :=
  ⟨Sym.arg_kp h0 (fun _ _ _ g h => DecI.kp h g) hx, Sym.arg_kp h1 (fun _ _ _ g h => DecI.kp h g) hy, trivial⟩
theorem Make_h {v u : Value} {z y : Int} {t : Rat} {i j : Nat} {w : World} (hx : DecI w v z i) (hy : DecI w u y j) (hk : i + j ≤ 200000) (ht : qOf z y = t) : Calls Try.prog 26 #[v, u] w (GotS w t (i + j + 2)) := by
  rcases Int.lt_trichotomy y 0 with h | h | h
  · by_cases hl : (dig 10000 (-y).natAbs).length = 1
    · by_cases hd : nth (dig 10000 (-y).natAbs) 0 = 1
      · exact Sym.backS (Sym.mk_n_one hk h ht hl hd) rfl (vs := [v, u]) (Sym.mkArgs rfl rfl hx hy)
      · exact Sym.backS (Sym.mk_n_digit hk h ht hl hd) rfl (vs := [v, u]) (Sym.mkArgs rfl rfl hx hy)
    · exact Sym.backS (Sym.mk_n_long hk h ht rfl hl) rfl (vs := [v, u]) (Sym.mkArgs rfl rfl hx hy)
  · exact Sym.backS (Sym.mk_z_one hk h ht) rfl (vs := [v, u]) (Sym.mkArgs rfl rfl hx hy)
  · by_cases hl : (dig 10000 y.natAbs).length = 1
    · by_cases hd : nth (dig 10000 y.natAbs) 0 = 1
      · exact Sym.backS (Sym.mk_p_one hk h ht hl hd) rfl (vs := [v, u]) (Sym.mkArgs rfl rfl hx hy)
      · exact Sym.backS (Sym.mk_p_digit hk h ht hl hd) rfl (vs := [v, u]) (Sym.mkArgs rfl rfl hx hy)
    · exact Sym.backS (Sym.mk_p_long hk h ht rfl hl) rfl (vs := [v, u]) (Sym.mkArgs rfl rfl hx hy)
end Go.Proofs.Yteblgmjpociffaa

namespace Go.Proofs.Yteblgmjpociffaa.Sym
open Go.RowKit
section
variable {Φ : Nat → World → Value → Prop}
theorem den_ne' (q : Rat) : (q.den : Int) ≠ 0 := by have := q.den_nz; omega
theorem _root_.Go.Proofs.Yteblgmjpociffaa.den_ne (q : Rat) : (q.den : Int) ≠ 0 := den_ne' q
theorem _root_.Go.Proofs.Yteblgmjpociffaa.add_ref (q r : Rat) : qOf (q.num * r.den + r.num * q.den) (q.den * r.den) = q + r := by
  rw [qOf_ne (Int.mul_ne_zero (den_ne q) (den_ne r)), ← Rat.divInt_add_divInt _ _ (den_ne q) (den_ne r), Rat.num_divInt_den, Rat.num_divInt_den]
theorem _root_.Go.Proofs.Yteblgmjpociffaa.mul_ref (q r : Rat) : qOf (q.num * r.num) (q.den * r.den) = q * r := by
  rw [qOf_ne (Int.mul_ne_zero (den_ne q) (den_ne r)), ← Rat.divInt_mul_divInt, Rat.num_divInt_den, Rat.num_divInt_den]
theorem tMake {p q x x1 x2 i j : Nat} {z : Int} {y : Int} {t : Rat} (hp : ∀ w v, Φ p w v → DecI w v z i) (hq : ∀ w v, Φ q w v → DecI w v y j) (hx : Φ x = fun w v => DecQ w v t (i + j + 2)) (hx1 : Φ x1 = fun w v => DecI w v t.num (i + j + 2)) (hx2 : Φ x2 = fun w v => DecI w v (t.den : Int) (i + j + 2)) (hk : i + j ≤ 200000) (ht : qOf z y = t) : SiteOk Φ Try.prog ⟨26, [.fact p, .fact q], [⟨sS, [(0, 0, x), (0, 2, x1), (2, 2, x2)]⟩], false⟩ :=
  site2 fun _ _ _ _ h0 h1 => (Make_h (hp _ _ (get h0)) (hq _ _ (get h1)) hk ht).mono fun _ _ h => pstS hx hx1 hx2 h
theorem tOfJ {p x : Nat} {t z : Int} (hp : ∀ w v, Φ p w v → v = .int .i64 z) (hx : Φ x = fun w v => DecI w v t 2) (h1 : -9223372036854775808 ≤ z) (h2 : z ≤ 9223372036854775807) (ht : z = t) : SiteOk Φ Try.prog ⟨28, [.fact p], [⟨dS, [(0, 0, x)]⟩], false⟩ :=
  site1 fun _ w v h0 => by
    obtain rfl := hp _ _ (get h0)
    exact (Of_h z h1 h2 ht).mono fun _ _ h => pstD hx h
def phi_ofr (x y : Int) (t : Rat) : List (World → Value → Prop) := [fun _ v => v = .int .i64 x, fun _ v => v = .int .i64 y, fun w v => DecI w v x 2, fun w v => DecI w v y 2, fun w v => DecQ w v t (2 + 2 + 2), fun w v => DecI w v t.num (2 + 2 + 2), fun w v => DecI w v (t.den : Int) (2 + 2 + 2)]
def ins_ofr : List Out := [⟨.one (.i), [(0, 0, 0)]⟩, ⟨.one (.i), [(0, 0, 1)]⟩]
def ss_ofr : List Site := [⟨28, [.fact 0], [⟨.agg [.s, .b], [(0, 0, 2)]⟩], false⟩,
      ⟨28, [.fact 1], [⟨.agg [.s, .b], [(0, 0, 3)]⟩], false⟩,
      ⟨26, [.fact 2, .fact 3], [⟨.agg [.s, .b, .s, .b], [(0, 0, 4), (0, 2, 5), (2, 2, 6)]⟩], false⟩]
set_option maxRecDepth 100000 in
theorem ofr {x y : Int} {t : Rat} (x1 : -9223372036854775808 ≤ x) (x2 : x ≤ 9223372036854775807) (y1 : -9223372036854775808 ≤ y) (y2 : y ≤ 9223372036854775807) (ht : qOf x y = t) : SiteOk (ph (phi_ofr x y t)) Try.prog ⟨36, [.fact 0, .fact 1], [⟨.agg [.s, .b, .s, .b], [(0, 0, 4)]⟩], false⟩ :=
  fn_ok ins_ofr [⟨.agg [.s, .b, .s, .b], [(0, 0, 4)]⟩] ss_ofr Try.func36 (by kernel_rfl)
    (all_cons (tOfJ (fun _ _ h => h) rfl x1 x2 rfl)
      (all_cons (tOfJ (fun _ _ h => h) rfl y1 y2 rfl)
      (all_cons (tMake dD dD rfl rfl rfl (by omega) ht)
      all_nil)))
    (ins_ok [.fact 0 (.one (.i)), .fact 1 (.one (.i))] ⟨fun _ _ h => ⟨⟨_, h⟩, fun _ e => by rw [h] at e; cases e⟩, fun _ _ h => ⟨⟨_, h⟩, fun _ e => by rw [h] at e; cases e⟩, trivial⟩) (fun _ _ _ h => h)

set_option maxRecDepth 100000 in
theorem _root_.Go.Proofs.Yteblgmjpociffaa.OfR_g (x y : Int) {t : Rat} {w : World} (x1 : -9223372036854775808 ≤ x) (x2 : x ≤ 9223372036854775807) (y1 : -9223372036854775808 ≤ y) (y2 : y ≤ 9223372036854775807) (ht : qOf x y = t) : Calls Try.prog 36 #[.int .i64 x, .int .i64 y] w (GotS w t 6) := by
  exact backS (ofr x1 x2 y1 y2 ht) rfl (vs := [.int .i64 x, .int .i64 y]) ⟨fun _ _ => rfl, fun _ _ => rfl, trivial⟩
theorem tOfR {x x1 x2 : Nat} {z y : Int} {t : Rat} (hx : Φ x = fun w v => DecQ w v t 6) (hx1 : Φ x1 = fun w v => DecI w v t.num 6) (hx2 : Φ x2 = fun w v => DecI w v (t.den : Int) 6) (z1 : -9223372036854775808 ≤ z) (z2 : z ≤ 9223372036854775807) (y1 : -9223372036854775808 ≤ y) (y2 : y ≤ 9223372036854775807) (ht : qOf z y = t) : SiteOk Φ Try.prog ⟨36, [.lit (.ci .i64 z), .lit (.ci .i64 y)], [⟨sS, [(0, 0, x), (0, 2, x1), (2, 2, x2)]⟩], false⟩ :=
  site2 fun _ w v u h0 h1 => by
    obtain rfl : v = .int .i64 z := h0
    obtain rfl : u = .int .i64 y := h1
    exact (OfR_g z y z1 z2 y1 y2 ht).mono fun _ _ h => pstS hx hx1 hx2 h
def phi_addr (q r t : Rat) (i j : Nat) : List (World → Value → Prop) := [fun w v => DecQ w v q i, fun w v => DecI w v q.num i, fun w v => DecI w v (q.den : Int) i, fun w v => DecQ w v r j, fun w v => DecI w v r.num j, fun w v => DecI w v (r.den : Int) j, fun w v => DecI w v (q.num * (r.den : Int)) (i + j), fun w v => DecI w v (r.num * (q.den : Int)) (j + i), fun w v => DecI w v ((q.num * (r.den : Int)) + (r.num * (q.den : Int))) ((i + j) + (j + i) + 1), fun w v => DecI w v ((q.den : Int) * (r.den : Int)) (i + j), fun w v => DecQ w v t (((i + j) + (j + i) + 1) + (i + j) + 2), fun w v => DecI w v t.num (((i + j) + (j + i) + 1) + (i + j) + 2), fun w v => DecI w v (t.den : Int) (((i + j) + (j + i) + 1) + (i + j) + 2), fun w v => DecQ w v t (3 * (i + j) + 3)]
def ins_addr : List Out := [⟨.agg [.s, .b, .s, .b], [(0, 0, 0), (0, 2, 1), (2, 2, 2)]⟩, ⟨.agg [.s, .b, .s, .b], [(0, 0, 3), (0, 2, 4), (2, 2, 5)]⟩]
def ss_addr : List Site := [⟨79, [.fact 1, .fact 5], [⟨.agg [.s, .b], [(0, 0, 6)]⟩], false⟩,
      ⟨79, [.fact 4, .fact 2], [⟨.agg [.s, .b], [(0, 0, 7)]⟩], false⟩,
      ⟨78, [.fact 6, .fact 7], [⟨.agg [.s, .b], [(0, 0, 8)]⟩], false⟩,
      ⟨79, [.fact 2, .fact 5], [⟨.agg [.s, .b], [(0, 0, 9)]⟩], false⟩,
      ⟨26, [.fact 8, .fact 9], [⟨.agg [.s, .b, .s, .b], [(0, 0, 10), (0, 2, 11), (2, 2, 12)]⟩], false⟩]
set_option maxRecDepth 100000 in
theorem addr {q r t : Rat} {i j : Nat} (hk : i + j ≤ 50000) (ht : q + r = t) : SiteOk (ph (phi_addr q r t i j)) Try.prog ⟨43, [.fact 0, .fact 3], [⟨sS, [(0, 0, 13)]⟩], false⟩ :=
  fn_ok ins_addr [⟨.agg [.s, .b, .s, .b], [(0, 0, 10)]⟩] ss_addr Try.func43 (by kernel_rfl)
    (all_cons (tMul dD dD rfl (by omega) rfl)
      (all_cons (tMul dD dD rfl (by omega) rfl)
      (all_cons (tAdd dD dD rfl (by omega) rfl)
      (all_cons (tMul dD dD rfl (by omega) rfl)
      (all_cons (tMake dD dD rfl rfl rfl (by omega) (by rw [← ht, add_ref]))
      all_nil)))))
    (ins_ok [.sub 0 (.agg [.s, .b, .s, .b]) [(0, 2, 1), (2, 2, 2)], .sub 3 (.agg [.s, .b, .s, .b]) [(0, 2, 4), (2, 2, 5)]] ⟨⟨fun _ _ h => DecQ.is h, fun _ _ h => DecQ.fst h, fun _ _ h => DecQ.snd h, trivial⟩, ⟨fun _ _ h => DecQ.is h, fun _ _ h => DecQ.fst h, fun _ _ h => DecQ.snd h, trivial⟩, trivial⟩) (out1 (weak fun _ _ h => DecQ.more h (by omega)))

set_option maxRecDepth 100000 in
theorem _root_.Go.Proofs.Yteblgmjpociffaa.AddR_g {v u : Value} {q r : Rat} {i j : Nat} {w : World} (hx : DecQ w v q i) (hy : DecQ w u r j) {t : Rat} (hk : i + j ≤ 50000) (ht : q + r = t) : Calls Try.prog 43 #[v, u] w (GotS w t (3 * (i + j) + 3)) := by
  exact backS (addr (q := q) (r := r) (i := i) (j := j) hk ht) rfl (vs := [v, u]) ⟨arg_kp rfl (fun _ _ _ g h => DecQ.kp h g) hx, arg_kp rfl (fun _ _ _ g h => DecQ.kp h g) hy, trivial⟩
theorem tAddR {p q x x1 x2 i j : Nat} {z : Rat} {y : Rat} {t : Rat} (hp : ∀ w v, Φ p w v → DecQ w v z i) (hq : ∀ w v, Φ q w v → DecQ w v y j) (hx : Φ x = fun w v => DecQ w v t (3 * (i + j) + 3)) (hx1 : Φ x1 = fun w v => DecI w v t.num (3 * (i + j) + 3)) (hx2 : Φ x2 = fun w v => DecI w v (t.den : Int) (3 * (i + j) + 3)) (hk : i + j ≤ 50000) (ht : z + y = t) : SiteOk Φ Try.prog ⟨43, [.fact p, .fact q], [⟨sS, [(0, 0, x), (0, 2, x1), (2, 2, x2)]⟩], false⟩ :=
  site2 fun _ _ _ _ h0 h1 => (AddR_g (hp _ _ (get h0)) (hq _ _ (get h1)) hk ht).mono fun _ _ h => pstS hx hx1 hx2 h
def phi_mulr (q r t : Rat) (i j : Nat) : List (World → Value → Prop) := [fun w v => DecQ w v q i, fun w v => DecI w v q.num i, fun w v => DecI w v (q.den : Int) i, fun w v => DecQ w v r j, fun w v => DecI w v r.num j, fun w v => DecI w v (r.den : Int) j, fun w v => DecI w v (q.num * r.num) (i + j), fun w v => DecI w v ((q.den : Int) * (r.den : Int)) (i + j), fun w v => DecQ w v t ((i + j) + (i + j) + 2), fun w v => DecI w v t.num ((i + j) + (i + j) + 2), fun w v => DecI w v (t.den : Int) ((i + j) + (i + j) + 2), fun w v => DecQ w v t (2 * (i + j) + 2)]
def ins_mulr : List Out := [⟨.agg [.s, .b, .s, .b], [(0, 0, 0), (0, 2, 1), (2, 2, 2)]⟩, ⟨.agg [.s, .b, .s, .b], [(0, 0, 3), (0, 2, 4), (2, 2, 5)]⟩]
def ss_mulr : List Site := [⟨79, [.fact 1, .fact 4], [⟨.agg [.s, .b], [(0, 0, 6)]⟩], false⟩,
      ⟨79, [.fact 2, .fact 5], [⟨.agg [.s, .b], [(0, 0, 7)]⟩], false⟩,
      ⟨26, [.fact 6, .fact 7], [⟨.agg [.s, .b, .s, .b], [(0, 0, 8), (0, 2, 9), (2, 2, 10)]⟩], false⟩]
set_option maxRecDepth 100000 in
theorem mulr {q r t : Rat} {i j : Nat} (hk : i + j ≤ 50000) (ht : q * r = t) : SiteOk (ph (phi_mulr q r t i j)) Try.prog ⟨50, [.fact 0, .fact 3], [⟨sS, [(0, 0, 11)]⟩], false⟩ :=
  fn_ok ins_mulr [⟨.agg [.s, .b, .s, .b], [(0, 0, 8)]⟩] ss_mulr Try.func50 (by kernel_rfl)
    (all_cons (tMul dD dD rfl (by omega) rfl)
      (all_cons (tMul dD dD rfl (by omega) rfl)
      (all_cons (tMake dD dD rfl rfl rfl (by omega) (by rw [← ht, mul_ref]))
      all_nil)))
    (ins_ok [.sub 0 (.agg [.s, .b, .s, .b]) [(0, 2, 1), (2, 2, 2)], .sub 3 (.agg [.s, .b, .s, .b]) [(0, 2, 4), (2, 2, 5)]] ⟨⟨fun _ _ h => DecQ.is h, fun _ _ h => DecQ.fst h, fun _ _ h => DecQ.snd h, trivial⟩, ⟨fun _ _ h => DecQ.is h, fun _ _ h => DecQ.fst h, fun _ _ h => DecQ.snd h, trivial⟩, trivial⟩) (out1 (weak fun _ _ h => DecQ.more h (by omega)))

set_option maxRecDepth 100000 in
theorem _root_.Go.Proofs.Yteblgmjpociffaa.MulR_g {v u : Value} {q r : Rat} {i j : Nat} {w : World} (hx : DecQ w v q i) (hy : DecQ w u r j) {t : Rat} (hk : i + j ≤ 50000) (ht : q * r = t) : Calls Try.prog 50 #[v, u] w (GotS w t (2 * (i + j) + 2)) := by
  exact backS (mulr (q := q) (r := r) (i := i) (j := j) hk ht) rfl (vs := [v, u]) ⟨arg_kp rfl (fun _ _ _ g h => DecQ.kp h g) hx, arg_kp rfl (fun _ _ _ g h => DecQ.kp h g) hy, trivial⟩
theorem tMulR {p q x x1 x2 i j : Nat} {z : Rat} {y : Rat} {t : Rat} (hp : ∀ w v, Φ p w v → DecQ w v z i) (hq : ∀ w v, Φ q w v → DecQ w v y j) (hx : Φ x = fun w v => DecQ w v t (2 * (i + j) + 2)) (hx1 : Φ x1 = fun w v => DecI w v t.num (2 * (i + j) + 2)) (hx2 : Φ x2 = fun w v => DecI w v (t.den : Int) (2 * (i + j) + 2)) (hk : i + j ≤ 50000) (ht : z * y = t) : SiteOk Φ Try.prog ⟨50, [.fact p, .fact q], [⟨sS, [(0, 0, x), (0, 2, x1), (2, 2, x2)]⟩], false⟩ :=
  site2 fun _ _ _ _ h0 h1 => (MulR_g (hp _ _ (get h0)) (hq _ _ (get h1)) hk ht).mono fun _ _ h => pstS hx hx1 hx2 h
theorem _root_.Go.Proofs.Yteblgmjpociffaa.NorV.nor {w : World} {v : Value} {z : Int} {k : Nat} (h : NorV w v z k) : NorI w v z := h.1
theorem tSame {p q i j : Nat} {z y : Int} {r : Bool} (hp : ∀ w v, Φ p w v → DecI w v z i) (hq : ∀ w v, Φ q w v → NorV w v y j) (hk : i ≤ 1000000) (he : z = y) (hr : true = r) : SiteOk Φ Try.prog ⟨76, [.fact p, .fact q], [⟨.one (.lit (.cb r)), []⟩], false⟩ :=
  site2 fun _ _ _ _ h0 h1 => (hr ▸ Same_r (hp _ _ (get h0)) hk (he ▸ (hq _ _ (get h1)).1)).mono fun _ _ h => pstB h
theorem NorQ.fst {w : World} {v : Value} {q : Rat} {k : Nat} (h : NorQ w v q k) : NorV w (subV 0 2 v) q.num k := by obtain ⟨_, _, _, _, _, _, _, _, rfl, h1, _⟩ := h; exact h1
theorem NorQ.snd {w : World} {v : Value} {q : Rat} {k : Nat} (h : NorQ w v q k) : NorV w (subV 2 2 v) (q.den : Int) k := by obtain ⟨_, _, _, _, _, _, _, _, rfl, _, h2⟩ := h; exact h2
theorem _root_.Go.Proofs.Yteblgmjpociffaa.take_sl {w : World} {p : Option Addr} {cap k m : Nat} {xs : List Nat} (hx : Sl w .u32 (.slice p xs.length cap) xs) (hm : (xs.take k).length = m) : Sl w .u32 (.slice p m cap) (xs.take k) := by
  have := hx.take (min xs.length k) (Nat.min_le_left _ _)
  rw [show xs.take (min xs.length k) = xs.take k by
    rcases Nat.le_total xs.length k with h | h
    · rw [Nat.min_eq_left h, List.take_length, List.take_of_length_le h]
    · rw [Nat.min_eq_right h]] at this
  rw [← hm, List.length_take, Nat.min_comm]
  exact this
theorem RawI.i {w : World} {v : Value} {b : Bool} {xs : List Nat} (k : Nat) (h : RawI w v b xs) (hk : xs.length ≤ k) : IntV w v (sg b (Proofs.Yteblgmjpociffaa.val 4294967296 xs)) k := by
  obtain ⟨s, rfl, h1, h2⟩ := h
  exact ⟨_, _, _, rfl, Num.row h1 h2 k hk, rfl⟩
theorem sKIntR {p x x' : Nat} (k : Nat) {ki z : Int} {b : Bool} {xs : List Nat} (hki : (k : Int) = ki) (hp : ∀ w v, Φ p w v → RawI w v b xs) (hx : Φ x = fun w v => RawI w v b (xs.take k)) (hx' : Φ x' = fun w v => IntV w v z k) (hz : sg b (Proofs.Yteblgmjpociffaa.val 4294967296 (xs.take k)) = z) : SiteOk Φ Try.prog ⟨24, [.fact p, .lit (.ci .i64 ki)], [⟨iS, [(0, 0, x), (0, 0, x')]⟩], false⟩ :=
  site2 fun _ w v u h0 h1 => by
    subst hki
    obtain rfl : u = .int .i64 k := h1
    obtain ⟨s, rfl, a1, a2⟩ := hp _ _ (get h0)
    obtain ⟨p, c, rfl, c1, -⟩ := id a1
    obtain ⟨m, hm⟩ : ∃ m, (xs.take k).length = m := ⟨_, rfl⟩
    refine (Int_k k c1 hm).mono fun e w' ⟨he, g⟩ => ⟨g, [_], he, ⟨iS_is, fun q hq w1 hw => ?_⟩, trivial⟩
    have r : RawI w1 (.agg #[.bool b, .slice p m c]) b (xs.take k) := RawI.kp ⟨_, rfl, (take_sl a1 hm).kp (Kp.of g), a2.take k⟩ hw.1
    simp only [List.mem_cons, List.not_mem_nil, or_false] at hq
    rcases hq with rfl | rfl
    · show Φ x w1 _; rw [hx]; exact r
    · show Φ x' w1 _; rw [hx']; exact hz ▸ RawI.i k r (by rw [List.length_take]; omega)
theorem RawQ.fst {w : World} {v : Value} {b b' : Bool} {xs ys : List Nat} (h : RawQ w v b xs b' ys) : RawI w (subV 0 2 v) b xs := by obtain ⟨s, s', rfl, h1, h2, h3, h4⟩ := h; exact ⟨_, rfl, h1, h2⟩
theorem RawQ.snd {w : World} {v : Value} {b b' : Bool} {xs ys : List Nat} (h : RawQ w v b xs b' ys) : RawI w (subV 2 2 v) b' ys := by obtain ⟨s, s', rfl, h1, h2, h3, h4⟩ := h; exact ⟨_, rfl, h3, h4⟩
theorem RawQ.join {w : World} {v : Value} {b b' : Bool} {xs ys : List Nat} (hs : qS.is v) (h1 : RawI w (subV 0 2 v) b xs) (h2 : RawI w (subV 2 2 v) b' ys) : RawQ w v b xs b' ys := by
  obtain ⟨vs, rfl, h⟩ := hs
  match vs, h with
  | [v0, v1, v2, v3], h =>
    obtain ⟨s, e, a1, a2⟩ := h1
    obtain ⟨s', e', a3, a4⟩ := h2
    have e1 : (Value.agg #[v0, v1]) = .agg #[.bool b, s] := e
    have e2 : (Value.agg #[v2, v3]) = .agg #[.bool b', s'] := e'
    simp only [Value.agg.injEq, Array.mk.injEq, List.cons.injEq, and_true] at e1 e2
    obtain ⟨rfl, rfl⟩ := e1
    obtain ⟨rfl, rfl⟩ := e2
    exact ⟨_, _, rfl, a1, a2, a3, a4⟩
theorem sKIntRJ {p q x x' : Nat} (k : Nat) {z : Int} {b : Bool} {xs : List Nat} (hp : ∀ w v, Φ p w v → RawI w v b xs) (hq : ∀ w v, Φ q w v → v = .int .i64 (k : Int)) (hx : Φ x = fun w v => RawI w v b (xs.take k)) (hx' : Φ x' = fun w v => IntV w v z k) (hz : sg b (Proofs.Yteblgmjpociffaa.val 4294967296 (xs.take k)) = z) : SiteOk Φ Try.prog ⟨24, [.fact p, .fact q], [⟨iS, [(0, 0, x), (0, 0, x')]⟩], false⟩ := fun X w vs hX ha => by
  match vs, ha with
  | [v, u], ha =>
    exact sKIntR k rfl hp hx hx' hz X w [v, u] hX ⟨ha.1, hq _ _ (get ha.2.1), trivial⟩
def SlA (w : World) (v : Value) (xs : List Nat) : Prop := Sl w .u32 v xs ∧ All 4294967296 xs
theorem SlA.kp {w w' : World} {v : Value} {xs : List Nat} (h : SlA w v xs) (g : Kp w w') : SlA w' v xs := ⟨h.1.kp g, h.2⟩
theorem RawI.sl {w : World} {v : Value} {b : Bool} {xs : List Nat} (h : RawI w v b xs) : SlA w (subV 1 1 v) xs := by obtain ⟨s, rfl, h1, h2⟩ := h; exact ⟨h1, h2⟩
end
end Go.Proofs.Yteblgmjpociffaa.Sym
