/- Package whole: Product of a row of whole numbers. -/
import Derived.Test.YtmkplojojaopmaaRowsI
import Derived.Test.YtmkplojojaopmaaPows
namespace Go.Proofs.Ytmkplojojaopmaa
open Go.RowKit

/-- The product of the first ones. -/
def prodZ (zs : Nat → Int) : Nat → Int
  | 0 => 1
  | n + 1 => prodZ zs n * zs n
set_option maxRecDepth 100000 in
set_option maxHeartbeats 4000000 in
theorem Product_i {v : Value} {n k : Nat} {zs : Nat → Int} {w : World} (hv : RowZ w v n zs k) (hk : 2 + k * n + k ≤ 500000) :
    Calls Try.prog 13 #[v] w (MadeI w (prodZ zs n) (2 + k * n)) := by
  obtain ⟨p0, cap0, rfl, h1, h2, h3⟩ := hv
  have S : Bx w [(w.heap.size, .bool false, .slice none 0 0)] (w.alloc (.cells #[.bool false, .slice none 0 0] 30)) := (Bx.start w).box _ _ _ _ rfl
  have H3 := Lib.hid h3
  have Hk := Lib.hid hk
  clear h3 hk
  go_enter Try.func13, Try.ntmps13
  go_wp2_with fail
  with_reducible refine (Of_i 1 _ (by omega) (by omega)).mono ?_
  rintro e w1 ⟨v1, rfl, h1o, b1, g1⟩
  obtain ⟨z1, hz1⟩ : ∃ z : Int, 1 = z := ⟨_, rfl⟩
  rw [hz1] at h1o b1
  obtain ⟨p1, c1, rfl, h1'⟩ := id h1o
  have Nb := Lib.hid (show (Value.slice p1 (dig 4294967296 (z1).natAbs).length c1).ownBlock ≠ some w1.heap.size from fun e => by have := (OwnI.lt h1o _ e).2; omega)
  have N1 := Lib.hid (show OwnI w1 (w.heap.size + 1) _ z1 from OwnI.mono h1o (by simp))
  have B1 := Lib.hid b1
  replace S := S.step _ g1
  have y0 := S.lt (g := w.heap.size) (x := .bool false) (y := .slice none 0 0) (by simp)
  replace S := S.box w1.heap.size (.bool (decide (z1 < 0))) (.slice p1 (dig 4294967296 (z1).natAbs).length c1) 30 rfl
  replace N1 := Lib.hid (N1.out.grown (grown_alloc w1 (.cells #[.bool (decide (z1 < 0)), .slice p1 (dig 4294967296 (z1).natAbs).length c1] 30) none))
  have Hz1 := Lib.hid hz1
  clear h1o h1' g1 b1 hz1
  go_wp2_with fail
  go_loopw [9] (fun iv wr => ∃ (j : Nat) (z : Int) (p : Option Addr) (c : Nat), j ≤ n ∧ iv = .int .i64 (j : Int) ∧ Hid (z = prodZ zs j) ∧ Hid (Bd z.natAbs (2 + k * j)) ∧
    Hid (Bx w [(w1.heap.size, .bool (decide (z < 0)), .slice p (dig 4294967296 (z).natAbs).length c), (w.heap.size, .bool false, .slice none 0 0)] wr) ∧
    Hid (OwnI wr (w.heap.size + 1) (.agg #[.bool (decide (z < 0)), .slice p (dig 4294967296 (z).natAbs).length c]) z) ∧ Hid ((Value.slice p (dig 4294967296 (z).natAbs).length c).ownBlock ≠ some w1.heap.size)) (fun iv _ => n - (intOf iv).toNat)
  case atStart => exact ⟨0, z1, p1, c1, Nat.zero_le _, rfl, Hz1.out.symm, B1.out, S, N1.out, Nb.out⟩
  case round =>
    obtain ⟨j, z, p, c, hj, rfl, Z, BZ, S1, O1, B2⟩ := hrel
    have hS := S1.out
    clear S Nb N1
    by_cases hlt : j < n
    · have i1 : (j : Int) < (n : Int) := by omega
      rcases H3.out with h3 | ⟨b, off, rfl, hc⟩
      · omega
      obtain ⟨x, s, X, c0, c1', hn, hzj⟩ := hc j hlt
      replace c0 := cell_grown hS.all c0
      replace c1' := cell_grown hS.all c1'
      obtain ⟨ps, ns, cs, rfl⟩ := hn.slice
      have Vj := Lib.hid (show IntV wr (.agg #[.bool x, .slice ps ns cs]) (zs j) k from ⟨x, _, X, rfl, hn.grown hS.all, hzj⟩)
      have hkj : k * j + k ≤ k * n := by rw [← Nat.mul_succ]; exact Nat.mul_le_mul_left k hlt
      have kk : 2 + k * j + k ≤ 1000000 := by have := Hk.out; omega
      have Kk := Lib.hid kk
      have Hkj := Lib.hid (show 2 + k * (j + 1) = 2 + k * j + k by rw [Nat.mul_succ]; omega)
      have Nz := Lib.hid (O1.out.intV BZ.out)
      clear hc hn hzj hkj kk
      have u0 := hS.lt (g := w1.heap.size) (x := .bool (decide (z < 0))) (y := .slice p (dig 4294967296 (z).natAbs).length c) (by simp)
      have S2 := Bx.box wr.heap.size (.bool x) (.slice ps ns cs) 30 hS rfl
      replace Vj := Lib.hid (Vj.out.grown (grown_alloc wr (.cells #[.bool x, .slice ps ns cs] 30) none))
      replace Nz := Lib.hid (Nz.out.grown (grown_alloc wr (.cells #[.bool x, .slice ps ns cs] 30) none))
      obtain ⟨e0, e1, e2, e3, e4, e5, e6, e7, G⟩ := id hS
      obtain ⟨f0, f1, f2, f3, f4, f5, f6, f7, f8, f9, f10, f11, G2⟩ := id S2
      clear hS e2 e3 e6 e7 G f2 f3 f6 f7 f10 f11 G2
      go_wp2_with fail
      with_reducible refine (Mul_i Nz.out Vj.out Kk.out).mono ?_
      rintro e w3 ⟨v3, rfl, ho, b3, g3⟩
      obtain ⟨z2, hz2⟩ : ∃ z2, z * zs j = z2 := ⟨_, rfl⟩
      rw [hz2] at ho b3
      have Z2 := Lib.hid (show z2 = prodZ zs (j + 1) by rw [← hz2, Z.out]; rfl)
      have B3 := Lib.hid (show Bd z2.natAbs (2 + k * (j + 1)) by rw [Hkj.out]; exact b3)
      obtain ⟨p2, c2, rfl, h2'⟩ := id ho
      have g13 := grown_trans (grown_alloc wr (.cells #[.bool x, .slice ps ns cs] 30) none) g3
      have sz3 := g3.size
      simp only [World.size_alloc] at sz3
      have sl1 := S1.out.all.size
      have S3 := S1.out.step _ g13
      have Nb2 : (Value.slice p2 (dig 4294967296 (z2).natAbs).length c2).ownBlock ≠ some w1.heap.size := fun e => by have := (ho.lt _ e).1; simp only [World.size_alloc] at this; omega
      have O2 := (ownI_set2 (g := w1.heap.size) (x := .bool (decide (z2 < 0))) (y := .slice p2 (dig 4294967296 (z2).natAbs).length c2) ho Nb2).mono (show w.heap.size + 1 ≤ _ by simp only [World.size_alloc]; omega)
      have S4 := S3.put (g := w1.heap.size) (u := .bool (decide (z2 < 0))) (v := .slice p2 (dig 4294967296 (z2).natAbs).length c2) (x := .bool (decide (z < 0))) (y := .slice p (dig 4294967296 (z).natAbs).length c) (bs' := [(w.heap.size, .bool false, .slice none 0 0)]) (by simp) (by simp) (by simp <;> omega) (by omega)
      have N2 := Lib.hid Nb2
      have HS4 := Lib.hid S4
      have HO2 := Lib.hid O2
      clear h2' hz2 Nb2 S4 O2 ho Nz Vj S1 O1 B2 BZ b3 Kk Hkj g13 S2 f0 f1 f4 f5 f8 f9 e0 e1 e4 e5
      obtain ⟨e0, e1, e2, e3, e4, e5, e6, e7, G⟩ := id S3
      go_wp2_with fail
      go_roundw
      case rel => exact ⟨j + 1, z2, p2, c2, by omega, by go_num, Z2.out, B3.out, HS4.out, HO2.out, N2.out⟩
      case measure => simp [intOf] <;> omega
    · obtain rfl : j = n := by omega
      have S2 := hS.put (g := w.heap.size) (u := .bool (decide (z < 0))) (v := .slice p (dig 4294967296 (z).natAbs).length c) (x := .bool false) (y := .slice none 0 0) (bs' := []) (by simp) (by simp) (by simp) (by omega)
      have O2 := ownI_set2 (g := w.heap.size) (x := .bool (decide (z < 0))) (y := .slice p (dig 4294967296 (z).natAbs).length c) O1.out (fun e => by have := (O1.out.lt _ e).1; omega)
      obtain ⟨e0, e1, e2, e3, e4, e5, e6, e7, G⟩ := id hS
      clear hS
      go_wp2_with fail
      refine post_box24 Try.results13 rfl rfl S2.1 S2.2.1 ⟨_, rfl, ?_, ?_, S2.all⟩
      · rw [← Z.out]; exact O2.mono (by omega)
      · rw [← Z.out]; exact BZ.out

end Go.Proofs.Ytmkplojojaopmaa
