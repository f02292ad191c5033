/- LimbNoughts holds: for every two slices of limbs and every number the law returns true and leaves them as they were. No condition. -/
import Derived.Test.YtkebkdmdhhpinaaRowKit
import Derived.Test.YtkebkdmdhhpinaaKeepB
namespace Go.Proofs.Ytkebkdmdhhpinaa.noughts
open Go.ChangeShapes Go.WideShapes Go.ChangeAt Go.RowKit

set_option maxHeartbeats 4000000 in
set_option maxRecDepth 100000 in
theorem walk {v1 v2 : Value} {xs ys : List Nat} {w : World} (hx : Sl w .u32 v1 xs) (ax : All 4294967296 xs) (hy : Sl w .u32 v2 ys) (ay : All 4294967296 ys) (n : Int) (_h1 : -9223372036854775808 ≤ n) (_h2 : n ≤ 9223372036854775807) :
    Calls Try.prog 10 #[v1, v2, .int .i64 n] w (Bool_ w true) := by
  obtain ⟨i0, hi, hz0, hz1, hz2⟩ := info_parts Try.infoU
  have Hx := Lib.hid hx
  have Ax := Lib.hid ax
  clear hx ax
  have Hy := Lib.hid hy
  have Ay := Lib.hid ay
  clear hy ay
  go_enter Try.func10, Try.ntmps10
  go_wp2_with fail
  refine (Row_n Hx.out Ax.out 12).mono ?_
  rintro e w1 ⟨a, rfl, h, rfl⟩
  have Na := Lib.hid h
  clear h
  go_wp2_with fail
  refine (Row_n Hy.out Ay.out 12).mono ?_
  rintro e w2 ⟨b, rfl, h, rfl⟩
  have Nb := Lib.hid h
  clear h
  generalize val 4294967296 (xs.take 12) = A at *
  generalize val 4294967296 (ys.take 12) = B at *
  go_wp2_with fail
  refine (Within_any n 4 _ (by omega) (by omega)).mono ?_
  rintro e w3 ⟨k, hk, rfl, rfl⟩
  obtain ⟨la, sla, ala, vla, lla⟩ := Na.out
  have Ala := Lib.hid ala
  have Vla := Lib.hid vla
  have Sla := Lib.hid sla
  clear ala vla sla
  go_wp2_with fail
  refine (Copy_any Sla.out (by omega)).mono ?_
  rintro e w4 ⟨c0, rfl, ho, g⟩
  have Ho := Lib.hid ho
  have hB0 := g.size
  have G0 := Lib.hid g
  clear ho g
  go_wp2_with (at_builtin; refine wp_appendZ rfl _ _ 22 3 rfl 52 i0 (.int .u32 0) .i64 Try.underlying22 Try.underlying3 hi hz0 hz1 (by omega) rfl .u32 rfl _ c0 la k rfl rfl Ho.out hB0 (by omega) ?_; intro c wzc hz gz; have Hz := Lib.hid hz; have Gz := Lib.hid gz; clear hz gz)
  have g := grown_own Gz.out Ho.out G0.out
  have nc : Num wzc c A 16 := ⟨_, Hz.out.sl, Ala.out.app (All.rep (by omega) k), by rw [val_app, val_rep0, Nat.mul_zero, Nat.add_zero]; exact Vla.out, by rw [List.length_append, List.length_replicate]; omega⟩
  clear Ho Hz Gz hB0 G0
  replace Na := Lib.hid (Na.out.grown g)
  replace Nb := Lib.hid (Nb.out.grown g)
  have G := Lib.hid (g)
  have Nc := Lib.hid nc
  clear g nc
  obtain ⟨lb, slb, alb, vlb, llb⟩ := Nb.out
  have Alb := Lib.hid alb
  have Vlb := Lib.hid vlb
  have Slb := Lib.hid slb
  clear alb vlb slb
  go_wp2_with fail
  refine (Copy_any Slb.out (by omega)).mono ?_
  rintro e w5 ⟨d0, rfl, ho, g⟩
  have Ho := Lib.hid ho
  have hB0 := g.size
  have G0 := Lib.hid g
  clear ho g
  go_wp2_with (at_builtin; refine wp_appendZ rfl _ _ 22 3 rfl 52 i0 (.int .u32 0) .i64 Try.underlying22 Try.underlying3 hi hz0 hz1 (by omega) rfl .u32 rfl _ d0 lb 2 rfl rfl Ho.out hB0 (by omega) ?_; intro d wzd hz gz; have Hz := Lib.hid hz; have Gz := Lib.hid gz; clear hz gz)
  have g := grown_own Gz.out Ho.out G0.out
  have nd : Num wzd d B 16 := ⟨_, Hz.out.sl, Alb.out.app (All.rep (by omega) 2), by rw [val_app, val_rep0, Nat.mul_zero, Nat.add_zero]; exact Vlb.out, by rw [List.length_append, List.length_replicate]; omega⟩
  clear Ho Hz Gz hB0 G0
  replace Na := Lib.hid (Na.out.grown g)
  replace Nb := Lib.hid (Nb.out.grown g)
  replace Nc := Lib.hid (Nc.out.grown g)
  replace G := Lib.hid (grown_trans G.out g)
  have Nd := Lib.hid nd
  clear g nd
  have hcase : (A < B ∧ B ≠ 0) ∨ (B ≤ A ∧ B ≠ 0) ∨ (B ≤ A ∧ B = 0) := by omega
  rcases hcase with ⟨hAB, hB⟩ | ⟨hAB, hB⟩ | ⟨hAB, hB⟩
  · have HAB := Lib.hid hAB
    have HB := Lib.hid hB
    clear hAB hB
    go_wp2_with fail
    refine (Sub_no Na.out Nb.out (by omega) HAB.out).mono ?_
    rintro e w6 ⟨rfl, g⟩
    replace Na := Lib.hid (Na.out.grown g)
    replace Nb := Lib.hid (Nb.out.grown g)
    replace Nc := Lib.hid (Nc.out.grown g)
    replace Nd := Lib.hid (Nd.out.grown g)
    replace G := Lib.hid (grown_trans G.out g)
    clear g
    go_wp2_with fail
    refine (Sub_no Nc.out Nd.out (by omega) HAB.out).mono ?_
    rintro e w7 ⟨rfl, g⟩
    replace Na := Lib.hid (Na.out.grown g)
    replace Nb := Lib.hid (Nb.out.grown g)
    replace Nc := Lib.hid (Nc.out.grown g)
    replace Nd := Lib.hid (Nd.out.grown g)
    replace G := Lib.hid (grown_trans G.out g)
    clear g
    go_wp2_with fail
    refine (DivMod_n Na.out Nb.out (by omega) HB.out).mono ?_
    rintro e w8 ⟨q, r, rfl, h1, h2, -, b1, b2, g⟩
    replace Na := Lib.hid (Na.out.grown g)
    replace Nb := Lib.hid (Nb.out.grown g)
    replace Nc := Lib.hid (Nc.out.grown g)
    replace Nd := Lib.hid (Nd.out.grown g)
    replace G := Lib.hid (grown_trans G.out g)
    have Nq := Lib.hid (show NumC w8 q _ _ from ⟨h1.sl, b1⟩)
    have Nr := Lib.hid (show NumC w8 r _ _ from ⟨h2.sl, b2⟩)
    clear h1 h2 b1 b2 g
    go_wp2_with fail
    refine (DivMod_n Nc.out Nd.out (by omega) HB.out).mono ?_
    rintro e w9 ⟨u, v, rfl, h1, h2, -, b1, b2, g⟩
    replace Na := Lib.hid (Na.out.grown g)
    replace Nb := Lib.hid (Nb.out.grown g)
    replace Nc := Lib.hid (Nc.out.grown g)
    replace Nd := Lib.hid (Nd.out.grown g)
    replace Nq := Lib.hid (Nq.out.grown g)
    replace Nr := Lib.hid (Nr.out.grown g)
    replace G := Lib.hid (grown_trans G.out g)
    have Nu := Lib.hid (show NumC w9 u _ _ from ⟨h1.sl, b1⟩)
    have Nv := Lib.hid (show NumC w9 v _ _ from ⟨h2.sl, b2⟩)
    clear h1 h2 b1 b2 g
    go_wp2_with fail
    refine (Cmp_n 0 Na.out Nc.out (cmpN_eq _)).mono ?_
    rintro e w10 ⟨rfl, g⟩
    replace Na := Lib.hid (Na.out.grown g)
    replace Nb := Lib.hid (Nb.out.grown g)
    replace Nc := Lib.hid (Nc.out.grown g)
    replace Nd := Lib.hid (Nd.out.grown g)
    replace Nq := Lib.hid (Nq.out.grown g)
    replace Nr := Lib.hid (Nr.out.grown g)
    replace Nu := Lib.hid (Nu.out.grown g)
    replace Nv := Lib.hid (Nv.out.grown g)
    replace G := Lib.hid (grown_trans G.out g)
    clear g
    go_wp2_with fail
    refine (Norm_n Na.out (by omega)).mono ?_
    rintro e w11 ⟨m1, rfl, h, b, g⟩
    replace Na := Lib.hid (Na.out.grown g)
    replace Nb := Lib.hid (Nb.out.grown g)
    replace Nc := Lib.hid (Nc.out.grown g)
    replace Nd := Lib.hid (Nd.out.grown g)
    replace Nq := Lib.hid (Nq.out.grown g)
    replace Nr := Lib.hid (Nr.out.grown g)
    replace Nu := Lib.hid (Nu.out.grown g)
    replace Nv := Lib.hid (Nv.out.grown g)
    replace G := Lib.hid (grown_trans G.out g)
    have Nm1 := Lib.hid ((show NumC w11 m1 _ _ from ⟨h.sl, b⟩))
    clear h b g
    go_wp2_with fail
    refine (Norm_n Nc.out (by omega)).mono ?_
    rintro e w12 ⟨m2, rfl, h, b, g⟩
    replace Na := Lib.hid (Na.out.grown g)
    replace Nb := Lib.hid (Nb.out.grown g)
    replace Nc := Lib.hid (Nc.out.grown g)
    replace Nd := Lib.hid (Nd.out.grown g)
    replace Nq := Lib.hid (Nq.out.grown g)
    replace Nr := Lib.hid (Nr.out.grown g)
    replace Nu := Lib.hid (Nu.out.grown g)
    replace Nv := Lib.hid (Nv.out.grown g)
    replace Nm1 := Lib.hid (Nm1.out.grown g)
    replace G := Lib.hid (grown_trans G.out g)
    have Nm2 := Lib.hid ((show NumC w12 m2 _ _ from ⟨h.sl, b⟩))
    clear h b g
    go_wp2_with fail
    refine (Same_n Nm1.out Nm2.out rfl).mono ?_
    rintro e w13 ⟨rfl, g⟩
    replace Na := Lib.hid (Na.out.grown g)
    replace Nb := Lib.hid (Nb.out.grown g)
    replace Nc := Lib.hid (Nc.out.grown g)
    replace Nd := Lib.hid (Nd.out.grown g)
    replace Nq := Lib.hid (Nq.out.grown g)
    replace Nr := Lib.hid (Nr.out.grown g)
    replace Nu := Lib.hid (Nu.out.grown g)
    replace Nv := Lib.hid (Nv.out.grown g)
    replace Nm1 := Lib.hid (Nm1.out.grown g)
    replace Nm2 := Lib.hid (Nm2.out.grown g)
    replace G := Lib.hid (grown_trans G.out g)
    clear g
    go_wp2_with fail
    refine (Add_n Na.out Nb.out (by omega)).mono ?_
    rintro e w14 ⟨p1, rfl, h, b, g⟩
    replace Na := Lib.hid (Na.out.grown g)
    replace Nb := Lib.hid (Nb.out.grown g)
    replace Nc := Lib.hid (Nc.out.grown g)
    replace Nd := Lib.hid (Nd.out.grown g)
    replace Nq := Lib.hid (Nq.out.grown g)
    replace Nr := Lib.hid (Nr.out.grown g)
    replace Nu := Lib.hid (Nu.out.grown g)
    replace Nv := Lib.hid (Nv.out.grown g)
    replace Nm1 := Lib.hid (Nm1.out.grown g)
    replace Nm2 := Lib.hid (Nm2.out.grown g)
    replace G := Lib.hid (grown_trans G.out g)
    have Np1 := Lib.hid ((show NumC w14 p1 _ _ from ⟨h.sl, b⟩))
    clear h b g
    go_wp2_with fail
    refine (Add_n Nc.out Nd.out (by omega)).mono ?_
    rintro e w15 ⟨p2, rfl, h, b, g⟩
    replace Na := Lib.hid (Na.out.grown g)
    replace Nb := Lib.hid (Nb.out.grown g)
    replace Nc := Lib.hid (Nc.out.grown g)
    replace Nd := Lib.hid (Nd.out.grown g)
    replace Nq := Lib.hid (Nq.out.grown g)
    replace Nr := Lib.hid (Nr.out.grown g)
    replace Nu := Lib.hid (Nu.out.grown g)
    replace Nv := Lib.hid (Nv.out.grown g)
    replace Nm1 := Lib.hid (Nm1.out.grown g)
    replace Nm2 := Lib.hid (Nm2.out.grown g)
    replace Np1 := Lib.hid (Np1.out.grown g)
    replace G := Lib.hid (grown_trans G.out g)
    have Np2 := Lib.hid ((show NumC w15 p2 _ _ from ⟨h.sl, b⟩))
    clear h b g
    go_wp2_with fail
    refine (Same_n Np1.out Np2.out rfl).mono ?_
    rintro e w16 ⟨rfl, g⟩
    replace Na := Lib.hid (Na.out.grown g)
    replace Nb := Lib.hid (Nb.out.grown g)
    replace Nc := Lib.hid (Nc.out.grown g)
    replace Nd := Lib.hid (Nd.out.grown g)
    replace Nq := Lib.hid (Nq.out.grown g)
    replace Nr := Lib.hid (Nr.out.grown g)
    replace Nu := Lib.hid (Nu.out.grown g)
    replace Nv := Lib.hid (Nv.out.grown g)
    replace Nm1 := Lib.hid (Nm1.out.grown g)
    replace Nm2 := Lib.hid (Nm2.out.grown g)
    replace Np1 := Lib.hid (Np1.out.grown g)
    replace Np2 := Lib.hid (Np2.out.grown g)
    replace G := Lib.hid (grown_trans G.out g)
    clear g
    go_wp2_with fail
    refine (Same_n (NumC.none _) (NumC.none _) rfl).mono ?_
    rintro e w17 ⟨rfl, g⟩
    replace Na := Lib.hid (Na.out.grown g)
    replace Nb := Lib.hid (Nb.out.grown g)
    replace Nc := Lib.hid (Nc.out.grown g)
    replace Nd := Lib.hid (Nd.out.grown g)
    replace Nq := Lib.hid (Nq.out.grown g)
    replace Nr := Lib.hid (Nr.out.grown g)
    replace Nu := Lib.hid (Nu.out.grown g)
    replace Nv := Lib.hid (Nv.out.grown g)
    replace Nm1 := Lib.hid (Nm1.out.grown g)
    replace Nm2 := Lib.hid (Nm2.out.grown g)
    replace Np1 := Lib.hid (Np1.out.grown g)
    replace Np2 := Lib.hid (Np2.out.grown g)
    replace G := Lib.hid (grown_trans G.out g)
    clear g
    go_wp2_with fail
    refine (Mul_n Na.out Nb.out (by omega)).mono ?_
    rintro e w18 ⟨t1, rfl, h, b, g⟩
    replace Na := Lib.hid (Na.out.grown g)
    replace Nb := Lib.hid (Nb.out.grown g)
    replace Nc := Lib.hid (Nc.out.grown g)
    replace Nd := Lib.hid (Nd.out.grown g)
    replace Nq := Lib.hid (Nq.out.grown g)
    replace Nr := Lib.hid (Nr.out.grown g)
    replace Nu := Lib.hid (Nu.out.grown g)
    replace Nv := Lib.hid (Nv.out.grown g)
    replace Nm1 := Lib.hid (Nm1.out.grown g)
    replace Nm2 := Lib.hid (Nm2.out.grown g)
    replace Np1 := Lib.hid (Np1.out.grown g)
    replace Np2 := Lib.hid (Np2.out.grown g)
    replace G := Lib.hid (grown_trans G.out g)
    have Nt1 := Lib.hid ((show NumC w18 t1 _ _ from ⟨h.sl, b⟩))
    clear h b g
    go_wp2_with fail
    refine (Mul_n Nc.out Nd.out (by omega)).mono ?_
    rintro e w19 ⟨t2, rfl, h, b, g⟩
    replace Na := Lib.hid (Na.out.grown g)
    replace Nb := Lib.hid (Nb.out.grown g)
    replace Nc := Lib.hid (Nc.out.grown g)
    replace Nd := Lib.hid (Nd.out.grown g)
    replace Nq := Lib.hid (Nq.out.grown g)
    replace Nr := Lib.hid (Nr.out.grown g)
    replace Nu := Lib.hid (Nu.out.grown g)
    replace Nv := Lib.hid (Nv.out.grown g)
    replace Nm1 := Lib.hid (Nm1.out.grown g)
    replace Nm2 := Lib.hid (Nm2.out.grown g)
    replace Np1 := Lib.hid (Np1.out.grown g)
    replace Np2 := Lib.hid (Np2.out.grown g)
    replace Nt1 := Lib.hid (Nt1.out.grown g)
    replace G := Lib.hid (grown_trans G.out g)
    have Nt2 := Lib.hid ((show NumC w19 t2 _ _ from ⟨h.sl, b⟩))
    clear h b g
    go_wp2_with fail
    refine (Same_n Nt1.out Nt2.out rfl).mono ?_
    rintro e w20 ⟨rfl, g⟩
    replace Na := Lib.hid (Na.out.grown g)
    replace Nb := Lib.hid (Nb.out.grown g)
    replace Nc := Lib.hid (Nc.out.grown g)
    replace Nd := Lib.hid (Nd.out.grown g)
    replace Nq := Lib.hid (Nq.out.grown g)
    replace Nr := Lib.hid (Nr.out.grown g)
    replace Nu := Lib.hid (Nu.out.grown g)
    replace Nv := Lib.hid (Nv.out.grown g)
    replace Nm1 := Lib.hid (Nm1.out.grown g)
    replace Nm2 := Lib.hid (Nm2.out.grown g)
    replace Np1 := Lib.hid (Np1.out.grown g)
    replace Np2 := Lib.hid (Np2.out.grown g)
    replace Nt1 := Lib.hid (Nt1.out.grown g)
    replace Nt2 := Lib.hid (Nt2.out.grown g)
    replace G := Lib.hid (grown_trans G.out g)
    clear g
    go_wp2_with fail
    refine (Same_n Nq.out Nu.out rfl).mono ?_
    rintro e w21 ⟨rfl, g⟩
    replace Na := Lib.hid (Na.out.grown g)
    replace Nb := Lib.hid (Nb.out.grown g)
    replace Nc := Lib.hid (Nc.out.grown g)
    replace Nd := Lib.hid (Nd.out.grown g)
    replace Nq := Lib.hid (Nq.out.grown g)
    replace Nr := Lib.hid (Nr.out.grown g)
    replace Nu := Lib.hid (Nu.out.grown g)
    replace Nv := Lib.hid (Nv.out.grown g)
    replace Nm1 := Lib.hid (Nm1.out.grown g)
    replace Nm2 := Lib.hid (Nm2.out.grown g)
    replace Np1 := Lib.hid (Np1.out.grown g)
    replace Np2 := Lib.hid (Np2.out.grown g)
    replace Nt1 := Lib.hid (Nt1.out.grown g)
    replace Nt2 := Lib.hid (Nt2.out.grown g)
    replace G := Lib.hid (grown_trans G.out g)
    clear g
    go_wp2_with fail
    refine (Same_n Nr.out Nv.out rfl).mono ?_
    rintro e w22 ⟨rfl, g⟩
    replace Na := Lib.hid (Na.out.grown g)
    replace Nb := Lib.hid (Nb.out.grown g)
    replace Nc := Lib.hid (Nc.out.grown g)
    replace Nd := Lib.hid (Nd.out.grown g)
    replace Nq := Lib.hid (Nq.out.grown g)
    replace Nr := Lib.hid (Nr.out.grown g)
    replace Nu := Lib.hid (Nu.out.grown g)
    replace Nv := Lib.hid (Nv.out.grown g)
    replace Nm1 := Lib.hid (Nm1.out.grown g)
    replace Nm2 := Lib.hid (Nm2.out.grown g)
    replace Np1 := Lib.hid (Np1.out.grown g)
    replace Np2 := Lib.hid (Np2.out.grown g)
    replace Nt1 := Lib.hid (Nt1.out.grown g)
    replace Nt2 := Lib.hid (Nt2.out.grown g)
    replace G := Lib.hid (grown_trans G.out g)
    clear g
    go_wp2_with fail
    refine (Bits_n Na.out (by omega)).mono ?_
    rintro e w23 ⟨rfl, rfl⟩
    go_wp2_with fail
    refine (Bits_n Nc.out (by omega)).mono ?_
    rintro e w24 ⟨rfl, rfl⟩
    go_wp2_with fail
    refine (wakes_true _).mono ?_
    rintro e w25 ⟨rfl, g⟩
    replace Na := Lib.hid (Na.out.grown g)
    replace Nb := Lib.hid (Nb.out.grown g)
    replace Nc := Lib.hid (Nc.out.grown g)
    replace Nd := Lib.hid (Nd.out.grown g)
    replace Nq := Lib.hid (Nq.out.grown g)
    replace Nr := Lib.hid (Nr.out.grown g)
    replace Nu := Lib.hid (Nu.out.grown g)
    replace Nv := Lib.hid (Nv.out.grown g)
    replace Nm1 := Lib.hid (Nm1.out.grown g)
    replace Nm2 := Lib.hid (Nm2.out.grown g)
    replace Np1 := Lib.hid (Np1.out.grown g)
    replace Np2 := Lib.hid (Np2.out.grown g)
    replace Nt1 := Lib.hid (Nt1.out.grown g)
    replace Nt2 := Lib.hid (Nt2.out.grown g)
    replace G := Lib.hid (grown_trans G.out g)
    clear g
    go_wp2_with fail
    go_ret
    exact ⟨rfl, G.out⟩
  · have HAB := Lib.hid hAB
    have HB := Lib.hid hB
    clear hAB hB
    go_wp2_with fail
    refine (Sub_n Na.out Nb.out (by omega) HAB.out).mono ?_
    rintro e w6 ⟨x, rfl, h, b', g⟩
    replace Na := Lib.hid (Na.out.grown g)
    replace Nb := Lib.hid (Nb.out.grown g)
    replace Nc := Lib.hid (Nc.out.grown g)
    replace Nd := Lib.hid (Nd.out.grown g)
    replace G := Lib.hid (grown_trans G.out g)
    have Nx := Lib.hid ((show NumC w6 x _ _ from ⟨h.sl, b'⟩))
    clear h b' g
    go_wp2_with fail
    refine (Sub_n Nc.out Nd.out (by omega) HAB.out).mono ?_
    rintro e w7 ⟨y, rfl, h, b', g⟩
    replace Na := Lib.hid (Na.out.grown g)
    replace Nb := Lib.hid (Nb.out.grown g)
    replace Nc := Lib.hid (Nc.out.grown g)
    replace Nd := Lib.hid (Nd.out.grown g)
    replace Nx := Lib.hid (Nx.out.grown g)
    replace G := Lib.hid (grown_trans G.out g)
    have Ny := Lib.hid ((show NumC w7 y _ _ from ⟨h.sl, b'⟩))
    clear h b' g
    go_wp2_with fail
    refine (DivMod_n Na.out Nb.out (by omega) HB.out).mono ?_
    rintro e w8 ⟨q, r, rfl, h1, h2, -, b1, b2, g⟩
    replace Na := Lib.hid (Na.out.grown g)
    replace Nb := Lib.hid (Nb.out.grown g)
    replace Nc := Lib.hid (Nc.out.grown g)
    replace Nd := Lib.hid (Nd.out.grown g)
    replace Nx := Lib.hid (Nx.out.grown g)
    replace Ny := Lib.hid (Ny.out.grown g)
    replace G := Lib.hid (grown_trans G.out g)
    have Nq := Lib.hid (show NumC w8 q _ _ from ⟨h1.sl, b1⟩)
    have Nr := Lib.hid (show NumC w8 r _ _ from ⟨h2.sl, b2⟩)
    clear h1 h2 b1 b2 g
    go_wp2_with fail
    refine (DivMod_n Nc.out Nd.out (by omega) HB.out).mono ?_
    rintro e w9 ⟨u, v, rfl, h1, h2, -, b1, b2, g⟩
    replace Na := Lib.hid (Na.out.grown g)
    replace Nb := Lib.hid (Nb.out.grown g)
    replace Nc := Lib.hid (Nc.out.grown g)
    replace Nd := Lib.hid (Nd.out.grown g)
    replace Nx := Lib.hid (Nx.out.grown g)
    replace Ny := Lib.hid (Ny.out.grown g)
    replace Nq := Lib.hid (Nq.out.grown g)
    replace Nr := Lib.hid (Nr.out.grown g)
    replace G := Lib.hid (grown_trans G.out g)
    have Nu := Lib.hid (show NumC w9 u _ _ from ⟨h1.sl, b1⟩)
    have Nv := Lib.hid (show NumC w9 v _ _ from ⟨h2.sl, b2⟩)
    clear h1 h2 b1 b2 g
    go_wp2_with fail
    refine (Cmp_n 0 Na.out Nc.out (cmpN_eq _)).mono ?_
    rintro e w10 ⟨rfl, g⟩
    replace Na := Lib.hid (Na.out.grown g)
    replace Nb := Lib.hid (Nb.out.grown g)
    replace Nc := Lib.hid (Nc.out.grown g)
    replace Nd := Lib.hid (Nd.out.grown g)
    replace Nx := Lib.hid (Nx.out.grown g)
    replace Ny := Lib.hid (Ny.out.grown g)
    replace Nq := Lib.hid (Nq.out.grown g)
    replace Nr := Lib.hid (Nr.out.grown g)
    replace Nu := Lib.hid (Nu.out.grown g)
    replace Nv := Lib.hid (Nv.out.grown g)
    replace G := Lib.hid (grown_trans G.out g)
    clear g
    go_wp2_with fail
    refine (Norm_n Na.out (by omega)).mono ?_
    rintro e w11 ⟨m1, rfl, h, b, g⟩
    replace Na := Lib.hid (Na.out.grown g)
    replace Nb := Lib.hid (Nb.out.grown g)
    replace Nc := Lib.hid (Nc.out.grown g)
    replace Nd := Lib.hid (Nd.out.grown g)
    replace Nx := Lib.hid (Nx.out.grown g)
    replace Ny := Lib.hid (Ny.out.grown g)
    replace Nq := Lib.hid (Nq.out.grown g)
    replace Nr := Lib.hid (Nr.out.grown g)
    replace Nu := Lib.hid (Nu.out.grown g)
    replace Nv := Lib.hid (Nv.out.grown g)
    replace G := Lib.hid (grown_trans G.out g)
    have Nm1 := Lib.hid ((show NumC w11 m1 _ _ from ⟨h.sl, b⟩))
    clear h b g
    go_wp2_with fail
    refine (Norm_n Nc.out (by omega)).mono ?_
    rintro e w12 ⟨m2, rfl, h, b, g⟩
    replace Na := Lib.hid (Na.out.grown g)
    replace Nb := Lib.hid (Nb.out.grown g)
    replace Nc := Lib.hid (Nc.out.grown g)
    replace Nd := Lib.hid (Nd.out.grown g)
    replace Nx := Lib.hid (Nx.out.grown g)
    replace Ny := Lib.hid (Ny.out.grown g)
    replace Nq := Lib.hid (Nq.out.grown g)
    replace Nr := Lib.hid (Nr.out.grown g)
    replace Nu := Lib.hid (Nu.out.grown g)
    replace Nv := Lib.hid (Nv.out.grown g)
    replace Nm1 := Lib.hid (Nm1.out.grown g)
    replace G := Lib.hid (grown_trans G.out g)
    have Nm2 := Lib.hid ((show NumC w12 m2 _ _ from ⟨h.sl, b⟩))
    clear h b g
    go_wp2_with fail
    refine (Same_n Nm1.out Nm2.out rfl).mono ?_
    rintro e w13 ⟨rfl, g⟩
    replace Na := Lib.hid (Na.out.grown g)
    replace Nb := Lib.hid (Nb.out.grown g)
    replace Nc := Lib.hid (Nc.out.grown g)
    replace Nd := Lib.hid (Nd.out.grown g)
    replace Nx := Lib.hid (Nx.out.grown g)
    replace Ny := Lib.hid (Ny.out.grown g)
    replace Nq := Lib.hid (Nq.out.grown g)
    replace Nr := Lib.hid (Nr.out.grown g)
    replace Nu := Lib.hid (Nu.out.grown g)
    replace Nv := Lib.hid (Nv.out.grown g)
    replace Nm1 := Lib.hid (Nm1.out.grown g)
    replace Nm2 := Lib.hid (Nm2.out.grown g)
    replace G := Lib.hid (grown_trans G.out g)
    clear g
    go_wp2_with fail
    refine (Add_n Na.out Nb.out (by omega)).mono ?_
    rintro e w14 ⟨p1, rfl, h, b, g⟩
    replace Na := Lib.hid (Na.out.grown g)
    replace Nb := Lib.hid (Nb.out.grown g)
    replace Nc := Lib.hid (Nc.out.grown g)
    replace Nd := Lib.hid (Nd.out.grown g)
    replace Nx := Lib.hid (Nx.out.grown g)
    replace Ny := Lib.hid (Ny.out.grown g)
    replace Nq := Lib.hid (Nq.out.grown g)
    replace Nr := Lib.hid (Nr.out.grown g)
    replace Nu := Lib.hid (Nu.out.grown g)
    replace Nv := Lib.hid (Nv.out.grown g)
    replace Nm1 := Lib.hid (Nm1.out.grown g)
    replace Nm2 := Lib.hid (Nm2.out.grown g)
    replace G := Lib.hid (grown_trans G.out g)
    have Np1 := Lib.hid ((show NumC w14 p1 _ _ from ⟨h.sl, b⟩))
    clear h b g
    go_wp2_with fail
    refine (Add_n Nc.out Nd.out (by omega)).mono ?_
    rintro e w15 ⟨p2, rfl, h, b, g⟩
    replace Na := Lib.hid (Na.out.grown g)
    replace Nb := Lib.hid (Nb.out.grown g)
    replace Nc := Lib.hid (Nc.out.grown g)
    replace Nd := Lib.hid (Nd.out.grown g)
    replace Nx := Lib.hid (Nx.out.grown g)
    replace Ny := Lib.hid (Ny.out.grown g)
    replace Nq := Lib.hid (Nq.out.grown g)
    replace Nr := Lib.hid (Nr.out.grown g)
    replace Nu := Lib.hid (Nu.out.grown g)
    replace Nv := Lib.hid (Nv.out.grown g)
    replace Nm1 := Lib.hid (Nm1.out.grown g)
    replace Nm2 := Lib.hid (Nm2.out.grown g)
    replace Np1 := Lib.hid (Np1.out.grown g)
    replace G := Lib.hid (grown_trans G.out g)
    have Np2 := Lib.hid ((show NumC w15 p2 _ _ from ⟨h.sl, b⟩))
    clear h b g
    go_wp2_with fail
    refine (Same_n Np1.out Np2.out rfl).mono ?_
    rintro e w16 ⟨rfl, g⟩
    replace Na := Lib.hid (Na.out.grown g)
    replace Nb := Lib.hid (Nb.out.grown g)
    replace Nc := Lib.hid (Nc.out.grown g)
    replace Nd := Lib.hid (Nd.out.grown g)
    replace Nx := Lib.hid (Nx.out.grown g)
    replace Ny := Lib.hid (Ny.out.grown g)
    replace Nq := Lib.hid (Nq.out.grown g)
    replace Nr := Lib.hid (Nr.out.grown g)
    replace Nu := Lib.hid (Nu.out.grown g)
    replace Nv := Lib.hid (Nv.out.grown g)
    replace Nm1 := Lib.hid (Nm1.out.grown g)
    replace Nm2 := Lib.hid (Nm2.out.grown g)
    replace Np1 := Lib.hid (Np1.out.grown g)
    replace Np2 := Lib.hid (Np2.out.grown g)
    replace G := Lib.hid (grown_trans G.out g)
    clear g
    go_wp2_with fail
    refine (Same_n Nx.out Ny.out rfl).mono ?_
    rintro e w17 ⟨rfl, g⟩
    replace Na := Lib.hid (Na.out.grown g)
    replace Nb := Lib.hid (Nb.out.grown g)
    replace Nc := Lib.hid (Nc.out.grown g)
    replace Nd := Lib.hid (Nd.out.grown g)
    replace Nx := Lib.hid (Nx.out.grown g)
    replace Ny := Lib.hid (Ny.out.grown g)
    replace Nq := Lib.hid (Nq.out.grown g)
    replace Nr := Lib.hid (Nr.out.grown g)
    replace Nu := Lib.hid (Nu.out.grown g)
    replace Nv := Lib.hid (Nv.out.grown g)
    replace Nm1 := Lib.hid (Nm1.out.grown g)
    replace Nm2 := Lib.hid (Nm2.out.grown g)
    replace Np1 := Lib.hid (Np1.out.grown g)
    replace Np2 := Lib.hid (Np2.out.grown g)
    replace G := Lib.hid (grown_trans G.out g)
    clear g
    go_wp2_with fail
    refine (Mul_n Na.out Nb.out (by omega)).mono ?_
    rintro e w18 ⟨t1, rfl, h, b, g⟩
    replace Na := Lib.hid (Na.out.grown g)
    replace Nb := Lib.hid (Nb.out.grown g)
    replace Nc := Lib.hid (Nc.out.grown g)
    replace Nd := Lib.hid (Nd.out.grown g)
    replace Nx := Lib.hid (Nx.out.grown g)
    replace Ny := Lib.hid (Ny.out.grown g)
    replace Nq := Lib.hid (Nq.out.grown g)
    replace Nr := Lib.hid (Nr.out.grown g)
    replace Nu := Lib.hid (Nu.out.grown g)
    replace Nv := Lib.hid (Nv.out.grown g)
    replace Nm1 := Lib.hid (Nm1.out.grown g)
    replace Nm2 := Lib.hid (Nm2.out.grown g)
    replace Np1 := Lib.hid (Np1.out.grown g)
    replace Np2 := Lib.hid (Np2.out.grown g)
    replace G := Lib.hid (grown_trans G.out g)
    have Nt1 := Lib.hid ((show NumC w18 t1 _ _ from ⟨h.sl, b⟩))
    clear h b g
    go_wp2_with fail
    refine (Mul_n Nc.out Nd.out (by omega)).mono ?_
    rintro e w19 ⟨t2, rfl, h, b, g⟩
    replace Na := Lib.hid (Na.out.grown g)
    replace Nb := Lib.hid (Nb.out.grown g)
    replace Nc := Lib.hid (Nc.out.grown g)
    replace Nd := Lib.hid (Nd.out.grown g)
    replace Nx := Lib.hid (Nx.out.grown g)
    replace Ny := Lib.hid (Ny.out.grown g)
    replace Nq := Lib.hid (Nq.out.grown g)
    replace Nr := Lib.hid (Nr.out.grown g)
    replace Nu := Lib.hid (Nu.out.grown g)
    replace Nv := Lib.hid (Nv.out.grown g)
    replace Nm1 := Lib.hid (Nm1.out.grown g)
    replace Nm2 := Lib.hid (Nm2.out.grown g)
    replace Np1 := Lib.hid (Np1.out.grown g)
    replace Np2 := Lib.hid (Np2.out.grown g)
    replace Nt1 := Lib.hid (Nt1.out.grown g)
    replace G := Lib.hid (grown_trans G.out g)
    have Nt2 := Lib.hid ((show NumC w19 t2 _ _ from ⟨h.sl, b⟩))
    clear h b g
    go_wp2_with fail
    refine (Same_n Nt1.out Nt2.out rfl).mono ?_
    rintro e w20 ⟨rfl, g⟩
    replace Na := Lib.hid (Na.out.grown g)
    replace Nb := Lib.hid (Nb.out.grown g)
    replace Nc := Lib.hid (Nc.out.grown g)
    replace Nd := Lib.hid (Nd.out.grown g)
    replace Nx := Lib.hid (Nx.out.grown g)
    replace Ny := Lib.hid (Ny.out.grown g)
    replace Nq := Lib.hid (Nq.out.grown g)
    replace Nr := Lib.hid (Nr.out.grown g)
    replace Nu := Lib.hid (Nu.out.grown g)
    replace Nv := Lib.hid (Nv.out.grown g)
    replace Nm1 := Lib.hid (Nm1.out.grown g)
    replace Nm2 := Lib.hid (Nm2.out.grown g)
    replace Np1 := Lib.hid (Np1.out.grown g)
    replace Np2 := Lib.hid (Np2.out.grown g)
    replace Nt1 := Lib.hid (Nt1.out.grown g)
    replace Nt2 := Lib.hid (Nt2.out.grown g)
    replace G := Lib.hid (grown_trans G.out g)
    clear g
    go_wp2_with fail
    refine (Same_n Nq.out Nu.out rfl).mono ?_
    rintro e w21 ⟨rfl, g⟩
    replace Na := Lib.hid (Na.out.grown g)
    replace Nb := Lib.hid (Nb.out.grown g)
    replace Nc := Lib.hid (Nc.out.grown g)
    replace Nd := Lib.hid (Nd.out.grown g)
    replace Nx := Lib.hid (Nx.out.grown g)
    replace Ny := Lib.hid (Ny.out.grown g)
    replace Nq := Lib.hid (Nq.out.grown g)
    replace Nr := Lib.hid (Nr.out.grown g)
    replace Nu := Lib.hid (Nu.out.grown g)
    replace Nv := Lib.hid (Nv.out.grown g)
    replace Nm1 := Lib.hid (Nm1.out.grown g)
    replace Nm2 := Lib.hid (Nm2.out.grown g)
    replace Np1 := Lib.hid (Np1.out.grown g)
    replace Np2 := Lib.hid (Np2.out.grown g)
    replace Nt1 := Lib.hid (Nt1.out.grown g)
    replace Nt2 := Lib.hid (Nt2.out.grown g)
    replace G := Lib.hid (grown_trans G.out g)
    clear g
    go_wp2_with fail
    refine (Same_n Nr.out Nv.out rfl).mono ?_
    rintro e w22 ⟨rfl, g⟩
    replace Na := Lib.hid (Na.out.grown g)
    replace Nb := Lib.hid (Nb.out.grown g)
    replace Nc := Lib.hid (Nc.out.grown g)
    replace Nd := Lib.hid (Nd.out.grown g)
    replace Nx := Lib.hid (Nx.out.grown g)
    replace Ny := Lib.hid (Ny.out.grown g)
    replace Nq := Lib.hid (Nq.out.grown g)
    replace Nr := Lib.hid (Nr.out.grown g)
    replace Nu := Lib.hid (Nu.out.grown g)
    replace Nv := Lib.hid (Nv.out.grown g)
    replace Nm1 := Lib.hid (Nm1.out.grown g)
    replace Nm2 := Lib.hid (Nm2.out.grown g)
    replace Np1 := Lib.hid (Np1.out.grown g)
    replace Np2 := Lib.hid (Np2.out.grown g)
    replace Nt1 := Lib.hid (Nt1.out.grown g)
    replace Nt2 := Lib.hid (Nt2.out.grown g)
    replace G := Lib.hid (grown_trans G.out g)
    clear g
    go_wp2_with fail
    refine (Bits_n Na.out (by omega)).mono ?_
    rintro e w23 ⟨rfl, rfl⟩
    go_wp2_with fail
    refine (Bits_n Nc.out (by omega)).mono ?_
    rintro e w24 ⟨rfl, rfl⟩
    go_wp2_with fail
    refine (wakes_true _).mono ?_
    rintro e w25 ⟨rfl, g⟩
    replace Na := Lib.hid (Na.out.grown g)
    replace Nb := Lib.hid (Nb.out.grown g)
    replace Nc := Lib.hid (Nc.out.grown g)
    replace Nd := Lib.hid (Nd.out.grown g)
    replace Nx := Lib.hid (Nx.out.grown g)
    replace Ny := Lib.hid (Ny.out.grown g)
    replace Nq := Lib.hid (Nq.out.grown g)
    replace Nr := Lib.hid (Nr.out.grown g)
    replace Nu := Lib.hid (Nu.out.grown g)
    replace Nv := Lib.hid (Nv.out.grown g)
    replace Nm1 := Lib.hid (Nm1.out.grown g)
    replace Nm2 := Lib.hid (Nm2.out.grown g)
    replace Np1 := Lib.hid (Np1.out.grown g)
    replace Np2 := Lib.hid (Np2.out.grown g)
    replace Nt1 := Lib.hid (Nt1.out.grown g)
    replace Nt2 := Lib.hid (Nt2.out.grown g)
    replace G := Lib.hid (grown_trans G.out g)
    clear g
    go_wp2_with fail
    go_ret
    exact ⟨rfl, G.out⟩
  · have HAB := Lib.hid hAB
    have HB := Lib.hid hB
    clear hAB hB
    go_wp2_with fail
    refine (Sub_n Na.out Nb.out (by omega) HAB.out).mono ?_
    rintro e w6 ⟨x, rfl, h, b', g⟩
    replace Na := Lib.hid (Na.out.grown g)
    replace Nb := Lib.hid (Nb.out.grown g)
    replace Nc := Lib.hid (Nc.out.grown g)
    replace Nd := Lib.hid (Nd.out.grown g)
    replace G := Lib.hid (grown_trans G.out g)
    have Nx := Lib.hid ((show NumC w6 x _ _ from ⟨h.sl, b'⟩))
    clear h b' g
    go_wp2_with fail
    refine (Sub_n Nc.out Nd.out (by omega) HAB.out).mono ?_
    rintro e w7 ⟨y, rfl, h, b', g⟩
    replace Na := Lib.hid (Na.out.grown g)
    replace Nb := Lib.hid (Nb.out.grown g)
    replace Nc := Lib.hid (Nc.out.grown g)
    replace Nd := Lib.hid (Nd.out.grown g)
    replace Nx := Lib.hid (Nx.out.grown g)
    replace G := Lib.hid (grown_trans G.out g)
    have Ny := Lib.hid ((show NumC w7 y _ _ from ⟨h.sl, b'⟩))
    clear h b' g
    go_wp2_with fail
    refine (DivMod_no Na.out Nb.out (by omega) HB.out).mono ?_
    rintro e w8 ⟨rfl, g⟩
    replace Na := Lib.hid (Na.out.grown g)
    replace Nb := Lib.hid (Nb.out.grown g)
    replace Nc := Lib.hid (Nc.out.grown g)
    replace Nd := Lib.hid (Nd.out.grown g)
    replace Nx := Lib.hid (Nx.out.grown g)
    replace Ny := Lib.hid (Ny.out.grown g)
    replace G := Lib.hid (grown_trans G.out g)
    clear g
    go_wp2_with fail
    refine (DivMod_no Nc.out Nd.out (by omega) HB.out).mono ?_
    rintro e w9 ⟨rfl, g⟩
    replace Na := Lib.hid (Na.out.grown g)
    replace Nb := Lib.hid (Nb.out.grown g)
    replace Nc := Lib.hid (Nc.out.grown g)
    replace Nd := Lib.hid (Nd.out.grown g)
    replace Nx := Lib.hid (Nx.out.grown g)
    replace Ny := Lib.hid (Ny.out.grown g)
    replace G := Lib.hid (grown_trans G.out g)
    clear g
    go_wp2_with fail
    refine (Cmp_n 0 Na.out Nc.out (cmpN_eq _)).mono ?_
    rintro e w10 ⟨rfl, g⟩
    replace Na := Lib.hid (Na.out.grown g)
    replace Nb := Lib.hid (Nb.out.grown g)
    replace Nc := Lib.hid (Nc.out.grown g)
    replace Nd := Lib.hid (Nd.out.grown g)
    replace Nx := Lib.hid (Nx.out.grown g)
    replace Ny := Lib.hid (Ny.out.grown g)
    replace G := Lib.hid (grown_trans G.out g)
    clear g
    go_wp2_with fail
    refine (Norm_n Na.out (by omega)).mono ?_
    rintro e w11 ⟨m1, rfl, h, b, g⟩
    replace Na := Lib.hid (Na.out.grown g)
    replace Nb := Lib.hid (Nb.out.grown g)
    replace Nc := Lib.hid (Nc.out.grown g)
    replace Nd := Lib.hid (Nd.out.grown g)
    replace Nx := Lib.hid (Nx.out.grown g)
    replace Ny := Lib.hid (Ny.out.grown g)
    replace G := Lib.hid (grown_trans G.out g)
    have Nm1 := Lib.hid ((show NumC w11 m1 _ _ from ⟨h.sl, b⟩))
    clear h b g
    go_wp2_with fail
    refine (Norm_n Nc.out (by omega)).mono ?_
    rintro e w12 ⟨m2, rfl, h, b, g⟩
    replace Na := Lib.hid (Na.out.grown g)
    replace Nb := Lib.hid (Nb.out.grown g)
    replace Nc := Lib.hid (Nc.out.grown g)
    replace Nd := Lib.hid (Nd.out.grown g)
    replace Nx := Lib.hid (Nx.out.grown g)
    replace Ny := Lib.hid (Ny.out.grown g)
    replace Nm1 := Lib.hid (Nm1.out.grown g)
    replace G := Lib.hid (grown_trans G.out g)
    have Nm2 := Lib.hid ((show NumC w12 m2 _ _ from ⟨h.sl, b⟩))
    clear h b g
    go_wp2_with fail
    refine (Same_n Nm1.out Nm2.out rfl).mono ?_
    rintro e w13 ⟨rfl, g⟩
    replace Na := Lib.hid (Na.out.grown g)
    replace Nb := Lib.hid (Nb.out.grown g)
    replace Nc := Lib.hid (Nc.out.grown g)
    replace Nd := Lib.hid (Nd.out.grown g)
    replace Nx := Lib.hid (Nx.out.grown g)
    replace Ny := Lib.hid (Ny.out.grown g)
    replace Nm1 := Lib.hid (Nm1.out.grown g)
    replace Nm2 := Lib.hid (Nm2.out.grown g)
    replace G := Lib.hid (grown_trans G.out g)
    clear g
    go_wp2_with fail
    refine (Add_n Na.out Nb.out (by omega)).mono ?_
    rintro e w14 ⟨p1, rfl, h, b, g⟩
    replace Na := Lib.hid (Na.out.grown g)
    replace Nb := Lib.hid (Nb.out.grown g)
    replace Nc := Lib.hid (Nc.out.grown g)
    replace Nd := Lib.hid (Nd.out.grown g)
    replace Nx := Lib.hid (Nx.out.grown g)
    replace Ny := Lib.hid (Ny.out.grown g)
    replace Nm1 := Lib.hid (Nm1.out.grown g)
    replace Nm2 := Lib.hid (Nm2.out.grown g)
    replace G := Lib.hid (grown_trans G.out g)
    have Np1 := Lib.hid ((show NumC w14 p1 _ _ from ⟨h.sl, b⟩))
    clear h b g
    go_wp2_with fail
    refine (Add_n Nc.out Nd.out (by omega)).mono ?_
    rintro e w15 ⟨p2, rfl, h, b, g⟩
    replace Na := Lib.hid (Na.out.grown g)
    replace Nb := Lib.hid (Nb.out.grown g)
    replace Nc := Lib.hid (Nc.out.grown g)
    replace Nd := Lib.hid (Nd.out.grown g)
    replace Nx := Lib.hid (Nx.out.grown g)
    replace Ny := Lib.hid (Ny.out.grown g)
    replace Nm1 := Lib.hid (Nm1.out.grown g)
    replace Nm2 := Lib.hid (Nm2.out.grown g)
    replace Np1 := Lib.hid (Np1.out.grown g)
    replace G := Lib.hid (grown_trans G.out g)
    have Np2 := Lib.hid ((show NumC w15 p2 _ _ from ⟨h.sl, b⟩))
    clear h b g
    go_wp2_with fail
    refine (Same_n Np1.out Np2.out rfl).mono ?_
    rintro e w16 ⟨rfl, g⟩
    replace Na := Lib.hid (Na.out.grown g)
    replace Nb := Lib.hid (Nb.out.grown g)
    replace Nc := Lib.hid (Nc.out.grown g)
    replace Nd := Lib.hid (Nd.out.grown g)
    replace Nx := Lib.hid (Nx.out.grown g)
    replace Ny := Lib.hid (Ny.out.grown g)
    replace Nm1 := Lib.hid (Nm1.out.grown g)
    replace Nm2 := Lib.hid (Nm2.out.grown g)
    replace Np1 := Lib.hid (Np1.out.grown g)
    replace Np2 := Lib.hid (Np2.out.grown g)
    replace G := Lib.hid (grown_trans G.out g)
    clear g
    go_wp2_with fail
    refine (Same_n Nx.out Ny.out rfl).mono ?_
    rintro e w17 ⟨rfl, g⟩
    replace Na := Lib.hid (Na.out.grown g)
    replace Nb := Lib.hid (Nb.out.grown g)
    replace Nc := Lib.hid (Nc.out.grown g)
    replace Nd := Lib.hid (Nd.out.grown g)
    replace Nx := Lib.hid (Nx.out.grown g)
    replace Ny := Lib.hid (Ny.out.grown g)
    replace Nm1 := Lib.hid (Nm1.out.grown g)
    replace Nm2 := Lib.hid (Nm2.out.grown g)
    replace Np1 := Lib.hid (Np1.out.grown g)
    replace Np2 := Lib.hid (Np2.out.grown g)
    replace G := Lib.hid (grown_trans G.out g)
    clear g
    go_wp2_with fail
    refine (Mul_n Na.out Nb.out (by omega)).mono ?_
    rintro e w18 ⟨t1, rfl, h, b, g⟩
    replace Na := Lib.hid (Na.out.grown g)
    replace Nb := Lib.hid (Nb.out.grown g)
    replace Nc := Lib.hid (Nc.out.grown g)
    replace Nd := Lib.hid (Nd.out.grown g)
    replace Nx := Lib.hid (Nx.out.grown g)
    replace Ny := Lib.hid (Ny.out.grown g)
    replace Nm1 := Lib.hid (Nm1.out.grown g)
    replace Nm2 := Lib.hid (Nm2.out.grown g)
    replace Np1 := Lib.hid (Np1.out.grown g)
    replace Np2 := Lib.hid (Np2.out.grown g)
    replace G := Lib.hid (grown_trans G.out g)
    have Nt1 := Lib.hid ((show NumC w18 t1 _ _ from ⟨h.sl, b⟩))
    clear h b g
    go_wp2_with fail
    refine (Mul_n Nc.out Nd.out (by omega)).mono ?_
    rintro e w19 ⟨t2, rfl, h, b, g⟩
    replace Na := Lib.hid (Na.out.grown g)
    replace Nb := Lib.hid (Nb.out.grown g)
    replace Nc := Lib.hid (Nc.out.grown g)
    replace Nd := Lib.hid (Nd.out.grown g)
    replace Nx := Lib.hid (Nx.out.grown g)
    replace Ny := Lib.hid (Ny.out.grown g)
    replace Nm1 := Lib.hid (Nm1.out.grown g)
    replace Nm2 := Lib.hid (Nm2.out.grown g)
    replace Np1 := Lib.hid (Np1.out.grown g)
    replace Np2 := Lib.hid (Np2.out.grown g)
    replace Nt1 := Lib.hid (Nt1.out.grown g)
    replace G := Lib.hid (grown_trans G.out g)
    have Nt2 := Lib.hid ((show NumC w19 t2 _ _ from ⟨h.sl, b⟩))
    clear h b g
    go_wp2_with fail
    refine (Same_n Nt1.out Nt2.out rfl).mono ?_
    rintro e w20 ⟨rfl, g⟩
    replace Na := Lib.hid (Na.out.grown g)
    replace Nb := Lib.hid (Nb.out.grown g)
    replace Nc := Lib.hid (Nc.out.grown g)
    replace Nd := Lib.hid (Nd.out.grown g)
    replace Nx := Lib.hid (Nx.out.grown g)
    replace Ny := Lib.hid (Ny.out.grown g)
    replace Nm1 := Lib.hid (Nm1.out.grown g)
    replace Nm2 := Lib.hid (Nm2.out.grown g)
    replace Np1 := Lib.hid (Np1.out.grown g)
    replace Np2 := Lib.hid (Np2.out.grown g)
    replace Nt1 := Lib.hid (Nt1.out.grown g)
    replace Nt2 := Lib.hid (Nt2.out.grown g)
    replace G := Lib.hid (grown_trans G.out g)
    clear g
    go_wp2_with fail
    refine (Same_n (NumC.none _) (NumC.none _) rfl).mono ?_
    rintro e w21 ⟨rfl, g⟩
    replace Na := Lib.hid (Na.out.grown g)
    replace Nb := Lib.hid (Nb.out.grown g)
    replace Nc := Lib.hid (Nc.out.grown g)
    replace Nd := Lib.hid (Nd.out.grown g)
    replace Nx := Lib.hid (Nx.out.grown g)
    replace Ny := Lib.hid (Ny.out.grown g)
    replace Nm1 := Lib.hid (Nm1.out.grown g)
    replace Nm2 := Lib.hid (Nm2.out.grown g)
    replace Np1 := Lib.hid (Np1.out.grown g)
    replace Np2 := Lib.hid (Np2.out.grown g)
    replace Nt1 := Lib.hid (Nt1.out.grown g)
    replace Nt2 := Lib.hid (Nt2.out.grown g)
    replace G := Lib.hid (grown_trans G.out g)
    clear g
    go_wp2_with fail
    refine (Same_n (NumC.none _) (NumC.none _) rfl).mono ?_
    rintro e w22 ⟨rfl, g⟩
    replace Na := Lib.hid (Na.out.grown g)
    replace Nb := Lib.hid (Nb.out.grown g)
    replace Nc := Lib.hid (Nc.out.grown g)
    replace Nd := Lib.hid (Nd.out.grown g)
    replace Nx := Lib.hid (Nx.out.grown g)
    replace Ny := Lib.hid (Ny.out.grown g)
    replace Nm1 := Lib.hid (Nm1.out.grown g)
    replace Nm2 := Lib.hid (Nm2.out.grown g)
    replace Np1 := Lib.hid (Np1.out.grown g)
    replace Np2 := Lib.hid (Np2.out.grown g)
    replace Nt1 := Lib.hid (Nt1.out.grown g)
    replace Nt2 := Lib.hid (Nt2.out.grown g)
    replace G := Lib.hid (grown_trans G.out g)
    clear g
    go_wp2_with fail
    refine (Bits_n Na.out (by omega)).mono ?_
    rintro e w23 ⟨rfl, rfl⟩
    go_wp2_with fail
    refine (Bits_n Nc.out (by omega)).mono ?_
    rintro e w24 ⟨rfl, rfl⟩
    go_wp2_with fail
    refine (wakes_true _).mono ?_
    rintro e w25 ⟨rfl, g⟩
    replace Na := Lib.hid (Na.out.grown g)
    replace Nb := Lib.hid (Nb.out.grown g)
    replace Nc := Lib.hid (Nc.out.grown g)
    replace Nd := Lib.hid (Nd.out.grown g)
    replace Nx := Lib.hid (Nx.out.grown g)
    replace Ny := Lib.hid (Ny.out.grown g)
    replace Nm1 := Lib.hid (Nm1.out.grown g)
    replace Nm2 := Lib.hid (Nm2.out.grown g)
    replace Np1 := Lib.hid (Np1.out.grown g)
    replace Np2 := Lib.hid (Np2.out.grown g)
    replace Nt1 := Lib.hid (Nt1.out.grown g)
    replace Nt2 := Lib.hid (Nt2.out.grown g)
    replace G := Lib.hid (grown_trans G.out g)
    clear g
    go_wp2_with fail
    go_ret
    exact ⟨rfl, G.out⟩

set_option maxRecDepth 100000 in
theorem lifted (os : Os) (started : os.Started) (H : Type) (enc : TypeId × Value → H) :
    ReturnsInHanded {} Try.checked os 10 .any (Rows.limbNoughtsSpec.pre6 enc Try.prog Try.f10 Rows.limbNoughtsRow.domain false) (Rows.limbNoughtsSpec.post enc Try.prog Try.f10 false true false false) := by
  refine returnsInHanded_of_change (C := Try.checked) Try.own started (by kernel_rfl) Try.func10
    (ChangeSpec.witness6 (enc := enc) (C := Try.checked) false ⟨#[], #[.slice none 0 0, .slice none 0 0, .int .i64 0], []⟩ 8 (by kernel_rfl) (by kernel_rfl) (by kernel_rfl) (by kernel_rfl)) ?_
  intro W base args ds gs before hval0 hW _ _
  have hval : ∀ (j : Nat) t v, Try.f10.params[j]? = some t → args[j]? = some v → Value.okWide Try.prog W .any base t v := hval0
  obtain ⟨p, q, hA0, hV, rfl, _, _⟩ := id hW
  have hA : DataW.TrodAll enc Try.prog W 0 (fun _ => true) true Try.f10.params.toList args.toList ds p := hA0
  rw [Try.params10] at hA hval
  obtain ⟨v0, vs0, d0, ds0, p0, q0, hargs, rfl, rfl, h0, r0⟩ := trodAll_cons hA
  obtain ⟨v1, vs1, d1, ds1, p1, q1, rfl, rfl, rfl, h1, r1⟩ := trodAll_cons r0
  obtain ⟨v2, vs2, d2, ds2, p2, q2, rfl, rfl, rfl, h2, r2⟩ := trodAll_cons r1
  obtain ⟨rfl, rfl, rfl⟩ := trodAll_nil r2
  obtain rfl : args = #[v0, v1, v2] := by cases args; simp_all
  obtain ⟨xs0, s0, a0⟩ := sl_of_trod Try.underlying22 Try.underlying52 (by kernel_rfl) h0 (hval 0 22 v0 rfl rfl)
  obtain ⟨xs1, s1, a1⟩ := sl_of_trod Try.underlying22 Try.underlying52 (by kernel_rfl) h1 (hval 1 22 v1 rfl rfl)
  obtain ⟨n2, rfl, rfl, rfl, f2⟩ := open_int Try.underlying3 (hval 2 3 v2 rfl rfl) h2
  refine (walk s0 a0 s1 a1 n2 (wf_lo f2) (wf_hi f2)).mono fun e W' ⟨he, hg⟩ => ?_
  subst he
  refine ⟨_, rfl, law_post Try.laidOut rfl (by kernel_rfl) Try.underlying4 ?_ ?_ hW hg⟩
  · rw [Try.params10]; decide +kernel
  · rw [Try.params10]
    intro ds h
    match ds, h with
    | [_, _, _], _ => rfl

theorem holds : Rows.LimbNoughtsSaid :=
  OpenClaim.holds_of_wide 10 Try.f10 rfl rfl rfl rfl rfl rfl rfl ⟨rfl, rfl, rfl, rfl, rfl⟩ rfl rfl rfl rfl rfl (by kernel_rfl) Try.func10 (by kernel_rfl)
    (of_decide_eq_true (by kernel_rfl)) (by unfold Func.isWrapper; first | (rw [if_pos (by decide +kernel)]; kernel_rfl) | (rw [if_neg (by decide +kernel)]; exact ⟨rfl, rfl⟩))
    (fun os started H enc _ => lifted os started H enc)

end Go.Proofs.Ytkebkdmdhhpinaa.noughts
