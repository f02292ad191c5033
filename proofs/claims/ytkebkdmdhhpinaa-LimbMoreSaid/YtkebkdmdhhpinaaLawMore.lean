/- LimbMore holds: for every three slices of limbs and every number the law returns true and leaves them as they were. No condition. -/
import Derived.Test.YtkebkdmdhhpinaaRowKit
import Derived.Test.YtkebkdmdhhpinaaLawKit
namespace Go.Proofs.Ytkebkdmdhhpinaa.more
open Go.ChangeShapes Go.WideShapes Go.ChangeAt Go.RowKit

set_option maxHeartbeats 4000000 in
set_option maxRecDepth 100000 in
theorem walk {v1 v2 v3 : Value} {xs ys zs : List Nat} {w : World} (hx : Sl w .u32 v1 xs) (ax : All 4294967296 xs) (hy : Sl w .u32 v2 ys) (ay : All 4294967296 ys) (hz : Sl w .u32 v3 zs) (az : All 4294967296 zs) (n : Int) (_h1 : -9223372036854775808 ≤ n) (_h2 : n ≤ 9223372036854775807) :
    Calls Try.prog 12 #[v1, v2, v3, .int .i64 n] w (Bool_ w true) := by
  have Hx := Lib.hid hx
  have Ax := Lib.hid ax
  clear hx ax
  have Hy := Lib.hid hy
  have Ay := Lib.hid ay
  clear hy ay
  have Hz := Lib.hid hz
  have Az := Lib.hid az
  clear hz az
  go_enter Try.func12, Try.ntmps12
  go_wp2_with fail
  refine (Row_n Hx.out Ax.out 12).mono ?_
  rintro e w1 ⟨a, rfl, h, rfl⟩
  have Na := Lib.hid h
  clear h
  go_wp2_with fail
  refine (Row_n Hy.out Ay.out 8).mono ?_
  rintro e w2 ⟨b, rfl, h, rfl⟩
  have Nb := Lib.hid h
  clear h
  go_wp2_with fail
  refine (Row_n Hz.out Az.out 8).mono ?_
  rintro e w3 ⟨c, rfl, h, rfl⟩
  have Nc := Lib.hid h
  clear h
  generalize val 4294967296 (xs.take 12) = A at *
  generalize val 4294967296 (ys.take 8) = B at *
  generalize val 4294967296 (zs.take 8) = C at *
  go_wp2_with fail
  refine (Within_any n 200 _ (by omega) (by omega)).mono ?_
  rintro e w4 ⟨k, hk, rfl, rfl⟩
  have hs : shN (k : Int) = k := shN_of (by omega)
  have Hs := Lib.hid hs
  clear hs
  go_wp2_with fail
  refine (Add_n Nb.out Nc.out (by omega)).mono ?_
  rintro e w5 ⟨s, rfl, h, b, g⟩
  replace Na := Lib.hid (Na.out.grown g)
  replace Nb := Lib.hid (Nb.out.grown g)
  replace Nc := Lib.hid (Nc.out.grown g)
  have G := Lib.hid (g)
  have Ns := Lib.hid ((show NumC w5 s _ _ from ⟨h.sl, b⟩).num)
  clear h b g
  go_wp2_with fail
  refine (Mul_n Na.out Ns.out (by omega)).mono ?_
  rintro e w6 ⟨p, rfl, h, b, g⟩
  replace Na := Lib.hid (Na.out.grown g)
  replace Nb := Lib.hid (Nb.out.grown g)
  replace Nc := Lib.hid (Nc.out.grown g)
  replace Ns := Lib.hid (Ns.out.grown g)
  replace G := Lib.hid (grown_trans G.out g)
  have Np := Lib.hid ((show NumC w6 p _ _ from ⟨h.sl, b⟩).num)
  clear h b g
  go_wp2_with fail
  refine (Mul_n Na.out Nb.out (by omega)).mono ?_
  rintro e w7 ⟨q, rfl, h, b, g⟩
  replace Na := Lib.hid (Na.out.grown g)
  replace Nb := Lib.hid (Nb.out.grown g)
  replace Nc := Lib.hid (Nc.out.grown g)
  replace Ns := Lib.hid (Ns.out.grown g)
  replace Np := Lib.hid (Np.out.grown g)
  replace G := Lib.hid (grown_trans G.out g)
  have Nq := Lib.hid ((show NumC w7 q _ _ from ⟨h.sl, b⟩).num)
  clear h b g
  obtain ⟨pq, lq, cq, rfl⟩ := Nq.out.slice
  go_wp2_with fail
  refine (Mul_n Na.out Nc.out (by omega)).mono ?_
  rintro e w8 ⟨r, rfl, h, b, g⟩
  replace Na := Lib.hid (Na.out.grown g)
  replace Nb := Lib.hid (Nb.out.grown g)
  replace Nc := Lib.hid (Nc.out.grown g)
  replace Ns := Lib.hid (Ns.out.grown g)
  replace Np := Lib.hid (Np.out.grown g)
  replace Nq := Lib.hid (Nq.out.grown g)
  replace G := Lib.hid (grown_trans G.out g)
  have Nr := Lib.hid ((show NumC w8 r _ _ from ⟨h.sl, b⟩).num)
  clear h b g
  obtain ⟨pr, lr, cr, rfl⟩ := Nr.out.slice
  go_wp2_with fail
  refine (Sum2_n Nq.out Nr.out (by omega)).mono ?_
  rintro e w9 ⟨t, rfl, h, b, g⟩
  replace Na := Lib.hid (Na.out.grown g)
  replace Nb := Lib.hid (Nb.out.grown g)
  replace Nc := Lib.hid (Nc.out.grown g)
  replace Ns := Lib.hid (Ns.out.grown g)
  replace Np := Lib.hid (Np.out.grown g)
  replace Nq := Lib.hid (Nq.out.grown g)
  replace Nr := Lib.hid (Nr.out.grown g)
  replace G := Lib.hid (grown_trans G.out g)
  have Nt := Lib.hid ((show NumC w9 t _ _ from ⟨h.sl, b⟩).num)
  clear h b g
  go_wp2_with fail
  refine (Cmp_n 0 Np.out Nt.out (cmpN_zero (Nat.mul_add _ _ _))).mono ?_
  rintro e w10 ⟨rfl, g⟩
  replace Na := Lib.hid (Na.out.grown g)
  replace Nb := Lib.hid (Nb.out.grown g)
  replace Nc := Lib.hid (Nc.out.grown g)
  replace Ns := Lib.hid (Ns.out.grown g)
  replace Np := Lib.hid (Np.out.grown g)
  replace Nq := Lib.hid (Nq.out.grown g)
  replace Nr := Lib.hid (Nr.out.grown g)
  replace Nt := Lib.hid (Nt.out.grown g)
  replace G := Lib.hid (grown_trans G.out g)
  clear g
  go_wp2_with fail
  refine (Shl_n (k : Int) 7 Na.out (by omega) (by rw [Hs.out]; omega)).mono ?_
  rintro e w11 ⟨u, rfl, h, b, g⟩
  replace Na := Lib.hid (Na.out.grown g)
  replace Nb := Lib.hid (Nb.out.grown g)
  replace Nc := Lib.hid (Nc.out.grown g)
  replace Ns := Lib.hid (Ns.out.grown g)
  replace Np := Lib.hid (Np.out.grown g)
  replace Nq := Lib.hid (Nq.out.grown g)
  replace Nr := Lib.hid (Nr.out.grown g)
  replace Nt := Lib.hid (Nt.out.grown g)
  replace G := Lib.hid (grown_trans G.out g)
  have Nu := Lib.hid ((show NumC w11 u _ _ from ⟨h.sl, b⟩).num)
  clear h b g
  go_wp2_with fail
  refine (Shl_n (k : Int) 7 (Num.one _) (by omega) (by rw [Hs.out]; omega)).mono ?_
  rintro e w12 ⟨m, rfl, h, b, g⟩
  replace g := grown_trans (grown_alloc _ (.cells #[.int .u32 1] 52) none) g
  replace Na := Lib.hid (Na.out.grown g)
  replace Nb := Lib.hid (Nb.out.grown g)
  replace Nc := Lib.hid (Nc.out.grown g)
  replace Ns := Lib.hid (Ns.out.grown g)
  replace Np := Lib.hid (Np.out.grown g)
  replace Nq := Lib.hid (Nq.out.grown g)
  replace Nr := Lib.hid (Nr.out.grown g)
  replace Nt := Lib.hid (Nt.out.grown g)
  replace Nu := Lib.hid (Nu.out.grown g)
  replace G := Lib.hid (grown_trans G.out g)
  have Nm := Lib.hid ((show NumC w12 m _ _ from ⟨h.sl, b⟩).num)
  clear h b g
  go_wp2_with fail
  refine (Mul_n Na.out Nm.out (by omega)).mono ?_
  rintro e w13 ⟨o, rfl, h, b, g⟩
  replace Na := Lib.hid (Na.out.grown g)
  replace Nb := Lib.hid (Nb.out.grown g)
  replace Nc := Lib.hid (Nc.out.grown g)
  replace Ns := Lib.hid (Ns.out.grown g)
  replace Np := Lib.hid (Np.out.grown g)
  replace Nq := Lib.hid (Nq.out.grown g)
  replace Nr := Lib.hid (Nr.out.grown g)
  replace Nt := Lib.hid (Nt.out.grown g)
  replace Nu := Lib.hid (Nu.out.grown g)
  replace Nm := Lib.hid (Nm.out.grown g)
  replace G := Lib.hid (grown_trans G.out g)
  have No := Lib.hid ((show NumC w13 o _ _ from ⟨h.sl, b⟩).num)
  clear h b g
  go_wp2_with fail
  refine (Cmp_n 0 Nu.out No.out (cmpN_zero (by rw [Nat.one_mul]))).mono ?_
  rintro e w14 ⟨rfl, g⟩
  replace Na := Lib.hid (Na.out.grown g)
  replace Nb := Lib.hid (Nb.out.grown g)
  replace Nc := Lib.hid (Nc.out.grown g)
  replace Ns := Lib.hid (Ns.out.grown g)
  replace Np := Lib.hid (Np.out.grown g)
  replace Nq := Lib.hid (Nq.out.grown g)
  replace Nr := Lib.hid (Nr.out.grown g)
  replace Nt := Lib.hid (Nt.out.grown g)
  replace Nu := Lib.hid (Nu.out.grown g)
  replace Nm := Lib.hid (Nm.out.grown g)
  replace No := Lib.hid (No.out.grown g)
  replace G := Lib.hid (grown_trans G.out g)
  clear g
  go_wp2_with fail
  refine (Bits_n Nb.out (by omega)).mono ?_
  rintro e w15 ⟨rfl, rfl⟩
  by_cases hB : B = 0
  · subst hB
    go_wp2_with fail
    refine (wakes_true _).mono ?_
    rintro e w16 ⟨rfl, g⟩
    replace Na := Lib.hid (Na.out.grown g)
    replace Nb := Lib.hid (Nb.out.grown g)
    replace Nc := Lib.hid (Nc.out.grown g)
    replace Ns := Lib.hid (Ns.out.grown g)
    replace Np := Lib.hid (Np.out.grown g)
    replace Nq := Lib.hid (Nq.out.grown g)
    replace Nr := Lib.hid (Nr.out.grown g)
    replace Nt := Lib.hid (Nt.out.grown g)
    replace Nu := Lib.hid (Nu.out.grown g)
    replace Nm := Lib.hid (Nm.out.grown g)
    replace No := Lib.hid (No.out.grown g)
    replace G := Lib.hid (grown_trans G.out g)
    clear g
    go_wp2_with fail
    go_ret
    exact ⟨rfl, G.out⟩
  · have tB : ((((dig 2 B).length : Nat) : Int) == 0) = false := by rw [beq_eq_false_iff_ne]; intro h; exact hB (bits_zero (by omega))
    have HB := Lib.hid hB
    clear hB
    go_wp2_with fail
    refine (Bits_n Nc.out (by omega)).mono ?_
    rintro e w16 ⟨rfl, rfl⟩
    by_cases hC : C = 0
    · subst hC
      go_wp2_with fail
      refine (wakes_true _).mono ?_
      rintro e w17 ⟨rfl, g⟩
      replace Na := Lib.hid (Na.out.grown g)
      replace Nb := Lib.hid (Nb.out.grown g)
      replace Nc := Lib.hid (Nc.out.grown g)
      replace Ns := Lib.hid (Ns.out.grown g)
      replace Np := Lib.hid (Np.out.grown g)
      replace Nq := Lib.hid (Nq.out.grown g)
      replace Nr := Lib.hid (Nr.out.grown g)
      replace Nt := Lib.hid (Nt.out.grown g)
      replace Nu := Lib.hid (Nu.out.grown g)
      replace Nm := Lib.hid (Nm.out.grown g)
      replace No := Lib.hid (No.out.grown g)
      replace G := Lib.hid (grown_trans G.out g)
      clear g
      go_wp2_with fail
      go_ret
      exact ⟨rfl, G.out⟩
    · have tC : ((((dig 2 C).length : Nat) : Int) == 0) = false := by rw [beq_eq_false_iff_ne]; intro h; exact hC (bits_zero (by omega))
      have HC := Lib.hid hC
      clear hC
      go_wp2_with fail
      refine (DivMod_n Na.out Nb.out (by omega) HB.out).mono ?_
      rintro e w17 ⟨d, d2, rfl, h1, h2, -, b1, b2, g⟩
      replace Na := Lib.hid (Na.out.grown g)
      replace Nb := Lib.hid (Nb.out.grown g)
      replace Nc := Lib.hid (Nc.out.grown g)
      replace Ns := Lib.hid (Ns.out.grown g)
      replace Np := Lib.hid (Np.out.grown g)
      replace Nq := Lib.hid (Nq.out.grown g)
      replace Nr := Lib.hid (Nr.out.grown g)
      replace Nt := Lib.hid (Nt.out.grown g)
      replace Nu := Lib.hid (Nu.out.grown g)
      replace Nm := Lib.hid (Nm.out.grown g)
      replace No := Lib.hid (No.out.grown g)
      replace G := Lib.hid (grown_trans G.out g)
      have Nd := Lib.hid (show NumC w17 d _ _ from ⟨h1.sl, b1⟩).num
      clear h1 h2 b1 b2 g
      go_wp2_with fail
      refine (DivMod_n Nd.out Nc.out (by omega) HC.out).mono ?_
      rintro e w18 ⟨f, f2, rfl, h1, h2, -, b1, b2, g⟩
      replace Na := Lib.hid (Na.out.grown g)
      replace Nb := Lib.hid (Nb.out.grown g)
      replace Nc := Lib.hid (Nc.out.grown g)
      replace Ns := Lib.hid (Ns.out.grown g)
      replace Np := Lib.hid (Np.out.grown g)
      replace Nq := Lib.hid (Nq.out.grown g)
      replace Nr := Lib.hid (Nr.out.grown g)
      replace Nt := Lib.hid (Nt.out.grown g)
      replace Nu := Lib.hid (Nu.out.grown g)
      replace Nm := Lib.hid (Nm.out.grown g)
      replace No := Lib.hid (No.out.grown g)
      replace Nd := Lib.hid (Nd.out.grown g)
      replace G := Lib.hid (grown_trans G.out g)
      have Nf := Lib.hid (show NumC w18 f _ _ from ⟨h1.sl, b1⟩).num
      clear h1 h2 b1 b2 g
      go_wp2_with fail
      refine (Mul_n Nb.out Nc.out (by omega)).mono ?_
      rintro e w19 ⟨i, rfl, h, b, g⟩
      replace Na := Lib.hid (Na.out.grown g)
      replace Nb := Lib.hid (Nb.out.grown g)
      replace Nc := Lib.hid (Nc.out.grown g)
      replace Ns := Lib.hid (Ns.out.grown g)
      replace Np := Lib.hid (Np.out.grown g)
      replace Nq := Lib.hid (Nq.out.grown g)
      replace Nr := Lib.hid (Nr.out.grown g)
      replace Nt := Lib.hid (Nt.out.grown g)
      replace Nu := Lib.hid (Nu.out.grown g)
      replace Nm := Lib.hid (Nm.out.grown g)
      replace No := Lib.hid (No.out.grown g)
      replace Nd := Lib.hid (Nd.out.grown g)
      replace Nf := Lib.hid (Nf.out.grown g)
      replace G := Lib.hid (grown_trans G.out g)
      have Ni := Lib.hid ((show NumC w19 i _ _ from ⟨h.sl, b⟩).num)
      clear h b g
      go_wp2_with fail
      refine (DivMod_n Na.out Ni.out (by omega) (Nat.mul_ne_zero HB.out HC.out)).mono ?_
      rintro e w20 ⟨j, j2, rfl, h1, h2, -, b1, b2, g⟩
      replace Na := Lib.hid (Na.out.grown g)
      replace Nb := Lib.hid (Nb.out.grown g)
      replace Nc := Lib.hid (Nc.out.grown g)
      replace Ns := Lib.hid (Ns.out.grown g)
      replace Np := Lib.hid (Np.out.grown g)
      replace Nq := Lib.hid (Nq.out.grown g)
      replace Nr := Lib.hid (Nr.out.grown g)
      replace Nt := Lib.hid (Nt.out.grown g)
      replace Nu := Lib.hid (Nu.out.grown g)
      replace Nm := Lib.hid (Nm.out.grown g)
      replace No := Lib.hid (No.out.grown g)
      replace Nd := Lib.hid (Nd.out.grown g)
      replace Nf := Lib.hid (Nf.out.grown g)
      replace Ni := Lib.hid (Ni.out.grown g)
      replace G := Lib.hid (grown_trans G.out g)
      have Nj := Lib.hid (show NumC w20 j _ _ from ⟨h1.sl, b1⟩).num
      clear h1 h2 b1 b2 g
      go_wp2_with fail
      refine (Cmp_n 0 Nf.out Nj.out (cmpN_zero (Nat.div_div_eq_div_mul _ _ _))).mono ?_
      rintro e w21 ⟨rfl, g⟩
      replace Na := Lib.hid (Na.out.grown g)
      replace Nb := Lib.hid (Nb.out.grown g)
      replace Nc := Lib.hid (Nc.out.grown g)
      replace Ns := Lib.hid (Ns.out.grown g)
      replace Np := Lib.hid (Np.out.grown g)
      replace Nq := Lib.hid (Nq.out.grown g)
      replace Nr := Lib.hid (Nr.out.grown g)
      replace Nt := Lib.hid (Nt.out.grown g)
      replace Nu := Lib.hid (Nu.out.grown g)
      replace Nm := Lib.hid (Nm.out.grown g)
      replace No := Lib.hid (No.out.grown g)
      replace Nd := Lib.hid (Nd.out.grown g)
      replace Nf := Lib.hid (Nf.out.grown g)
      replace Ni := Lib.hid (Ni.out.grown g)
      replace Nj := Lib.hid (Nj.out.grown g)
      replace G := Lib.hid (grown_trans G.out g)
      clear g
      go_wp2_with fail
      refine (wakes_true _).mono ?_
      rintro e w22 ⟨rfl, g⟩
      replace Na := Lib.hid (Na.out.grown g)
      replace Nb := Lib.hid (Nb.out.grown g)
      replace Nc := Lib.hid (Nc.out.grown g)
      replace Ns := Lib.hid (Ns.out.grown g)
      replace Np := Lib.hid (Np.out.grown g)
      replace Nq := Lib.hid (Nq.out.grown g)
      replace Nr := Lib.hid (Nr.out.grown g)
      replace Nt := Lib.hid (Nt.out.grown g)
      replace Nu := Lib.hid (Nu.out.grown g)
      replace Nm := Lib.hid (Nm.out.grown g)
      replace No := Lib.hid (No.out.grown g)
      replace Nd := Lib.hid (Nd.out.grown g)
      replace Nf := Lib.hid (Nf.out.grown g)
      replace Ni := Lib.hid (Ni.out.grown g)
      replace Nj := Lib.hid (Nj.out.grown g)
      replace G := Lib.hid (grown_trans G.out g)
      clear g
      go_wp2_with fail
      go_ret
      exact ⟨rfl, G.out⟩

set_option maxRecDepth 100000 in
theorem lifted (os : Os) (started : os.Started) (H : Type) (enc : TypeId × Value → H) :
    ReturnsInHanded {} Try.checked os 12 .any (Rows.limbMoreSpec.pre6 enc Try.prog Try.f12 Rows.limbMoreRow.domain false) (Rows.limbMoreSpec.post enc Try.prog Try.f12 false true false false) := by
  refine returnsInHanded_of_change (C := Try.checked) Try.own started (by kernel_rfl) Try.func12
    (ChangeSpec.witness6 (enc := enc) (C := Try.checked) false ⟨#[], #[.slice none 0 0, .slice none 0 0, .slice none 0 0, .int .i64 0], []⟩ 8 (by kernel_rfl) (by kernel_rfl) (by kernel_rfl) (by kernel_rfl)) ?_
  intro W base args ds gs before hval0 hW _ _
  have hval : ∀ (j : Nat) t v, Try.f12.params[j]? = some t → args[j]? = some v → Value.okWide Try.prog W .any base t v := hval0
  obtain ⟨p, q, hA0, hV, rfl, _, _⟩ := id hW
  have hA : DataW.TrodAll enc Try.prog W 0 (fun _ => true) true Try.f12.params.toList args.toList ds p := hA0
  rw [Try.params12] at hA hval
  obtain ⟨v0, vs0, d0, ds0, p0, q0, hargs, rfl, rfl, h0, r0⟩ := trodAll_cons hA
  obtain ⟨v1, vs1, d1, ds1, p1, q1, rfl, rfl, rfl, h1, r1⟩ := trodAll_cons r0
  obtain ⟨v2, vs2, d2, ds2, p2, q2, rfl, rfl, rfl, h2, r2⟩ := trodAll_cons r1
  obtain ⟨v3, vs3, d3, ds3, p3, q3, rfl, rfl, rfl, h3, r3⟩ := trodAll_cons r2
  obtain ⟨rfl, rfl, rfl⟩ := trodAll_nil r3
  obtain rfl : args = #[v0, v1, v2, v3] := by cases args; simp_all
  obtain ⟨xs0, s0, a0⟩ := sl_of_trod Try.underlying22 Try.underlying52 (by kernel_rfl) h0 (hval 0 22 v0 rfl rfl)
  obtain ⟨xs1, s1, a1⟩ := sl_of_trod Try.underlying22 Try.underlying52 (by kernel_rfl) h1 (hval 1 22 v1 rfl rfl)
  obtain ⟨xs2, s2, a2⟩ := sl_of_trod Try.underlying22 Try.underlying52 (by kernel_rfl) h2 (hval 2 22 v2 rfl rfl)
  obtain ⟨n3, rfl, rfl, rfl, f3⟩ := open_int Try.underlying3 (hval 3 3 v3 rfl rfl) h3
  refine (walk s0 a0 s1 a1 s2 a2 n3 (wf_lo f3) (wf_hi f3)).mono fun e W' ⟨he, hg⟩ => ?_
  subst he
  refine ⟨_, rfl, law_post Try.laidOut rfl (by kernel_rfl) Try.underlying4 ?_ ?_ hW hg⟩
  · rw [Try.params12]; decide +kernel
  · rw [Try.params12]
    intro ds h
    match ds, h with
    | [_, _, _, _], _ => rfl

theorem holds : Rows.LimbMoreSaid :=
  OpenClaim.holds_of_wide 12 Try.f12 rfl rfl rfl rfl rfl rfl rfl ⟨rfl, rfl, rfl, rfl, rfl⟩ rfl rfl rfl rfl rfl (by kernel_rfl) Try.func12 (by kernel_rfl)
    (of_decide_eq_true (by kernel_rfl)) (by unfold Func.isWrapper; first | (rw [if_pos (by decide +kernel)]; kernel_rfl) | (rw [if_neg (by decide +kernel)]; exact ⟨rfl, rfl⟩))
    (fun os started H enc _ => lifted os started H enc)

end Go.Proofs.Ytkebkdmdhhpinaa.more
