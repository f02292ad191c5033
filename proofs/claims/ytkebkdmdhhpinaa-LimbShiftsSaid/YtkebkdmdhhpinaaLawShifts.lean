/- LimbShifts holds: for every slice of limbs and every number the law returns true and leaves the slice as it was. No condition. -/
import Derived.Test.YtkebkdmdhhpinaaRefK
namespace Go.Proofs.Ytkebkdmdhhpinaa.shifts
open Go.ChangeShapes Go.WideShapes Go.ChangeAt Go.RowKit

set_option maxHeartbeats 4000000 in
set_option maxRecDepth 100000 in
theorem walk {v1 : Value} {xs : List Nat} {w : World} (hx : Sl w .u32 v1 xs) (ax : All 4294967296 xs) (n : Int) (_h1 : -9223372036854775808 ≤ n) (_h2 : n ≤ 9223372036854775807) :
    Calls Try.prog 6 #[v1, .int .i64 n] w (Bool_ w true) := by
  have Hx := Lib.hid hx
  have Ax := Lib.hid (ax.take 16)
  have lx : (xs.take 16).length ≤ 16 := bd_len
  clear hx ax
  go_enter Try.func6, Try.ntmps6
  go_wp2_with fail
  refine (Row_sl (k := 16) Hx.out).mono ?_
  rintro e w' ⟨a, rfl, h, rfl⟩
  have Ha := Lib.hid h
  clear h
  generalize xs.take 16 = as1 at *
  by_cases hn : 600 < n
  · go_wp2_with fail
    refine (Within_any n 600 _ (by omega) (by omega)).mono ?_
    rintro e w' ⟨k, hk, rfl, rfl⟩
    have k0 : ¬ (k : Int) < 0 := by omega
    have k1 : (0 : Int) ≤ (k : Int) := by omega
    go_wp2_with fail
    refine (Lend_any Ha.out (by omega)).mono ?_
    rintro e w1 ⟨x, rfl, hl, g⟩
    have Lx := Lib.hid hl
    have G := Lib.hid g
    clear hl g
    have HN := Lib.hid (shN_of (show k ≤ 65536 by omega))
    go_wp2_with fail
    refine (PowD_n k 20 (by omega) (by omega)).mono ?_
    rintro e w2 ⟨p, rfl, hm, bm, g⟩
    have Np := Lib.hid (show Dec w2 p _ _ from ⟨hm.sl, bm⟩)
    have K := Lib.hid g
    clear hm bm g
    go_wp2_with fail
    refine (Shl_any (k : Int) ((Lx.out.sl (by omega)).grown K.out (.inl rfl)) Ax.out (by omega)).mono ?_
    rintro e w3 ⟨u, rfl, hp, g⟩
    have Hu := Lib.hid (HN.out ▸ hp.sl)
    replace Np := Lib.hid (Np.out.grown g)
    replace K := Lib.hid (grown_trans K.out g)
    clear hp g
    go_wp2_with fail
    refine (Shr_any (k : Int) ((Lx.out.sl (by omega)).grown K.out (.inl rfl)) Ax.out (by omega)).mono ?_
    rintro e w4 ⟨d, rfl, hp, g⟩
    have Hd := Lib.hid (HN.out ▸ hp.sl)
    replace Hu := Lib.hid (Hu.out.grown g (.inl rfl))
    replace Np := Lib.hid (Np.out.grown g)
    replace K := Lib.hid (grown_trans K.out g)
    clear hp g
    go_wp2_with fail
    refine (From_n 16 (Ha.out.grown (grown_trans G.out K.out) (.inl rfl)) Ax.out lx (by omega)).mono ?_
    rintro e w5 ⟨m, rfl, hm, bm, g⟩
    have Nm := Lib.hid (show Dec w5 m _ _ from ⟨hm.sl, bm⟩)
    replace Hu := Lib.hid (Hu.out.grown g (.inl rfl))
    replace Hd := Lib.hid (Hd.out.grown g (.inl rfl))
    replace Np := Lib.hid (Np.out.grown g)
    replace K := Lib.hid (grown_trans K.out g)
    clear hm bm g
    go_wp2_with fail
    refine (DivD_n Nm.out Np.out (by omega) (Nat.pow_pos (by omega))).mono ?_
    rintro e w6 ⟨q, r, rfl, hq, -, g⟩
    have Nq := Lib.hid hq
    replace Hu := Lib.hid (Hu.out.grown g (.inl rfl))
    replace Hd := Lib.hid (Hd.out.grown g (.inl rfl))
    replace Np := Lib.hid (Np.out.grown g)
    replace K := Lib.hid (grown_trans K.out g)
    clear hq g Nm
    go_wp2_with fail
    refine (From_n 16 (Ha.out.grown (grown_trans G.out K.out) (.inl rfl)) Ax.out lx (by omega)).mono ?_
    rintro e w7 ⟨m2, rfl, hm, bm, g⟩
    have Nm := Lib.hid (show Dec w7 m2 _ _ from ⟨hm.sl, bm⟩)
    replace Hu := Lib.hid (Hu.out.grown g (.inl rfl))
    replace Hd := Lib.hid (Hd.out.grown g (.inl rfl))
    replace Np := Lib.hid (Np.out.grown g)
    replace Nq := Lib.hid (Nq.out.grown g)
    replace K := Lib.hid (grown_trans K.out g)
    clear hm bm g
    go_wp2_with fail
    refine (MulD_n Nm.out Np.out (by omega)).mono ?_
    rintro e w8 ⟨pr, rfl, hm, bm, g⟩
    have Nr := Lib.hid (show Dec w8 pr _ _ from ⟨hm.sl, bm⟩)
    replace Hu := Lib.hid (Hu.out.grown g (.inl rfl))
    replace Hd := Lib.hid (Hd.out.grown g (.inl rfl))
    replace Nq := Lib.hid (Nq.out.grown g)
    replace K := Lib.hid (grown_trans K.out g)
    clear hm bm g
    go_wp2_with fail
    refine (Is_n Nr.out (by omega) Hu.out).mono ?_
    rintro e w9 ⟨rfl, g⟩
    replace Hd := Lib.hid (Hd.out.grown g (.inl rfl))
    replace Nq := Lib.hid (Nq.out.grown g)
    replace K := Lib.hid (grown_trans K.out g)
    clear g
    go_wp2_with fail
    refine (Is_n Nq.out (by omega) Hd.out).mono ?_
    rintro e w10 ⟨rfl, g⟩
    replace K := Lib.hid (grown_trans K.out g)
    clear g
    go_wp2_with fail
    refine (Bits_any ((Lx.out.sl (by omega)).grown K.out (.inl rfl)) Ax.out (by omega)).mono ?_
    rintro e w11 ⟨rfl, rfl⟩
    go_wp2_with fail
    refine (From_n 16 (Ha.out.grown (grown_trans G.out K.out) (.inl rfl)) Ax.out lx (by omega)).mono ?_
    rintro e w12 ⟨m3, rfl, hm, bm, g⟩
    have Nm3 := Lib.hid (show Dec w12 m3 _ _ from ⟨hm.sl, bm⟩)
    replace K := Lib.hid (grown_trans K.out g)
    clear hm bm g
    go_wp2_with fail
    refine (BitsD_n Nm3.out (by omega)).mono ?_
    rintro e w13 ⟨rfl, g⟩
    replace K := Lib.hid (grown_trans K.out g)
    clear g
    go_wp2_with fail
    refine (Intact_any (Lx.out.grown K.out (.inl rfl)) (Ha.out.grown (grown_trans G.out K.out) (.inl rfl)) (by omega)).mono ?_
    rintro e w14 ⟨rfl, g⟩
    replace K := Lib.hid (grown_trans K.out g)
    clear g
    go_wp2_with fail
    refine (wakes_true _).mono ?_
    rintro e w15 ⟨rfl, g⟩
    replace K := Lib.hid (grown_trans K.out g)
    clear g
    go_wp2_with fail
    go_ret
    exact ⟨rfl, grown_trans G.out K.out⟩
  by_cases h0 : n < 0
  · go_wp2_with fail
    refine (Lend_any Ha.out (by omega)).mono ?_
    rintro e w1 ⟨x, rfl, hl, g⟩
    have Lx := Lib.hid hl
    have G := Lib.hid g
    clear hl g
    have HN := Lib.hid (show shN n = 0 by unfold shN; omega)
    go_wp2_with fail
    refine (PowD_n 0 20 (by omega) (by omega)).mono ?_
    rintro e w2 ⟨p, rfl, hm, bm, g⟩
    have Np := Lib.hid (show Dec w2 p _ _ from ⟨hm.sl, bm⟩)
    have K := Lib.hid g
    clear hm bm g
    go_wp2_with fail
    refine (Shl_any n ((Lx.out.sl (by omega)).grown K.out (.inl rfl)) Ax.out (by omega)).mono ?_
    rintro e w3 ⟨u, rfl, hp, g⟩
    have Hu := Lib.hid (HN.out ▸ hp.sl)
    replace Np := Lib.hid (Np.out.grown g)
    replace K := Lib.hid (grown_trans K.out g)
    clear hp g
    go_wp2_with fail
    refine (Shr_any n ((Lx.out.sl (by omega)).grown K.out (.inl rfl)) Ax.out (by omega)).mono ?_
    rintro e w4 ⟨d, rfl, hp, g⟩
    have Hd := Lib.hid (HN.out ▸ hp.sl)
    replace Hu := Lib.hid (Hu.out.grown g (.inl rfl))
    replace Np := Lib.hid (Np.out.grown g)
    replace K := Lib.hid (grown_trans K.out g)
    clear hp g
    go_wp2_with fail
    refine (From_n 16 (Ha.out.grown (grown_trans G.out K.out) (.inl rfl)) Ax.out lx (by omega)).mono ?_
    rintro e w5 ⟨m, rfl, hm, bm, g⟩
    have Nm := Lib.hid (show Dec w5 m _ _ from ⟨hm.sl, bm⟩)
    replace Hu := Lib.hid (Hu.out.grown g (.inl rfl))
    replace Hd := Lib.hid (Hd.out.grown g (.inl rfl))
    replace Np := Lib.hid (Np.out.grown g)
    replace K := Lib.hid (grown_trans K.out g)
    clear hm bm g
    go_wp2_with fail
    refine (DivD_n Nm.out Np.out (by omega) (Nat.pow_pos (by omega))).mono ?_
    rintro e w6 ⟨q, r, rfl, hq, -, g⟩
    have Nq := Lib.hid hq
    replace Hu := Lib.hid (Hu.out.grown g (.inl rfl))
    replace Hd := Lib.hid (Hd.out.grown g (.inl rfl))
    replace Np := Lib.hid (Np.out.grown g)
    replace K := Lib.hid (grown_trans K.out g)
    clear hq g Nm
    go_wp2_with fail
    refine (From_n 16 (Ha.out.grown (grown_trans G.out K.out) (.inl rfl)) Ax.out lx (by omega)).mono ?_
    rintro e w7 ⟨m2, rfl, hm, bm, g⟩
    have Nm := Lib.hid (show Dec w7 m2 _ _ from ⟨hm.sl, bm⟩)
    replace Hu := Lib.hid (Hu.out.grown g (.inl rfl))
    replace Hd := Lib.hid (Hd.out.grown g (.inl rfl))
    replace Np := Lib.hid (Np.out.grown g)
    replace Nq := Lib.hid (Nq.out.grown g)
    replace K := Lib.hid (grown_trans K.out g)
    clear hm bm g
    go_wp2_with fail
    refine (MulD_n Nm.out Np.out (by omega)).mono ?_
    rintro e w8 ⟨pr, rfl, hm, bm, g⟩
    have Nr := Lib.hid (show Dec w8 pr _ _ from ⟨hm.sl, bm⟩)
    replace Hu := Lib.hid (Hu.out.grown g (.inl rfl))
    replace Hd := Lib.hid (Hd.out.grown g (.inl rfl))
    replace Nq := Lib.hid (Nq.out.grown g)
    replace K := Lib.hid (grown_trans K.out g)
    clear hm bm g
    go_wp2_with fail
    refine (Is_n Nr.out (by omega) Hu.out).mono ?_
    rintro e w9 ⟨rfl, g⟩
    replace Hd := Lib.hid (Hd.out.grown g (.inl rfl))
    replace Nq := Lib.hid (Nq.out.grown g)
    replace K := Lib.hid (grown_trans K.out g)
    clear g
    go_wp2_with fail
    refine (Is_n Nq.out (by omega) Hd.out).mono ?_
    rintro e w10 ⟨rfl, g⟩
    replace K := Lib.hid (grown_trans K.out g)
    clear g
    go_wp2_with fail
    refine (Bits_any ((Lx.out.sl (by omega)).grown K.out (.inl rfl)) Ax.out (by omega)).mono ?_
    rintro e w11 ⟨rfl, rfl⟩
    go_wp2_with fail
    refine (From_n 16 (Ha.out.grown (grown_trans G.out K.out) (.inl rfl)) Ax.out lx (by omega)).mono ?_
    rintro e w12 ⟨m3, rfl, hm, bm, g⟩
    have Nm3 := Lib.hid (show Dec w12 m3 _ _ from ⟨hm.sl, bm⟩)
    replace K := Lib.hid (grown_trans K.out g)
    clear hm bm g
    go_wp2_with fail
    refine (BitsD_n Nm3.out (by omega)).mono ?_
    rintro e w13 ⟨rfl, g⟩
    replace K := Lib.hid (grown_trans K.out g)
    clear g
    go_wp2_with fail
    refine (Intact_any (Lx.out.grown K.out (.inl rfl)) (Ha.out.grown (grown_trans G.out K.out) (.inl rfl)) (by omega)).mono ?_
    rintro e w14 ⟨rfl, g⟩
    replace K := Lib.hid (grown_trans K.out g)
    clear g
    go_wp2_with fail
    refine (wakes_true _).mono ?_
    rintro e w15 ⟨rfl, g⟩
    replace K := Lib.hid (grown_trans K.out g)
    clear g
    go_wp2_with fail
    go_ret
    exact ⟨rfl, grown_trans G.out K.out⟩
  · obtain ⟨k, rfl⟩ : ∃ k : Nat, n = (k : Int) := ⟨n.toNat, by omega⟩
    have hk : k ≤ 600 := by omega
    have k1 : (0 : Int) ≤ (k : Int) := by omega
    go_wp2_with fail
    refine (Lend_any Ha.out (by omega)).mono ?_
    rintro e w1 ⟨x, rfl, hl, g⟩
    have Lx := Lib.hid hl
    have G := Lib.hid g
    clear hl g
    have HN := Lib.hid (shN_of (show k ≤ 65536 by omega))
    go_wp2_with fail
    refine (PowD_n k 20 (by omega) (by omega)).mono ?_
    rintro e w2 ⟨p, rfl, hm, bm, g⟩
    have Np := Lib.hid (show Dec w2 p _ _ from ⟨hm.sl, bm⟩)
    have K := Lib.hid g
    clear hm bm g
    go_wp2_with fail
    refine (Shl_any (k : Int) ((Lx.out.sl (by omega)).grown K.out (.inl rfl)) Ax.out (by omega)).mono ?_
    rintro e w3 ⟨u, rfl, hp, g⟩
    have Hu := Lib.hid (HN.out ▸ hp.sl)
    replace Np := Lib.hid (Np.out.grown g)
    replace K := Lib.hid (grown_trans K.out g)
    clear hp g
    go_wp2_with fail
    refine (Shr_any (k : Int) ((Lx.out.sl (by omega)).grown K.out (.inl rfl)) Ax.out (by omega)).mono ?_
    rintro e w4 ⟨d, rfl, hp, g⟩
    have Hd := Lib.hid (HN.out ▸ hp.sl)
    replace Hu := Lib.hid (Hu.out.grown g (.inl rfl))
    replace Np := Lib.hid (Np.out.grown g)
    replace K := Lib.hid (grown_trans K.out g)
    clear hp g
    go_wp2_with fail
    refine (From_n 16 (Ha.out.grown (grown_trans G.out K.out) (.inl rfl)) Ax.out lx (by omega)).mono ?_
    rintro e w5 ⟨m, rfl, hm, bm, g⟩
    have Nm := Lib.hid (show Dec w5 m _ _ from ⟨hm.sl, bm⟩)
    replace Hu := Lib.hid (Hu.out.grown g (.inl rfl))
    replace Hd := Lib.hid (Hd.out.grown g (.inl rfl))
    replace Np := Lib.hid (Np.out.grown g)
    replace K := Lib.hid (grown_trans K.out g)
    clear hm bm g
    go_wp2_with fail
    refine (DivD_n Nm.out Np.out (by omega) (Nat.pow_pos (by omega))).mono ?_
    rintro e w6 ⟨q, r, rfl, hq, -, g⟩
    have Nq := Lib.hid hq
    replace Hu := Lib.hid (Hu.out.grown g (.inl rfl))
    replace Hd := Lib.hid (Hd.out.grown g (.inl rfl))
    replace Np := Lib.hid (Np.out.grown g)
    replace K := Lib.hid (grown_trans K.out g)
    clear hq g Nm
    go_wp2_with fail
    refine (From_n 16 (Ha.out.grown (grown_trans G.out K.out) (.inl rfl)) Ax.out lx (by omega)).mono ?_
    rintro e w7 ⟨m2, rfl, hm, bm, g⟩
    have Nm := Lib.hid (show Dec w7 m2 _ _ from ⟨hm.sl, bm⟩)
    replace Hu := Lib.hid (Hu.out.grown g (.inl rfl))
    replace Hd := Lib.hid (Hd.out.grown g (.inl rfl))
    replace Np := Lib.hid (Np.out.grown g)
    replace Nq := Lib.hid (Nq.out.grown g)
    replace K := Lib.hid (grown_trans K.out g)
    clear hm bm g
    go_wp2_with fail
    refine (MulD_n Nm.out Np.out (by omega)).mono ?_
    rintro e w8 ⟨pr, rfl, hm, bm, g⟩
    have Nr := Lib.hid (show Dec w8 pr _ _ from ⟨hm.sl, bm⟩)
    replace Hu := Lib.hid (Hu.out.grown g (.inl rfl))
    replace Hd := Lib.hid (Hd.out.grown g (.inl rfl))
    replace Nq := Lib.hid (Nq.out.grown g)
    replace K := Lib.hid (grown_trans K.out g)
    clear hm bm g
    go_wp2_with fail
    refine (Is_n Nr.out (by omega) Hu.out).mono ?_
    rintro e w9 ⟨rfl, g⟩
    replace Hd := Lib.hid (Hd.out.grown g (.inl rfl))
    replace Nq := Lib.hid (Nq.out.grown g)
    replace K := Lib.hid (grown_trans K.out g)
    clear g
    go_wp2_with fail
    refine (Is_n Nq.out (by omega) Hd.out).mono ?_
    rintro e w10 ⟨rfl, g⟩
    replace K := Lib.hid (grown_trans K.out g)
    clear g
    go_wp2_with fail
    refine (Bits_any ((Lx.out.sl (by omega)).grown K.out (.inl rfl)) Ax.out (by omega)).mono ?_
    rintro e w11 ⟨rfl, rfl⟩
    go_wp2_with fail
    refine (From_n 16 (Ha.out.grown (grown_trans G.out K.out) (.inl rfl)) Ax.out lx (by omega)).mono ?_
    rintro e w12 ⟨m3, rfl, hm, bm, g⟩
    have Nm3 := Lib.hid (show Dec w12 m3 _ _ from ⟨hm.sl, bm⟩)
    replace K := Lib.hid (grown_trans K.out g)
    clear hm bm g
    go_wp2_with fail
    refine (BitsD_n Nm3.out (by omega)).mono ?_
    rintro e w13 ⟨rfl, g⟩
    replace K := Lib.hid (grown_trans K.out g)
    clear g
    go_wp2_with fail
    refine (Intact_any (Lx.out.grown K.out (.inl rfl)) (Ha.out.grown (grown_trans G.out K.out) (.inl rfl)) (by omega)).mono ?_
    rintro e w14 ⟨rfl, g⟩
    replace K := Lib.hid (grown_trans K.out g)
    clear g
    go_wp2_with fail
    refine (wakes_true _).mono ?_
    rintro e w15 ⟨rfl, g⟩
    replace K := Lib.hid (grown_trans K.out g)
    clear g
    go_wp2_with fail
    go_ret
    exact ⟨rfl, grown_trans G.out K.out⟩

set_option maxRecDepth 100000 in
theorem lifted (os : Os) (started : os.Started) (H : Type) (enc : TypeId × Value → H) :
    ReturnsInHanded {} Try.checked os 6 .any (Rows.limbShiftsSpec.pre6 enc Try.prog Try.f6 Rows.limbShiftsRow.domain false) (Rows.limbShiftsSpec.post enc Try.prog Try.f6 false true false false) := by
  refine returnsInHanded_of_change (C := Try.checked) Try.own started (by kernel_rfl) Try.func6
    (ChangeSpec.witness6 (enc := enc) (C := Try.checked) false ⟨#[], #[.slice none 0 0, .int .i64 0], []⟩ 8 (by kernel_rfl) (by kernel_rfl) (by kernel_rfl) (by kernel_rfl)) ?_
  intro W base args ds gs before hval0 hW _ _
  have hval : ∀ (j : Nat) t v, Try.f6.params[j]? = some t → args[j]? = some v → Value.okWide Try.prog W .any base t v := hval0
  obtain ⟨p, q, hA0, hV, rfl, _, _⟩ := id hW
  have hA : DataW.TrodAll enc Try.prog W 0 (fun _ => true) true Try.f6.params.toList args.toList ds p := hA0
  rw [Try.params6] at hA hval
  obtain ⟨v0, vs0, d0, ds0, p0, q0, hargs, rfl, rfl, h0, r0⟩ := trodAll_cons hA
  obtain ⟨v1, vs1, d1, ds1, p1, q1, rfl, rfl, rfl, h1, r1⟩ := trodAll_cons r0
  obtain ⟨rfl, rfl, rfl⟩ := trodAll_nil r1
  obtain rfl : args = #[v0, v1] := by cases args; simp_all
  obtain ⟨xs0, s0, a0⟩ := sl_of_trod Try.underlying22 Try.underlying52 (by kernel_rfl) h0 (hval 0 22 v0 rfl rfl)
  obtain ⟨n1, rfl, rfl, rfl, f1⟩ := open_int Try.underlying3 (hval 1 3 v1 rfl rfl) h1
  refine (walk s0 a0 n1 (wf_lo f1) (wf_hi f1)).mono fun e W' ⟨he, hg⟩ => ?_
  subst he
  refine ⟨_, rfl, law_post Try.laidOut rfl (by kernel_rfl) Try.underlying4 ?_ ?_ hW hg⟩
  · rw [Try.params6]; decide +kernel
  · rw [Try.params6]
    intro ds h
    match ds, h with
    | [_, _], _ => rfl

theorem holds : Rows.LimbShiftsSaid :=
  OpenClaim.holds_of_wide 6 Try.f6 rfl rfl rfl rfl rfl rfl rfl ⟨rfl, rfl, rfl, rfl, rfl⟩ rfl rfl rfl rfl rfl (by kernel_rfl) Try.func6 (by kernel_rfl)
    (of_decide_eq_true (by kernel_rfl)) (by unfold Func.isWrapper; first | (rw [if_pos (by decide +kernel)]; kernel_rfl) | (rw [if_neg (by decide +kernel)]; exact ⟨rfl, rfl⟩))
    (fun os started H enc _ => lifted os started H enc)

end Go.Proofs.Ytkebkdmdhhpinaa.shifts
