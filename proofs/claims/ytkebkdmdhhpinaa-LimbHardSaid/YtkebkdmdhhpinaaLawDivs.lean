/- LimbDivs holds: for every two slices of limbs the law returns true and leaves them as they were. No condition. -/
import Derived.Test.YtkebkdmdhhpinaaRefK
namespace Go.Proofs.Ytkebkdmdhhpinaa.divs
open Go.ChangeShapes Go.WideShapes Go.ChangeAt Go.RowKit

set_option maxHeartbeats 4000000 in
set_option maxRecDepth 100000 in
theorem walk {v1 v2 : Value} {xs ys : List Nat} {w : World} (hx : Sl w .u32 v1 xs) (ax : All 4294967296 xs) (hy : Sl w .u32 v2 ys) (ay : All 4294967296 ys) :
    Calls Try.prog 5 #[v1, v2] w (Bool_ w true) := by
  have Hx := Lib.hid hx
  have Hy := Lib.hid hy
  have Ax := Lib.hid (ax.take 20)
  have Ay := Lib.hid (ay.take 14)
  have lx : (xs.take 20).length ≤ 20 := bd_len
  have ly : (ys.take 14).length ≤ 14 := bd_len
  clear hx ax hy ay
  go_enter Try.func5, Try.ntmps5
  go_wp2_with fail
  refine (Row_sl (k := 20) Hx.out).mono ?_
  rintro e w' ⟨a, rfl, h, rfl⟩
  have Ha := Lib.hid h
  clear h
  go_wp2_with fail
  refine (Row_sl (k := 14) Hy.out).mono ?_
  rintro e w' ⟨b, rfl, h, rfl⟩
  have Hb := Lib.hid h
  clear h
  generalize xs.take 20 = as1 at *
  generalize ys.take 14 = bs1 at *
  go_wp2_with fail
  refine (Lend_any Ha.out (by omega)).mono ?_
  rintro e w1 ⟨x, rfl, hl, g⟩
  have Lx := Lib.hid hl
  have G := Lib.hid g
  clear hl g
  go_wp2_with fail
  refine (Lend_any (Hb.out.grown G.out (.inl rfl)) (by omega)).mono ?_
  rintro e w2 ⟨y, rfl, hl, g⟩
  have Ly := Lib.hid hl
  replace Lx := Lib.hid (Lx.out.grown g (.inl rfl))
  replace G := Lib.hid (grown_trans G.out g)
  clear hl g
  by_cases hB : val 4294967296 bs1 = 0
  · have HB := Lib.hid hB
    clear hB
    go_wp2_with fail
    refine (DivMod_no (Num.row (Lx.out.sl (by omega)) Ax.out 20 lx) (Num.row (Ly.out.sl (by omega)) Ay.out 14 ly) (by omega) HB.out).mono ?_
    rintro e w3 ⟨rfl, g⟩
    have K := Lib.hid g
    clear g
    go_wp2_with fail
    refine (From_n 14 (Hb.out.grown (grown_trans G.out K.out) (.inl rfl)) Ay.out ly (by omega)).mono ?_
    rw [HB.out]
    rintro e w4 ⟨n, rfl, hm, bm, g⟩
    obtain ⟨pn, cn, rfl⟩ := hm.slice
    rw [dig_zero]
    replace K := Lib.hid (grown_trans K.out g)
    clear hm bm g
    go_wp2_with fail
    refine (wakes_true _).mono ?_
    rintro e w5 ⟨rfl, g⟩
    replace K := Lib.hid (grown_trans K.out g)
    clear g
    go_wp2_with fail
    go_ret
    exact ⟨rfl, grown_trans G.out K.out⟩
  · have HB := Lib.hid hB
    have tB : ((((dig 10000 (val 4294967296 bs1)).length : Nat) : Int) == 0) = false := by rw [beq_eq_false_iff_ne]; intro h; exact hB ((dig_len_zero (b := 10000) (by omega)).1 (by omega))
    clear hB
    go_wp2_with fail
    refine (DivMod_n (Num.row (Lx.out.sl (by omega)) Ax.out 20 lx) (Num.row (Ly.out.sl (by omega)) Ay.out 14 ly) (by omega) HB.out).mono ?_
    rintro e w3 ⟨q, r, rfl, hq, hr, hne, -, -, g⟩
    have Hq := Lib.hid hq
    have Hr := Lib.hid hr
    have Hne := Lib.hid hne
    have K := Lib.hid g
    clear hq hr hne g
    go_wp2_with fail
    refine (From_n 14 (Hb.out.grown (grown_trans G.out K.out) (.inl rfl)) Ay.out ly (by omega)).mono ?_
    rintro e w4 ⟨n, rfl, hm, bm, g⟩
    obtain ⟨pn, cn, rfl⟩ := hm.slice
    have Nn := Lib.hid (show Dec w4 (.slice pn _ cn) _ _ from ⟨hm.sl, bm⟩)
    replace Hq := Lib.hid (Hq.out.grown g (.inl rfl))
    replace Hr := Lib.hid (Hr.out.grown g (.inl rfl))
    replace K := Lib.hid (grown_trans K.out g)
    clear hm bm g
    go_wp2_with fail
    refine (From_n 20 (Ha.out.grown (grown_trans G.out K.out) (.inl rfl)) Ax.out lx (by omega)).mono ?_
    rintro e w5 ⟨m, rfl, hm, bm, g⟩
    have Nm := Lib.hid (show Dec w5 m _ _ from ⟨hm.sl, bm⟩)
    replace Nn := Lib.hid (Nn.out.grown g)
    replace Hq := Lib.hid (Hq.out.grown g (.inl rfl))
    replace Hr := Lib.hid (Hr.out.grown g (.inl rfl))
    replace K := Lib.hid (grown_trans K.out g)
    clear hm bm g
    go_wp2_with fail
    refine (DivD_n Nm.out Nn.out (by omega) (Nat.pos_of_ne_zero HB.out)).mono ?_
    rintro e w6 ⟨u, v, rfl, hu, hv, g⟩
    have Nu := Lib.hid hu
    have Nv := Lib.hid hv
    replace Hq := Lib.hid (Hq.out.grown g (.inl rfl))
    replace Hr := Lib.hid (Hr.out.grown g (.inl rfl))
    replace K := Lib.hid (grown_trans K.out g)
    clear hu hv g Nn Nm
    go_wp2_with fail
    refine (Is_n Nu.out (by omega) Hq.out.sl).mono ?_
    rintro e w7 ⟨rfl, g⟩
    replace Nv := Lib.hid (Nv.out.grown g)
    replace Hq := Lib.hid (Hq.out.grown g (.inl rfl))
    replace Hr := Lib.hid (Hr.out.grown g (.inl rfl))
    replace K := Lib.hid (grown_trans K.out g)
    clear g
    go_wp2_with fail
    refine (Is_n Nv.out (by omega) Hr.out.sl).mono ?_
    rintro e w8 ⟨rfl, g⟩
    replace Hq := Lib.hid (Hq.out.grown g (.inl rfl))
    replace Hr := Lib.hid (Hr.out.grown g (.inl rfl))
    replace K := Lib.hid (grown_trans K.out g)
    clear g
    go_wp2_with fail
    refine (Spoil_any Hq.out).mono ?_
    rintro e w9 ⟨rfl, g⟩
    replace K := Lib.hid (grown_own g Hq.out K.out)
    replace Hr := Lib.hid (Hr.out.grown g (Hne.out.imp id Ne.symm))
    clear g
    go_wp2_with fail
    refine (Spoil_any Hr.out).mono ?_
    rintro e w10 ⟨rfl, g⟩
    replace K := Lib.hid (grown_own g Hr.out K.out)
    clear g
    go_wp2_with fail
    refine (Intact_any (Lx.out.grown K.out (.inl rfl)) (Ha.out.grown (grown_trans G.out K.out) (.inl rfl)) (by omega)).mono ?_
    rintro e w11 ⟨rfl, g⟩
    replace K := Lib.hid (grown_trans K.out g)
    clear g
    go_wp2_with fail
    refine (Intact_any (Ly.out.grown K.out (.inl rfl)) (Hb.out.grown (grown_trans G.out K.out) (.inl rfl)) (by omega)).mono ?_
    rintro e w12 ⟨rfl, g⟩
    replace K := Lib.hid (grown_trans K.out g)
    clear g
    go_wp2_with fail
    refine (wakes_true _).mono ?_
    rintro e w13 ⟨rfl, g⟩
    replace K := Lib.hid (grown_trans K.out g)
    clear g
    go_wp2_with fail
    go_ret
    exact ⟨rfl, grown_trans G.out K.out⟩

set_option maxRecDepth 100000 in
theorem lifted (os : Os) (started : os.Started) (H : Type) (enc : TypeId × Value → H) :
    ReturnsInHanded {} Try.checked os 5 .any (Rows.limbDivsSpec.pre6 enc Try.prog Try.f5 Rows.limbDivsRow.domain false) (Rows.limbDivsSpec.post enc Try.prog Try.f5 false true false false) := by
  refine returnsInHanded_of_change (C := Try.checked) Try.own started (by kernel_rfl) Try.func5
    (ChangeSpec.witness6 (enc := enc) (C := Try.checked) false ⟨#[], #[.slice none 0 0, .slice none 0 0], []⟩ 8 (by kernel_rfl) (by kernel_rfl) (by kernel_rfl) (by kernel_rfl)) ?_
  intro W base args ds gs before hval0 hW _ _
  have hval : ∀ (j : Nat) t v, Try.f5.params[j]? = some t → args[j]? = some v → Value.okWide Try.prog W .any base t v := hval0
  obtain ⟨p, q, hA0, hV, rfl, _, _⟩ := id hW
  have hA : DataW.TrodAll enc Try.prog W 0 (fun _ => true) true Try.f5.params.toList args.toList ds p := hA0
  rw [Try.params5] at hA hval
  obtain ⟨v0, vs0, d0, ds0, p0, q0, hargs, rfl, rfl, h0, r0⟩ := trodAll_cons hA
  obtain ⟨v1, vs1, d1, ds1, p1, q1, rfl, rfl, rfl, h1, r1⟩ := trodAll_cons r0
  obtain ⟨rfl, rfl, rfl⟩ := trodAll_nil r1
  obtain rfl : args = #[v0, v1] := by cases args; simp_all
  obtain ⟨xs0, s0, a0⟩ := sl_of_trod Try.underlying22 Try.underlying52 (by kernel_rfl) h0 (hval 0 22 v0 rfl rfl)
  obtain ⟨xs1, s1, a1⟩ := sl_of_trod Try.underlying22 Try.underlying52 (by kernel_rfl) h1 (hval 1 22 v1 rfl rfl)
  refine (walk s0 a0 s1 a1).mono fun e W' ⟨he, hg⟩ => ?_
  subst he
  refine ⟨_, rfl, law_post Try.laidOut rfl (by kernel_rfl) Try.underlying4 ?_ ?_ hW hg⟩
  · rw [Try.params5]; decide +kernel
  · rw [Try.params5]
    intro ds h
    match ds, h with
    | [_, _], _ => rfl

theorem holds : Rows.LimbDivsSaid :=
  OpenClaim.holds_of_wide 5 Try.f5 rfl rfl rfl rfl rfl rfl rfl ⟨rfl, rfl, rfl, rfl, rfl⟩ rfl rfl rfl rfl rfl (by kernel_rfl) Try.func5 (by kernel_rfl)
    (of_decide_eq_true (by kernel_rfl)) (by unfold Func.isWrapper; first | (rw [if_pos (by decide +kernel)]; kernel_rfl) | (rw [if_neg (by decide +kernel)]; exact ⟨rfl, rfl⟩))
    (fun os started H enc _ => lifted os started H enc)

end Go.Proofs.Ytkebkdmdhhpinaa.divs
