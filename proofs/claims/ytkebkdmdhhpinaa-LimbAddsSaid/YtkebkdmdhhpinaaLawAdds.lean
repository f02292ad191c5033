/- LimbAdds holds: for every two slices of limbs the law returns true and leaves them as they were. No condition. -/
import Derived.Test.YtkebkdmdhhpinaaRefK
namespace Go.Proofs.Ytkebkdmdhhpinaa.adds
open Go.ChangeShapes Go.WideShapes Go.ChangeAt Go.RowKit

/-- What was made earlier lies apart from what was made later. -/
theorem own_early {w w' : World} {e e' : TypeId} {k k' : IntKind} {B B' : Nat} {v u : Value} {xs ys : List Nat} (h : Own w e k B v xs) (h' : Own w' e' k' B' u ys) (hs : w'.heap.size ≤ B) : v.ownBlock = none ∨ u.ownBlock ≠ v.ownBlock := by
  cases hv : v.ownBlock with
  | none => exact .inl rfl
  | some g =>
    right
    intro e
    have := (h.lt g hv).1
    have := (h'.lt g e).2
    omega

set_option maxHeartbeats 4000000 in
set_option maxRecDepth 100000 in
theorem walk {v1 v2 : Value} {xs ys : List Nat} {w : World} (hx : Sl w .u32 v1 xs) (ax : All 4294967296 xs) (hy : Sl w .u32 v2 ys) (ay : All 4294967296 ys) :
    Calls Try.prog 3 #[v1, v2] w (Bool_ w true) := by
  have Hx := Lib.hid hx
  have Hy := Lib.hid hy
  have Ax := Lib.hid (ax.take 30)
  have Ay := Lib.hid (ay.take 30)
  have lx : (xs.take 30).length ≤ 30 := bd_len
  have ly : (ys.take 30).length ≤ 30 := bd_len
  clear hx ax hy ay
  go_enter Try.func3, Try.ntmps3
  go_wp2_with fail
  refine (Row_sl (k := 30) Hx.out).mono ?_
  rintro e w' ⟨a, rfl, h, rfl⟩
  have Ha := Lib.hid h
  clear h
  go_wp2_with fail
  refine (Row_sl (k := 30) Hy.out).mono ?_
  rintro e w' ⟨b, rfl, h, rfl⟩
  have Hb := Lib.hid h
  clear h
  generalize xs.take 30 = as1 at *
  generalize ys.take 30 = bs1 at *
  go_wp2_with fail
  refine (Lend_any Ha.out (by omega)).mono ?_
  rintro e w1 ⟨x, rfl, hl, g⟩
  have Lx := Lib.hid hl
  have G := Lib.hid g
  clear hl g
  go_wp2_with fail
  refine (Lend_any (Hb.out.grown G.out (.inl rfl)) (by omega)).mono ?_
  rintro e w2 ⟨y, rfl, hl, g⟩
  have Ly := Lib.hid hl
  replace Lx := Lib.hid (Lx.out.grown g (.inl rfl))
  replace G := Lib.hid (grown_trans G.out g)
  have K := Lib.hid (grown_refl w2 none)
  clear hl g
  go_wp2_with fail
  refine (From_n 30 (Ha.out.grown (grown_trans G.out K.out) (.inl rfl)) Ax.out lx (by omega)).mono ?_
  rintro e w3 ⟨m, rfl, hm, bm, g⟩
  have Hm := Lib.hid hm
  have Bm := Lib.hid bm
  replace K := Lib.hid (grown_trans K.out g)
  clear hm bm g
  go_wp2_with fail
  refine (From_n 30 (Hb.out.grown (grown_trans G.out K.out) (.inl rfl)) Ay.out ly (by omega)).mono ?_
  rintro e w4 ⟨n, rfl, hm, bm, g⟩
  have Hn := Lib.hid hm
  have Bn := Lib.hid bm
  replace Hm := Lib.hid (Hm.out.grown g (.inl rfl))
  replace K := Lib.hid (grown_trans K.out g)
  clear hm bm g
  go_wp2_with fail
  refine (Add_n (Num.row ((Lx.out.sl (by omega)).grown K.out (.inl rfl)) Ax.out 30 lx) (Num.row ((Ly.out.sl (by omega)).grown K.out (.inl rfl)) Ay.out 30 ly) (by omega)).mono ?_
  rintro e w5 ⟨s, rfl, h, -, g⟩
  have Hs := Lib.hid h
  have Asm := Lib.hid (own_early h Hm.out (Nat.le_refl _))
  have Bs := Lib.hid (K.out.size)
  replace Hm := Lib.hid (Hm.out.grown g (.inl rfl))
  replace Hn := Lib.hid (Hn.out.grown g (.inl rfl))
  replace K := Lib.hid (grown_trans K.out g)
  clear h g
  obtain ⟨cv, hcv⟩ : ∃ cv, cmpN (val 4294967296 as1) (val 4294967296 bs1) = cv := ⟨_, rfl⟩
  by_cases hle : val 4294967296 bs1 ≤ val 4294967296 as1
  · have c0 : (0 : Int) ≤ cv := by rw [← hcv]; exact cmpN_ge hle
    have Hcv := Lib.hid hcv
    have Hle := Lib.hid hle
    clear hcv hle
    go_wp2_with fail
    refine (Sub_n (Num.row ((Lx.out.sl (by omega)).grown K.out (.inl rfl)) Ax.out 30 lx) (Num.row ((Ly.out.sl (by omega)).grown K.out (.inl rfl)) Ay.out 30 ly) (by omega) Hle.out).mono ?_
    rintro e w6 ⟨d, rfl, h, -, g⟩
    have Hd := Lib.hid h
    have Ads := Lib.hid (own_apart h Hs.out (Nat.le_refl _))
    have Adm := Lib.hid (own_early h Hm.out (Nat.le_refl _))
    have Bd_ := Lib.hid K.out.size
    replace Hm := Lib.hid (Hm.out.grown g (.inl rfl))
    replace Hn := Lib.hid (Hn.out.grown g (.inl rfl))
    replace Hs := Lib.hid (Hs.out.grown g (.inl rfl))
    replace K := Lib.hid (grown_trans K.out g)
    clear h g
    go_wp2_with fail
    refine (CmpD_n (i := 30) (j := 30) ⟨Hm.out.sl, Bm.out⟩ ⟨Hn.out.sl, Bn.out⟩).mono ?_
    rintro e w7 ⟨rfl, g⟩
    replace Hm := Lib.hid (Hm.out.grown g (.inl rfl))
    replace Hn := Lib.hid (Hn.out.grown g (.inl rfl))
    replace Hs := Lib.hid (Hs.out.grown g (.inl rfl))
    replace Hd := Lib.hid (Hd.out.grown g (.inl rfl))
    replace K := Lib.hid (grown_trans K.out g)
    clear g
    rw [Hcv.out]
    go_wp2_with fail
    refine (AddD_n (i := 30) (j := 30) ⟨Hm.out.sl, Bm.out⟩ ⟨Hn.out.sl, Bn.out⟩ (by omega)).mono ?_
    rintro e w8 ⟨t, rfl, h, b, g⟩
    have Nt := Lib.hid (show Dec w8 t _ _ from ⟨h.sl, b⟩)
    replace Hm := Lib.hid (Hm.out.grown g (.inl rfl))
    replace Hn := Lib.hid (Hn.out.grown g (.inl rfl))
    replace Hs := Lib.hid (Hs.out.grown g (.inl rfl))
    replace Hd := Lib.hid (Hd.out.grown g (.inl rfl))
    replace K := Lib.hid (grown_trans K.out g)
    clear h b g
    go_wp2_with fail
    refine (Is_n Nt.out (by omega) Hs.out.sl).mono ?_
    rintro e w9 ⟨rfl, g⟩
    replace Hm := Lib.hid (Hm.out.grown g (.inl rfl))
    replace Hn := Lib.hid (Hn.out.grown g (.inl rfl))
    replace Hs := Lib.hid (Hs.out.grown g (.inl rfl))
    replace Hd := Lib.hid (Hd.out.grown g (.inl rfl))
    replace K := Lib.hid (grown_trans K.out g)
    clear g Nt
    go_wp2_with fail
    refine (Cmp_n cv (Num.row ((Lx.out.sl (by omega)).grown K.out (.inl rfl)) Ax.out 30 lx) (Num.row ((Ly.out.sl (by omega)).grown K.out (.inl rfl)) Ay.out 30 ly) Hcv.out).mono ?_
    rintro e w10 ⟨rfl, g⟩
    replace Hm := Lib.hid (Hm.out.grown g (.inl rfl))
    replace Hn := Lib.hid (Hn.out.grown g (.inl rfl))
    replace Hs := Lib.hid (Hs.out.grown g (.inl rfl))
    replace Hd := Lib.hid (Hd.out.grown g (.inl rfl))
    replace K := Lib.hid (grown_trans K.out g)
    clear g
    go_wp2_with fail
    refine (SubD_n (i := 30) (j := 30) ⟨Hm.out.sl, Bm.out⟩ ⟨Hn.out.sl, Bn.out⟩ (by omega) Hle.out).mono ?_
    rintro e w11 ⟨t, rfl, h, b, g⟩
    have Nt := Lib.hid (show Dec w11 t _ _ from ⟨h.sl, b⟩)
    replace Hm := Lib.hid (Hm.out.grown g (.inl rfl))
    replace Hs := Lib.hid (Hs.out.grown g (.inl rfl))
    replace Hd := Lib.hid (Hd.out.grown g (.inl rfl))
    replace K := Lib.hid (grown_trans K.out g)
    clear h b g
    go_wp2_with fail
    refine (Is_n Nt.out (by omega) Hd.out.sl).mono ?_
    rintro e w12 ⟨rfl, g⟩
    replace Hm := Lib.hid (Hm.out.grown g (.inl rfl))
    replace Hs := Lib.hid (Hs.out.grown g (.inl rfl))
    replace Hd := Lib.hid (Hd.out.grown g (.inl rfl))
    replace K := Lib.hid (grown_trans K.out g)
    clear g Nt
    go_wp2_with fail
    refine (Norm_n (Num.row ((Lx.out.sl (by omega)).grown K.out (.inl rfl)) Ax.out 30 lx) (by omega)).mono ?_
    rintro e w13 ⟨z, rfl, h, -, g⟩
    have Hz := Lib.hid h
    have Azs := Lib.hid (own_apart h Hs.out (Nat.le_refl _))
    have Azd := Lib.hid (own_apart h Hd.out (Nat.le_refl _))
    have Bz := Lib.hid K.out.size
    replace Hm := Lib.hid (Hm.out.grown g (.inl rfl))
    replace Hs := Lib.hid (Hs.out.grown g (.inl rfl))
    replace Hd := Lib.hid (Hd.out.grown g (.inl rfl))
    replace K := Lib.hid (grown_trans K.out g)
    clear h g
    go_wp2_with fail
    refine (Spoil_any Hs.out).mono ?_
    rintro e w14 ⟨rfl, g⟩
    replace K := Lib.hid (grown_own g (Hs.out.mono Bs.out) K.out)
    replace Hm := Lib.hid (Hm.out.grown g Asm.out)
    replace Hz := Lib.hid (Hz.out.grown g Azs.out)
    replace Hd := Lib.hid (Hd.out.grown g Ads.out)
    clear g
    go_wp2_with fail
    refine (Spoil_any Hd.out).mono ?_
    rintro e w15 ⟨rfl, g⟩
    replace K := Lib.hid (grown_own g (Hd.out.mono Bd_.out) K.out)
    replace Hm := Lib.hid (Hm.out.grown g Adm.out)
    replace Hz := Lib.hid (Hz.out.grown g Azd.out)
    clear g
    go_wp2_with fail
    refine (Is_n (k := 30) ⟨Hm.out.sl, Bm.out⟩ (by omega) Hz.out.sl).mono ?_
    rintro e w16 ⟨rfl, g⟩
    replace Hz := Lib.hid (Hz.out.grown g (.inl rfl))
    replace K := Lib.hid (grown_trans K.out g)
    clear g
    go_wp2_with fail
    refine (Spoil_any Hz.out).mono ?_
    rintro e w17 ⟨rfl, g⟩
    replace K := Lib.hid (grown_own g (Hz.out.mono Bz.out) K.out)
    clear g
    go_wp2_with fail
    refine (Intact_any (Lx.out.grown K.out (.inl rfl)) (Ha.out.grown (grown_trans G.out K.out) (.inl rfl)) (by omega)).mono ?_
    rintro e w18 ⟨rfl, g⟩
    replace K := Lib.hid (grown_trans K.out g)
    clear g
    go_wp2_with fail
    refine (Intact_any (Ly.out.grown K.out (.inl rfl)) (Hb.out.grown (grown_trans G.out K.out) (.inl rfl)) (by omega)).mono ?_
    rintro e w19 ⟨rfl, g⟩
    replace K := Lib.hid (grown_trans K.out g)
    clear g
    go_wp2_with fail
    refine (wakes_true _).mono ?_
    rintro e w20 ⟨rfl, g⟩
    replace K := Lib.hid (grown_trans K.out g)
    clear g
    go_wp2_with fail
    go_ret
    exact ⟨rfl, grown_trans G.out K.out⟩
  · have hlt : val 4294967296 as1 < val 4294967296 bs1 := by omega
    have c0 : ¬ (0 : Int) ≤ cv := by rw [← hcv, cmpN_lt hlt]; omega
    have Hcv := Lib.hid hcv
    have Hlt := Lib.hid hlt
    clear hcv hle hlt
    go_wp2_with fail
    refine (Sub_no (Num.row ((Lx.out.sl (by omega)).grown K.out (.inl rfl)) Ax.out 30 lx) (Num.row ((Ly.out.sl (by omega)).grown K.out (.inl rfl)) Ay.out 30 ly) (by omega) Hlt.out).mono ?_
    rintro e w6 ⟨rfl, g⟩
    replace Hm := Lib.hid (Hm.out.grown g (.inl rfl))
    replace Hn := Lib.hid (Hn.out.grown g (.inl rfl))
    replace Hs := Lib.hid (Hs.out.grown g (.inl rfl))
    replace K := Lib.hid (grown_trans K.out g)
    clear g
    go_wp2_with fail
    refine (CmpD_n (i := 30) (j := 30) ⟨Hm.out.sl, Bm.out⟩ ⟨Hn.out.sl, Bn.out⟩).mono ?_
    rintro e w7 ⟨rfl, g⟩
    replace Hm := Lib.hid (Hm.out.grown g (.inl rfl))
    replace Hn := Lib.hid (Hn.out.grown g (.inl rfl))
    replace Hs := Lib.hid (Hs.out.grown g (.inl rfl))
    replace K := Lib.hid (grown_trans K.out g)
    clear g
    rw [Hcv.out]
    go_wp2_with fail
    refine (AddD_n (i := 30) (j := 30) ⟨Hm.out.sl, Bm.out⟩ ⟨Hn.out.sl, Bn.out⟩ (by omega)).mono ?_
    rintro e w8 ⟨t, rfl, h, b, g⟩
    have Nt := Lib.hid (show Dec w8 t _ _ from ⟨h.sl, b⟩)
    replace Hm := Lib.hid (Hm.out.grown g (.inl rfl))
    replace Hn := Lib.hid (Hn.out.grown g (.inl rfl))
    replace Hs := Lib.hid (Hs.out.grown g (.inl rfl))
    replace K := Lib.hid (grown_trans K.out g)
    clear h b g
    go_wp2_with fail
    refine (Is_n Nt.out (by omega) Hs.out.sl).mono ?_
    rintro e w9 ⟨rfl, g⟩
    replace Hm := Lib.hid (Hm.out.grown g (.inl rfl))
    replace Hn := Lib.hid (Hn.out.grown g (.inl rfl))
    replace Hs := Lib.hid (Hs.out.grown g (.inl rfl))
    replace K := Lib.hid (grown_trans K.out g)
    clear g Nt
    go_wp2_with fail
    refine (Cmp_n cv (Num.row ((Lx.out.sl (by omega)).grown K.out (.inl rfl)) Ax.out 30 lx) (Num.row ((Ly.out.sl (by omega)).grown K.out (.inl rfl)) Ay.out 30 ly) Hcv.out).mono ?_
    rintro e w10 ⟨rfl, g⟩
    replace Hm := Lib.hid (Hm.out.grown g (.inl rfl))
    replace Hn := Lib.hid (Hn.out.grown g (.inl rfl))
    replace Hs := Lib.hid (Hs.out.grown g (.inl rfl))
    replace K := Lib.hid (grown_trans K.out g)
    clear g
    go_wp2_with fail
    refine (Norm_n (Num.row ((Lx.out.sl (by omega)).grown K.out (.inl rfl)) Ax.out 30 lx) (by omega)).mono ?_
    rintro e w13 ⟨z, rfl, h, -, g⟩
    have Hz := Lib.hid h
    have Azs := Lib.hid (own_apart h Hs.out (Nat.le_refl _))
    have Bz := Lib.hid K.out.size
    replace Hm := Lib.hid (Hm.out.grown g (.inl rfl))
    replace Hs := Lib.hid (Hs.out.grown g (.inl rfl))
    replace K := Lib.hid (grown_trans K.out g)
    clear h g
    go_wp2_with fail
    refine (Spoil_any Hs.out).mono ?_
    rintro e w14 ⟨rfl, g⟩
    replace K := Lib.hid (grown_own g (Hs.out.mono Bs.out) K.out)
    replace Hm := Lib.hid (Hm.out.grown g Asm.out)
    replace Hz := Lib.hid (Hz.out.grown g Azs.out)
    clear g
    go_wp2_with fail
    refine (Spoil_nil _).mono ?_
    rintro e w15 ⟨rfl, g⟩
    replace K := Lib.hid (grown_trans K.out g)
    replace Hm := Lib.hid (Hm.out.grown g (.inl rfl))
    replace Hz := Lib.hid (Hz.out.grown g (.inl rfl))
    clear g
    go_wp2_with fail
    refine (Is_n (k := 30) ⟨Hm.out.sl, Bm.out⟩ (by omega) Hz.out.sl).mono ?_
    rintro e w16 ⟨rfl, g⟩
    replace Hz := Lib.hid (Hz.out.grown g (.inl rfl))
    replace K := Lib.hid (grown_trans K.out g)
    clear g
    go_wp2_with fail
    refine (Spoil_any Hz.out).mono ?_
    rintro e w17 ⟨rfl, g⟩
    replace K := Lib.hid (grown_own g (Hz.out.mono Bz.out) K.out)
    clear g
    go_wp2_with fail
    refine (Intact_any (Lx.out.grown K.out (.inl rfl)) (Ha.out.grown (grown_trans G.out K.out) (.inl rfl)) (by omega)).mono ?_
    rintro e w18 ⟨rfl, g⟩
    replace K := Lib.hid (grown_trans K.out g)
    clear g
    go_wp2_with fail
    refine (Intact_any (Ly.out.grown K.out (.inl rfl)) (Hb.out.grown (grown_trans G.out K.out) (.inl rfl)) (by omega)).mono ?_
    rintro e w19 ⟨rfl, g⟩
    replace K := Lib.hid (grown_trans K.out g)
    clear g
    go_wp2_with fail
    refine (wakes_true _).mono ?_
    rintro e w20 ⟨rfl, g⟩
    replace K := Lib.hid (grown_trans K.out g)
    clear g
    go_wp2_with fail
    go_ret
    exact ⟨rfl, grown_trans G.out K.out⟩

set_option maxRecDepth 100000 in
theorem lifted (os : Os) (started : os.Started) (H : Type) (enc : TypeId × Value → H) :
    ReturnsInHanded {} Try.checked os 3 .any (Rows.limbAddsSpec.pre6 enc Try.prog Try.f3 Rows.limbAddsRow.domain false) (Rows.limbAddsSpec.post enc Try.prog Try.f3 false true false false) := by
  refine returnsInHanded_of_change (C := Try.checked) Try.own started (by kernel_rfl) Try.func3
    (ChangeSpec.witness6 (enc := enc) (C := Try.checked) false ⟨#[], #[.slice none 0 0, .slice none 0 0], []⟩ 8 (by kernel_rfl) (by kernel_rfl) (by kernel_rfl) (by kernel_rfl)) ?_
  intro W base args ds gs before hval0 hW _ _
  have hval : ∀ (j : Nat) t v, Try.f3.params[j]? = some t → args[j]? = some v → Value.okWide Try.prog W .any base t v := hval0
  obtain ⟨p, q, hA0, hV, rfl, _, _⟩ := id hW
  have hA : DataW.TrodAll enc Try.prog W 0 (fun _ => true) true Try.f3.params.toList args.toList ds p := hA0
  rw [Try.params3] at hA hval
  obtain ⟨v0, vs0, d0, ds0, p0, q0, hargs, rfl, rfl, h0, r0⟩ := trodAll_cons hA
  obtain ⟨v1, vs1, d1, ds1, p1, q1, rfl, rfl, rfl, h1, r1⟩ := trodAll_cons r0
  obtain ⟨rfl, rfl, rfl⟩ := trodAll_nil r1
  obtain rfl : args = #[v0, v1] := by cases args; simp_all
  obtain ⟨xs0, s0, a0⟩ := sl_of_trod Try.underlying22 Try.underlying52 (by kernel_rfl) h0 (hval 0 22 v0 rfl rfl)
  obtain ⟨xs1, s1, a1⟩ := sl_of_trod Try.underlying22 Try.underlying52 (by kernel_rfl) h1 (hval 1 22 v1 rfl rfl)
  refine (walk s0 a0 s1 a1).mono fun e W' ⟨he, hg⟩ => ?_
  subst he
  refine ⟨_, rfl, law_post Try.laidOut rfl (by kernel_rfl) Try.underlying4 ?_ ?_ hW hg⟩
  · rw [Try.params3]; decide +kernel
  · rw [Try.params3]
    intro ds h
    match ds, h with
    | [_, _], _ => rfl

theorem holds : Rows.LimbAddsSaid :=
  OpenClaim.holds_of_wide 3 Try.f3 rfl rfl rfl rfl rfl rfl rfl ⟨rfl, rfl, rfl, rfl, rfl⟩ rfl rfl rfl rfl rfl (by kernel_rfl) Try.func3 (by kernel_rfl)
    (of_decide_eq_true (by kernel_rfl)) (by unfold Func.isWrapper; first | (rw [if_pos (by decide +kernel)]; kernel_rfl) | (rw [if_neg (by decide +kernel)]; exact ⟨rfl, rfl⟩))
    (fun os started H enc _ => lifted os started H enc)

end Go.Proofs.Ytkebkdmdhhpinaa.adds
