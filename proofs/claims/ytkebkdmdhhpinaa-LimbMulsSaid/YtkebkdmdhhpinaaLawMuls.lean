/- LimbMuls holds: for every two slices of limbs the law returns true and leaves them as they were. No condition. -/
import Derived.Test.YtkebkdmdhhpinaaRefK
namespace Go.Proofs.Ytkebkdmdhhpinaa.muls
open Go.ChangeShapes Go.WideShapes Go.ChangeAt Go.RowKit

set_option maxHeartbeats 4000000 in
set_option maxRecDepth 100000 in
theorem walk {v1 v2 : Value} {xs ys : List Nat} {w : World} (hx : Sl w .u32 v1 xs) (ax : All 4294967296 xs) (hy : Sl w .u32 v2 ys) (ay : All 4294967296 ys) :
    Calls Try.prog 4 #[v1, v2] w (Bool_ w true) := by
  have Hx := Lib.hid hx
  have Hy := Lib.hid hy
  have Ax := Lib.hid (ax.take 24)
  have Ay := Lib.hid (ay.take 24)
  have lx : (xs.take 24).length ≤ 24 := bd_len
  have ly : (ys.take 24).length ≤ 24 := bd_len
  clear hx ax hy ay
  go_enter Try.func4, Try.ntmps4
  go_wp2_with fail
  refine (Row_sl (k := 24) Hx.out).mono ?_
  rintro e w' ⟨a, rfl, h, rfl⟩
  have Ha := Lib.hid h
  clear h
  go_wp2_with fail
  refine (Row_sl (k := 24) Hy.out).mono ?_
  rintro e w' ⟨b, rfl, h, rfl⟩
  have Hb := Lib.hid h
  clear h
  generalize xs.take 24 = as1 at *
  generalize ys.take 24 = bs1 at *
  go_wp2_with fail
  refine (Lend_any Ha.out (by omega)).mono ?_
  rintro e w1 ⟨x, rfl, hl, g⟩
  have Lx := Lib.hid hl
  have G := Lib.hid g
  clear hl g
  go_wp2_with fail
  refine (Lend_any (Hb.out.grown G.out (.inl rfl)) (by omega)).mono ?_
  rintro e w2 ⟨y, rfl, hl, g⟩
  have Ly := Lib.hid hl
  replace Lx := Lib.hid (Lx.out.grown g (.inl rfl))
  replace G := Lib.hid (grown_trans G.out g)
  clear hl g
  go_wp2_with fail
  refine (Mul_any (Lx.out.sl (by omega)) (Ly.out.sl (by omega)) Ax.out Ay.out (by omega) (by omega)).mono ?_
  rintro e w3 ⟨p, rfl, hp, g⟩
  have Hp := Lib.hid hp
  have K := Lib.hid g
  clear hp g
  go_wp2_with fail
  refine (From_n 24 (Ha.out.grown (grown_trans G.out K.out) (.inl rfl)) Ax.out lx (by omega)).mono ?_
  rintro e w4 ⟨m, rfl, hm, bm, g⟩
  have Nm := Lib.hid (show Dec w4 m _ _ from ⟨hm.sl, bm⟩)
  replace Hp := Lib.hid (Hp.out.grown g (.inl rfl))
  replace K := Lib.hid (grown_trans K.out g)
  clear hm bm g
  go_wp2_with fail
  refine (From_n 24 (Hb.out.grown (grown_trans G.out K.out) (.inl rfl)) Ay.out ly (by omega)).mono ?_
  rintro e w5 ⟨n, rfl, hm, bm, g⟩
  have Nn := Lib.hid (show Dec w5 n _ _ from ⟨hm.sl, bm⟩)
  replace Nm := Lib.hid (Nm.out.grown g)
  replace Hp := Lib.hid (Hp.out.grown g (.inl rfl))
  replace K := Lib.hid (grown_trans K.out g)
  clear hm bm g
  go_wp2_with fail
  refine (MulD_n Nm.out Nn.out (by omega)).mono ?_
  rintro e w6 ⟨r, rfl, hm, bm, g⟩
  have Nr := Lib.hid (show Dec w6 r _ _ from ⟨hm.sl, bm⟩)
  replace Hp := Lib.hid (Hp.out.grown g (.inl rfl))
  replace K := Lib.hid (grown_trans K.out g)
  clear hm bm g
  go_wp2_with fail
  refine (Is_n Nr.out (by omega) Hp.out.sl).mono ?_
  rintro e w7 ⟨rfl, g⟩
  replace Hp := Lib.hid (Hp.out.grown g (.inl rfl))
  replace K := Lib.hid (grown_trans K.out g)
  clear g
  go_wp2_with fail
  refine (Spoil_any Hp.out).mono ?_
  rintro e w8 ⟨rfl, g⟩
  replace K := Lib.hid (grown_own g Hp.out K.out)
  clear g
  go_wp2_with fail
  refine (Intact_any (Lx.out.grown K.out (.inl rfl)) (Ha.out.grown (grown_trans G.out K.out) (.inl rfl)) (by omega)).mono ?_
  rintro e w9 ⟨rfl, g⟩
  replace K := Lib.hid (grown_trans K.out g)
  clear g
  go_wp2_with fail
  refine (Intact_any (Ly.out.grown K.out (.inl rfl)) (Hb.out.grown (grown_trans G.out K.out) (.inl rfl)) (by omega)).mono ?_
  rintro e w10 ⟨rfl, g⟩
  replace K := Lib.hid (grown_trans K.out g)
  clear g
  go_wp2_with fail
  refine (wakes_true _).mono ?_
  rintro e w11 ⟨rfl, g⟩
  replace K := Lib.hid (grown_trans K.out g)
  clear g
  go_wp2_with fail
  go_ret
  exact ⟨rfl, grown_trans G.out K.out⟩

set_option maxRecDepth 100000 in
theorem lifted (os : Os) (started : os.Started) (H : Type) (enc : TypeId × Value → H) :
    ReturnsInHanded {} Try.checked os 4 .any (Rows.limbMulsSpec.pre6 enc Try.prog Try.f4 Rows.limbMulsRow.domain false) (Rows.limbMulsSpec.post enc Try.prog Try.f4 false true false false) := by
  refine returnsInHanded_of_change (C := Try.checked) Try.own started (by kernel_rfl) Try.func4
    (ChangeSpec.witness6 (enc := enc) (C := Try.checked) false ⟨#[], #[.slice none 0 0, .slice none 0 0], []⟩ 8 (by kernel_rfl) (by kernel_rfl) (by kernel_rfl) (by kernel_rfl)) ?_
  intro W base args ds gs before hval0 hW _ _
  have hval : ∀ (j : Nat) t v, Try.f4.params[j]? = some t → args[j]? = some v → Value.okWide Try.prog W .any base t v := hval0
  obtain ⟨p, q, hA0, hV, rfl, _, _⟩ := id hW
  have hA : DataW.TrodAll enc Try.prog W 0 (fun _ => true) true Try.f4.params.toList args.toList ds p := hA0
  rw [Try.params4] at hA hval
  obtain ⟨v0, vs0, d0, ds0, p0, q0, hargs, rfl, rfl, h0, r0⟩ := trodAll_cons hA
  obtain ⟨v1, vs1, d1, ds1, p1, q1, rfl, rfl, rfl, h1, r1⟩ := trodAll_cons r0
  obtain ⟨rfl, rfl, rfl⟩ := trodAll_nil r1
  obtain rfl : args = #[v0, v1] := by cases args; simp_all
  obtain ⟨xs0, s0, a0⟩ := sl_of_trod Try.underlying22 Try.underlying52 (by kernel_rfl) h0 (hval 0 22 v0 rfl rfl)
  obtain ⟨xs1, s1, a1⟩ := sl_of_trod Try.underlying22 Try.underlying52 (by kernel_rfl) h1 (hval 1 22 v1 rfl rfl)
  refine (walk s0 a0 s1 a1).mono fun e W' ⟨he, hg⟩ => ?_
  subst he
  refine ⟨_, rfl, law_post Try.laidOut rfl (by kernel_rfl) Try.underlying4 ?_ ?_ hW hg⟩
  · rw [Try.params4]; decide +kernel
  · rw [Try.params4]
    intro ds h
    match ds, h with
    | [_, _], _ => rfl

theorem holds : Rows.LimbMulsSaid :=
  OpenClaim.holds_of_wide 4 Try.f4 rfl rfl rfl rfl rfl rfl rfl ⟨rfl, rfl, rfl, rfl, rfl⟩ rfl rfl rfl rfl rfl (by kernel_rfl) Try.func4 (by kernel_rfl)
    (of_decide_eq_true (by kernel_rfl)) (by unfold Func.isWrapper; first | (rw [if_pos (by decide +kernel)]; kernel_rfl) | (rw [if_neg (by decide +kernel)]; exact ⟨rfl, rfl⟩))
    (fun os started H enc _ => lifted os started H enc)

end Go.Proofs.Ytkebkdmdhhpinaa.muls
