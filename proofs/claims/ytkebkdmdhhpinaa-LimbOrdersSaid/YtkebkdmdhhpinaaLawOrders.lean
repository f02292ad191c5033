/- LimbOrders holds: for every three slices of limbs the law returns true and leaves them as they were. No condition. -/
import Derived.Test.YtkebkdmdhhpinaaRowKit
import Derived.Test.YtkebkdmdhhpinaaWakes
namespace Go.Proofs.Ytkebkdmdhhpinaa.orders
open Go.ChangeShapes Go.WideShapes Go.ChangeAt Go.RowKit

set_option maxHeartbeats 1000000 in
theorem walk {v1 v2 v3 : Value} {xs ys zs : List Nat} {w : World} (hx : Sl w .u32 v1 xs) (hy : Sl w .u32 v2 ys) (hz : Sl w .u32 v3 zs) (ax : All 4294967296 xs) (ay : All 4294967296 ys) (az : All 4294967296 zs) :
    Calls Try.prog 11 #[v1, v2, v3] w (Bool_ w true) := by
  have l16 : ∀ l : List Nat, (l.take 16).length ≤ 16 := fun l => by rw [List.length_take]; omega
  have Hx := Lib.hid hx
  have Hy := Lib.hid hy
  have Hz := Lib.hid hz
  have Ax := Lib.hid (ax.take 16)
  have Ay := Lib.hid (ay.take 16)
  have Az := Lib.hid (az.take 16)
  have Lx := Lib.hid (l16 xs)
  have Ly := Lib.hid (l16 ys)
  have Lz := Lib.hid (l16 zs)
  clear hx hy hz ax ay az l16
  go_enter Try.func11, Try.ntmps11
  go_wp2_with fail
  refine (Row_sl Hx.out (k := 16)).mono ?_
  rintro e w' ⟨a, rfl, ha, rfl⟩
  have Ha := Lib.hid ha
  clear ha
  go_wp2_with fail
  refine (Row_sl Hy.out (k := 16)).mono ?_
  rintro e w' ⟨b, rfl, hb, rfl⟩
  have Hb := Lib.hid hb
  clear hb
  go_wp2_with fail
  refine (Row_sl Hz.out (k := 16)).mono ?_
  rintro e w' ⟨c, rfl, hc, rfl⟩
  have Hc := Lib.hid hc
  clear hc Hx Hy Hz
  generalize xs.take 16 = xs at *
  generalize ys.take 16 = ys at *
  generalize zs.take 16 = zs at *
  obtain ⟨A, hA⟩ : ∃ A, val 4294967296 xs = A := ⟨_, rfl⟩
  obtain ⟨B, hB⟩ : ∃ A, val 4294967296 ys = A := ⟨_, rfl⟩
  obtain ⟨C, hC⟩ : ∃ A, val 4294967296 zs = A := ⟨_, rfl⟩
  have HA := Lib.hid hA
  have HB := Lib.hid hB
  have HC := Lib.hid hC
  clear hA hB hC
  go_wp2_with fail
  refine (Cmp_b Ha.out Hb.out Ax.out Ay.out).mono ?_
  rintro e w1 ⟨rfl, g1⟩
  rw [HA.out, HB.out]
  have G1 := Lib.hid g1
  clear g1
  go_wp2_with fail
  refine (Cmp_b (Hb.out.grown G1.out (.inl rfl)) (Hc.out.grown G1.out (.inl rfl)) Ay.out Az.out).mono ?_
  rintro e w2 ⟨rfl, g2⟩
  rw [HB.out, HC.out]
  have G2 := Lib.hid (grown_trans G1.out g2)
  clear g2
  go_wp2_with fail
  refine (Cmp_b (Ha.out.grown G2.out (.inl rfl)) (Hc.out.grown G2.out (.inl rfl)) Ax.out Az.out).mono ?_
  rintro e w3 ⟨rfl, g3⟩
  rw [HA.out, HC.out]
  have G3 := Lib.hid (grown_trans G2.out g3)
  clear g3
  go_wp2_with fail
  refine (Cmp_b (Hb.out.grown G3.out (.inl rfl)) (Ha.out.grown G3.out (.inl rfl)) Ay.out Ax.out).mono ?_
  rintro e w4 ⟨rfl, g4⟩
  rw [HA.out, HB.out, cmpN_swap B A]
  have G4 := Lib.hid (grown_trans G3.out g4)
  clear g4
  have hcase : 0 < cmpN A B ∨ (cmpN A B ≤ 0 ∧ 0 < cmpN B C) ∨ (cmpN A B ≤ 0 ∧ cmpN B C ≤ 0 ∧ cmpN A C ≤ 0) := by
    by_cases h1 : cmpN A B ≤ 0
    · by_cases h2 : cmpN B C ≤ 0
      · exact .inr (.inr ⟨h1, h2, cmpN_le.2 (Nat.le_trans (cmpN_le.1 h1) (cmpN_le.1 h2))⟩)
      · exact .inr (.inl ⟨h1, by omega⟩)
    · exact .inl (by omega)
  obtain ⟨x1, x2⟩ := cmpN_bd A B
  obtain ⟨y1, y2⟩ := cmpN_bd B C
  obtain ⟨z1, z2⟩ := cmpN_bd A C
  generalize cmpN A B = x at *
  generalize cmpN B C = y at *
  generalize cmpN A C = z at *
  have Hadd := Lib.hid (Add_any (Ha.out.grown G4.out (.inl rfl)) (Hb.out.grown G4.out (.inl rfl)) Ax.out Ay.out (by have := Lx.out; omega) (by have := Ly.out; omega))
  have dAB := Lib.hid (dig_all (b := 4294967296) (by omega) (A + B))
  obtain ⟨K, hK⟩ : ∃ K, (dig 2 A).length = K := ⟨_, rfl⟩
  have hKl : K ≤ 512 := by
    have := bits_le32 Ax.out Lx.out
    rw [HA.out, hK] at this
    omega
  have HK := Lib.hid hK
  have b1 := Lib.hid (show A < 2 ^ K by rw [← hK]; exact bits_lt A)
  have b2 := Lib.hid (show K ≠ 0 → 2 ^ (K - 1) ≤ A by rw [← hK]; exact bits_ge)
  clear hK
  rcases hcase with h | ⟨h, h'⟩ | ⟨h, h', h''⟩
  all_goals
    go_wp2_with fail
    refine Hadd.out.mono ?_
    rintro e w5 ⟨s, rfl, hs, g5⟩
    rw [HA.out, HB.out] at hs
    have Hs := Lib.hid hs.sl
    have G5 := Lib.hid (grown_trans G4.out g5)
    clear g5 hs
    go_wp2_with fail
    refine (Cmp_b Hs.out (Ha.out.grown G5.out (.inl rfl)) dAB.out Ax.out).mono ?_
    rintro e w6 ⟨rfl, g6⟩
    rw [HA.out, val_dig (by omega)]
    have G6 := Lib.hid (grown_trans G5.out g6)
    have q0 : 0 ≤ cmpN (A + B) A := cmpN_ge (by omega)
    generalize cmpN (A + B) A = q at *
    clear g6
    go_wp2_with fail
    refine (Bits_any (Ha.out.grown G6.out (.inl rfl)) Ax.out (by have := Lx.out; omega)).mono ?_
    rintro e w7 ⟨rfl, rfl⟩
    rw [HA.out, HK.out]
    go_wp2_with fail
    have one := Own.one w6 .u32 52 1
    have One := Lib.hid (show Sl (w6.alloc (.cells #[.int .u32 1] 52)) .u32 (.slice (some ⟨w6.heap.size, 0, none⟩) 1 1) [1] from one.sl)
    have A1 := Lib.hid (All.cons (b := 4294967296) (x := 1) (by omega) (All.nil _))
    have G7 := Lib.hid (grown_trans G6.out (grown_alloc w6 (.cells #[.int .u32 1] 52) none))
    clear one
    generalize w6.alloc (.cells #[.int .u32 1] 52) = w7 at *
    refine (Shl_any _ One.out A1.out (by simp)).mono ?_
    rintro e w8 ⟨t, rfl, ht, g8⟩
    rw [shN_of (by omega), show val 4294967296 [1] = 1 from rfl, Nat.one_mul] at ht
    have Ht := Lib.hid ht.sl
    have G8 := Lib.hid (grown_trans G7.out g8)
    have One8 := Lib.hid (One.out.grown g8 (.inl rfl))
    clear ht g8
    go_wp2_with fail
    refine (Cmp_b (Ha.out.grown G8.out (.inl rfl)) Ht.out Ax.out (dig_all (by omega) _)).mono ?_
    rintro e w9 ⟨rfl, g9⟩
    rw [HA.out, val_dig (by omega), cmpN_lt b1.out]
    have G9 := Lib.hid (grown_trans G8.out g9)
    have One9 := Lib.hid (One8.out.grown g9 (.inl rfl))
    clear g9
    by_cases k0 : K = 0
    · subst k0
      go_wp2_with fail
      refine (wakes_true _).mono ?_
      rintro e w10 ⟨rfl, g10⟩
      have G10 := Lib.hid (grown_trans G9.out g10)
      clear g10
      go_wp2_with fail
      go_ret
      exact ⟨rfl, G10.out⟩
    · obtain ⟨K', rfl⟩ : ∃ K', K = K' + 1 := ⟨K - 1, by omega⟩
      have tk : ((((K' + 1 : Nat)) : Int) == 0) = false := by rw [beq_eq_false_iff_ne]; omega
      have b3 := Lib.hid (b2.out (by omega))
      clear k0
      go_wp2_with fail
      refine (Shl_any _ One9.out A1.out (by simp)).mono ?_
      rintro e w10 ⟨t2, rfl, ht2, g10⟩
      rw [shN_of (by omega), show val 4294967296 [1] = 1 from rfl, Nat.one_mul] at ht2
      have Ht2 := Lib.hid ht2.sl
      have G10 := Lib.hid (grown_trans G9.out g10)
      clear ht2 g10
      go_wp2_with fail
      refine (Cmp_b (Ha.out.grown G10.out (.inl rfl)) Ht2.out Ax.out (dig_all (by omega) _)).mono ?_
      rintro e w11 ⟨rfl, g11⟩
      rw [HA.out, val_dig (by omega)]
      have r0 : 0 ≤ cmpN A (2 ^ K') := cmpN_ge b3.out
      have G11 := Lib.hid (grown_trans G10.out g11)
      clear g11
      generalize cmpN A (2 ^ K') = r at *
      go_wp2_with fail
      refine (wakes_true _).mono ?_
      rintro e w12 ⟨rfl, g12⟩
      have G12 := Lib.hid (grown_trans G11.out g12)
      clear g12
      go_wp2_with fail
      go_ret
      exact ⟨rfl, G12.out⟩

set_option maxRecDepth 100000 in
theorem lifted (os : Os) (started : os.Started) (H : Type) (enc : TypeId × Value → H) :
    ReturnsInHanded {} Try.checked os 11 .any (Rows.limbOrdersSpec.pre6 enc Try.prog Try.f11 Rows.limbOrdersRow.domain false) (Rows.limbOrdersSpec.post enc Try.prog Try.f11 false true false false) := by
  refine returnsInHanded_of_change (C := Try.checked) Try.own started (by kernel_rfl) Try.func11
    (ChangeSpec.witness6 (enc := enc) (C := Try.checked) false ⟨#[], #[.slice none 0 0, .slice none 0 0, .slice none 0 0], []⟩ 8 (by kernel_rfl) (by kernel_rfl) (by kernel_rfl) (by kernel_rfl)) ?_
  intro W base args ds gs before hval0 hW _ _
  have hval : ∀ (j : Nat) t v, Try.f11.params[j]? = some t → args[j]? = some v → Value.okWide Try.prog W .any base t v := hval0
  obtain ⟨p, q, hA0, hV, rfl, _, _⟩ := id hW
  have hA : DataW.TrodAll enc Try.prog W 0 (fun _ => true) true Try.f11.params.toList args.toList ds p := hA0
  rw [Try.params11] at hA hval
  obtain ⟨v0, vs0, d0, ds0, p0, q0, hargs, rfl, rfl, h0, r0⟩ := trodAll_cons hA
  obtain ⟨v1, vs1, d1, ds1, p1, q1, rfl, rfl, rfl, h1, r1⟩ := trodAll_cons r0
  obtain ⟨v2, vs2, d2, ds2, p2, q2, rfl, rfl, rfl, h2, r2⟩ := trodAll_cons r1
  obtain ⟨rfl, rfl, rfl⟩ := trodAll_nil r2
  obtain rfl : args = #[v0, v1, v2] := by cases args; simp_all
  obtain ⟨xs, s0, a0⟩ := sl_of_trod Try.underlying22 Try.underlying52 (by kernel_rfl) h0 (hval 0 22 v0 rfl rfl)
  obtain ⟨ys, s1, a1⟩ := sl_of_trod Try.underlying22 Try.underlying52 (by kernel_rfl) h1 (hval 1 22 v1 rfl rfl)
  obtain ⟨zs, s2, a2⟩ := sl_of_trod Try.underlying22 Try.underlying52 (by kernel_rfl) h2 (hval 2 22 v2 rfl rfl)
  refine (walk s0 s1 s2 a0 a1 a2).mono fun e W' ⟨he, hg⟩ => ?_
  subst he
  refine ⟨_, rfl, law_post Try.laidOut rfl (by kernel_rfl) Try.underlying4 ?_ ?_ hW hg⟩
  · rw [Try.params11]; decide +kernel
  · rw [Try.params11]
    intro ds h
    match ds, h with
    | [_, _, _], _ => rfl

theorem holds : Rows.LimbOrdersSaid :=
  OpenClaim.holds_of_wide 11 Try.f11 rfl rfl rfl rfl rfl rfl rfl ⟨rfl, rfl, rfl, rfl, rfl⟩ rfl rfl rfl rfl rfl (by kernel_rfl) Try.func11 (by kernel_rfl)
    (of_decide_eq_true (by kernel_rfl)) (by unfold Func.isWrapper; first | (rw [if_pos (by decide +kernel)]; kernel_rfl) | (rw [if_neg (by decide +kernel)]; exact ⟨rfl, rfl⟩))
    (fun os started H enc _ => lifted os started H enc)

end Go.Proofs.Ytkebkdmdhhpinaa.orders
