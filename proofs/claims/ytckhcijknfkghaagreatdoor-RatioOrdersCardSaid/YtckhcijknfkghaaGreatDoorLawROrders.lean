/- RatioOrders holds: for every three rationals the law returns true and leaves them as they were. No condition but what the row lists. -/
import Derived.Test.YtckhcijknfkghaaGreatDoorSymQ
import Derived.Test.YtckhcijknfkghaaGreatDoorRatO
namespace Go.Proofs.YtckhcijknfkghaaGreatDoor.ratioorders
open Go.ChangeShapes Go.WideShapes Go.ChangeAt Go.RowKit

open Go.Proofs.YtckhcijknfkghaaGreatDoor.Sym hiding val run start
theorem stand_no (t : TypeId) (h : t ∈ ([46, 24, 3, 4, 9] : List TypeId)) : Tryz.prog.wantsStandIn t = false := by
  simp only [List.mem_cons, List.mem_nil_iff, or_false] at h
  rcases h with rfl | rfl | rfl | rfl | rfl <;> kernel_rfl
theorem walk {a0 b0 : Bool} {s0 t0 : Value} {xs0 ys0 : List Nat} {a1 b1 : Bool} {s1 t1 : Value} {xs1 ys1 : List Nat} {a2 b2 : Bool} {s2 t2 : Value} {xs2 ys2 : List Nat} {w : World} (hx0 : Sl w .u32 s0 xs0) (ax0 : All 4294967296 xs0) (hy0 : Sl w .u32 t0 ys0) (ay0 : All 4294967296 ys0) (hx1 : Sl w .u32 s1 xs1) (ax1 : All 4294967296 xs1) (hy1 : Sl w .u32 t1 ys1) (ay1 : All 4294967296 ys1) (hx2 : Sl w .u32 s2 xs2) (ax2 : All 4294967296 xs2) (hy2 : Sl w .u32 t2 ys2) (ay2 : All 4294967296 ys2) :
    Calls Tryz.prog 13 #[.agg #[.bool a0, s0, .bool b0, t0], .agg #[.bool a1, s1, .bool b1, t1], .agg #[.bool a2, s2, .bool b2, t2]] w (Bool_ w true) := by
  obtain ⟨z0, hz0⟩ : ∃ z, sg a0 (Proofs.YtckhcijknfkghaaGreatDoor.val 4294967296 (xs0.take 3)) = z := ⟨_, rfl⟩
  obtain ⟨u0, hu0⟩ : ∃ u, sg b0 (Proofs.YtckhcijknfkghaaGreatDoor.val 4294967296 (ys0.take 3)) = u := ⟨_, rfl⟩
  obtain ⟨z1, hz1⟩ : ∃ z, sg a1 (Proofs.YtckhcijknfkghaaGreatDoor.val 4294967296 (xs1.take 3)) = z := ⟨_, rfl⟩
  obtain ⟨u1, hu1⟩ : ∃ u, sg b1 (Proofs.YtckhcijknfkghaaGreatDoor.val 4294967296 (ys1.take 3)) = u := ⟨_, rfl⟩
  obtain ⟨z2, hz2⟩ : ∃ z, sg a2 (Proofs.YtckhcijknfkghaaGreatDoor.val 4294967296 (xs2.take 3)) = z := ⟨_, rfl⟩
  obtain ⟨u2, hu2⟩ : ∃ u, sg b2 (Proofs.YtckhcijknfkghaaGreatDoor.val 4294967296 (ys2.take 3)) = u := ⟨_, rfl⟩
  rcases cmp3 (qOf z0 u0) (qOf z1 u1) (qOf z2 u2) with ⟨h1, h2, h3⟩ | ⟨h1, h2, h3⟩ | ⟨h1, h2, h3⟩ | ⟨h1, h2, h3⟩ | ⟨h1, h2, h3⟩ | ⟨h1, h2, h3⟩ | ⟨h1, h2, h3⟩ | ⟨h1, h2, h3⟩ | ⟨h1, h2, h3⟩ | ⟨h1, h2, h3⟩ | ⟨h1, h2, h3⟩ | ⟨h1, h2, h3⟩ | ⟨h1, h2, h3⟩
  · exact law_true (path_lll hz0 hu0 hz1 hu1 hz2 hu2 h1 h2 h3) (vs := [.agg #[.bool a0, s0, .bool b0, t0], .agg #[.bool a1, s1, .bool b1, t1], .agg #[.bool a2, s2, .bool b2, t2]]) ⟨arg_kp rfl (fun _ _ _ g h => RawQ.kp h g) ⟨_, _, rfl, hx0, ax0, hy0, ay0⟩, arg_kp rfl (fun _ _ _ g h => RawQ.kp h g) ⟨_, _, rfl, hx1, ax1, hy1, ay1⟩, arg_kp rfl (fun _ _ _ g h => RawQ.kp h g) ⟨_, _, rfl, hx2, ax2, hy2, ay2⟩, trivial⟩
  · exact law_true (path_lel hz0 hu0 hz1 hu1 hz2 hu2 h1 h2 h3) (vs := [.agg #[.bool a0, s0, .bool b0, t0], .agg #[.bool a1, s1, .bool b1, t1], .agg #[.bool a2, s2, .bool b2, t2]]) ⟨arg_kp rfl (fun _ _ _ g h => RawQ.kp h g) ⟨_, _, rfl, hx0, ax0, hy0, ay0⟩, arg_kp rfl (fun _ _ _ g h => RawQ.kp h g) ⟨_, _, rfl, hx1, ax1, hy1, ay1⟩, arg_kp rfl (fun _ _ _ g h => RawQ.kp h g) ⟨_, _, rfl, hx2, ax2, hy2, ay2⟩, trivial⟩
  · exact law_true (path_lgl hz0 hu0 hz1 hu1 hz2 hu2 h1 h2 h3) (vs := [.agg #[.bool a0, s0, .bool b0, t0], .agg #[.bool a1, s1, .bool b1, t1], .agg #[.bool a2, s2, .bool b2, t2]]) ⟨arg_kp rfl (fun _ _ _ g h => RawQ.kp h g) ⟨_, _, rfl, hx0, ax0, hy0, ay0⟩, arg_kp rfl (fun _ _ _ g h => RawQ.kp h g) ⟨_, _, rfl, hx1, ax1, hy1, ay1⟩, arg_kp rfl (fun _ _ _ g h => RawQ.kp h g) ⟨_, _, rfl, hx2, ax2, hy2, ay2⟩, trivial⟩
  · exact law_true (path_lge hz0 hu0 hz1 hu1 hz2 hu2 h1 h2 h3) (vs := [.agg #[.bool a0, s0, .bool b0, t0], .agg #[.bool a1, s1, .bool b1, t1], .agg #[.bool a2, s2, .bool b2, t2]]) ⟨arg_kp rfl (fun _ _ _ g h => RawQ.kp h g) ⟨_, _, rfl, hx0, ax0, hy0, ay0⟩, arg_kp rfl (fun _ _ _ g h => RawQ.kp h g) ⟨_, _, rfl, hx1, ax1, hy1, ay1⟩, arg_kp rfl (fun _ _ _ g h => RawQ.kp h g) ⟨_, _, rfl, hx2, ax2, hy2, ay2⟩, trivial⟩
  · exact law_true (path_lgg hz0 hu0 hz1 hu1 hz2 hu2 h1 h2 h3) (vs := [.agg #[.bool a0, s0, .bool b0, t0], .agg #[.bool a1, s1, .bool b1, t1], .agg #[.bool a2, s2, .bool b2, t2]]) ⟨arg_kp rfl (fun _ _ _ g h => RawQ.kp h g) ⟨_, _, rfl, hx0, ax0, hy0, ay0⟩, arg_kp rfl (fun _ _ _ g h => RawQ.kp h g) ⟨_, _, rfl, hx1, ax1, hy1, ay1⟩, arg_kp rfl (fun _ _ _ g h => RawQ.kp h g) ⟨_, _, rfl, hx2, ax2, hy2, ay2⟩, trivial⟩
  · exact law_true (path_ell hz0 hu0 hz1 hu1 hz2 hu2 h1 h2 h3) (vs := [.agg #[.bool a0, s0, .bool b0, t0], .agg #[.bool a1, s1, .bool b1, t1], .agg #[.bool a2, s2, .bool b2, t2]]) ⟨arg_kp rfl (fun _ _ _ g h => RawQ.kp h g) ⟨_, _, rfl, hx0, ax0, hy0, ay0⟩, arg_kp rfl (fun _ _ _ g h => RawQ.kp h g) ⟨_, _, rfl, hx1, ax1, hy1, ay1⟩, arg_kp rfl (fun _ _ _ g h => RawQ.kp h g) ⟨_, _, rfl, hx2, ax2, hy2, ay2⟩, trivial⟩
  · exact law_true (path_eee hz0 hu0 hz1 hu1 hz2 hu2 h1 h2 h3) (vs := [.agg #[.bool a0, s0, .bool b0, t0], .agg #[.bool a1, s1, .bool b1, t1], .agg #[.bool a2, s2, .bool b2, t2]]) ⟨arg_kp rfl (fun _ _ _ g h => RawQ.kp h g) ⟨_, _, rfl, hx0, ax0, hy0, ay0⟩, arg_kp rfl (fun _ _ _ g h => RawQ.kp h g) ⟨_, _, rfl, hx1, ax1, hy1, ay1⟩, arg_kp rfl (fun _ _ _ g h => RawQ.kp h g) ⟨_, _, rfl, hx2, ax2, hy2, ay2⟩, trivial⟩
  · exact law_true (path_egg hz0 hu0 hz1 hu1 hz2 hu2 h1 h2 h3) (vs := [.agg #[.bool a0, s0, .bool b0, t0], .agg #[.bool a1, s1, .bool b1, t1], .agg #[.bool a2, s2, .bool b2, t2]]) ⟨arg_kp rfl (fun _ _ _ g h => RawQ.kp h g) ⟨_, _, rfl, hx0, ax0, hy0, ay0⟩, arg_kp rfl (fun _ _ _ g h => RawQ.kp h g) ⟨_, _, rfl, hx1, ax1, hy1, ay1⟩, arg_kp rfl (fun _ _ _ g h => RawQ.kp h g) ⟨_, _, rfl, hx2, ax2, hy2, ay2⟩, trivial⟩
  · exact law_true (path_gll hz0 hu0 hz1 hu1 hz2 hu2 h1 h2 h3) (vs := [.agg #[.bool a0, s0, .bool b0, t0], .agg #[.bool a1, s1, .bool b1, t1], .agg #[.bool a2, s2, .bool b2, t2]]) ⟨arg_kp rfl (fun _ _ _ g h => RawQ.kp h g) ⟨_, _, rfl, hx0, ax0, hy0, ay0⟩, arg_kp rfl (fun _ _ _ g h => RawQ.kp h g) ⟨_, _, rfl, hx1, ax1, hy1, ay1⟩, arg_kp rfl (fun _ _ _ g h => RawQ.kp h g) ⟨_, _, rfl, hx2, ax2, hy2, ay2⟩, trivial⟩
  · exact law_true (path_gle hz0 hu0 hz1 hu1 hz2 hu2 h1 h2 h3) (vs := [.agg #[.bool a0, s0, .bool b0, t0], .agg #[.bool a1, s1, .bool b1, t1], .agg #[.bool a2, s2, .bool b2, t2]]) ⟨arg_kp rfl (fun _ _ _ g h => RawQ.kp h g) ⟨_, _, rfl, hx0, ax0, hy0, ay0⟩, arg_kp rfl (fun _ _ _ g h => RawQ.kp h g) ⟨_, _, rfl, hx1, ax1, hy1, ay1⟩, arg_kp rfl (fun _ _ _ g h => RawQ.kp h g) ⟨_, _, rfl, hx2, ax2, hy2, ay2⟩, trivial⟩
  · exact law_true (path_glg hz0 hu0 hz1 hu1 hz2 hu2 h1 h2 h3) (vs := [.agg #[.bool a0, s0, .bool b0, t0], .agg #[.bool a1, s1, .bool b1, t1], .agg #[.bool a2, s2, .bool b2, t2]]) ⟨arg_kp rfl (fun _ _ _ g h => RawQ.kp h g) ⟨_, _, rfl, hx0, ax0, hy0, ay0⟩, arg_kp rfl (fun _ _ _ g h => RawQ.kp h g) ⟨_, _, rfl, hx1, ax1, hy1, ay1⟩, arg_kp rfl (fun _ _ _ g h => RawQ.kp h g) ⟨_, _, rfl, hx2, ax2, hy2, ay2⟩, trivial⟩
  · exact law_true (path_geg hz0 hu0 hz1 hu1 hz2 hu2 h1 h2 h3) (vs := [.agg #[.bool a0, s0, .bool b0, t0], .agg #[.bool a1, s1, .bool b1, t1], .agg #[.bool a2, s2, .bool b2, t2]]) ⟨arg_kp rfl (fun _ _ _ g h => RawQ.kp h g) ⟨_, _, rfl, hx0, ax0, hy0, ay0⟩, arg_kp rfl (fun _ _ _ g h => RawQ.kp h g) ⟨_, _, rfl, hx1, ax1, hy1, ay1⟩, arg_kp rfl (fun _ _ _ g h => RawQ.kp h g) ⟨_, _, rfl, hx2, ax2, hy2, ay2⟩, trivial⟩
  · exact law_true (path_ggg hz0 hu0 hz1 hu1 hz2 hu2 h1 h2 h3) (vs := [.agg #[.bool a0, s0, .bool b0, t0], .agg #[.bool a1, s1, .bool b1, t1], .agg #[.bool a2, s2, .bool b2, t2]]) ⟨arg_kp rfl (fun _ _ _ g h => RawQ.kp h g) ⟨_, _, rfl, hx0, ax0, hy0, ay0⟩, arg_kp rfl (fun _ _ _ g h => RawQ.kp h g) ⟨_, _, rfl, hx1, ax1, hy1, ay1⟩, arg_kp rfl (fun _ _ _ g h => RawQ.kp h g) ⟨_, _, rfl, hx2, ax2, hy2, ay2⟩, trivial⟩

set_option maxRecDepth 100000 in
theorem lifted (os : Os) (started : os.Started) (H : Type) (enc : TypeId × Value → H) :
    ReturnsInHanded {} Tryz.checked os 13 .any (fun w args => (Rows.ratioOrdersSpec.pre enc Tryz.prog Tryz.f13 [] false w args ∧ laidMetH Tryz.prog Rows.ratioOrdersRow.laid w) ∧ sizedMet enc Tryz.prog Tryz.f13 (OpenSpec.ofChange Rows.ratioOrdersSpec) false w args) (Rows.ratioOrdersSpec.post enc Tryz.prog Tryz.f13 false true false false) := by
  refine returnsInHanded_of_change_and (C := Tryz.checked) (X := fun w _ => laidMetH Tryz.prog Rows.ratioOrdersRow.laid w) (fun _ _ _ hh h => h.of_heap hh) Tryz.own started (by kernel_rfl) Tryz.func13
    (ChangeSpec.witness_at (enc := enc) (C := Tryz.checked) (os := os) (X := fun w _ => laidMetH Tryz.prog Rows.ratioOrdersRow.laid w) false (World.laidAll Tryz.prog os Rows.ratioOrdersRow.laid) #[.agg #[.bool false, .slice none 0 0, .bool false, .slice none 0 0], .agg #[.bool false, .slice none 0 0, .bool false, .slice none 0 0], .agg #[.bool false, .slice none 0 0, .bool false, .slice none 0 0]] 8 (World.laidAll_os _ _ _) (by kernel_rfl) (by kernel_rfl) (by kernel_rfl) (by kernel_rfl) (by kernel_rfl)
      (by rw [MakeChecks.laidMetH_plain _ _ _ (by kernel_rfl)]; exact laidMet_laidAll _ (by kernel_rfl) (by kernel_rfl))) ?_
  intro W base args ds gs before hval0 hW _ _ _ _
  have hval : ∀ (j : Nat) t v, Tryz.f13.params[j]? = some t → args[j]? = some v → Value.okWide Tryz.prog W .any base t v := hval0
  obtain ⟨p, q, hA0, hV, rfl, _, _⟩ := id hW
  have hA : DataW.TrodAll enc Tryz.prog W 0 (fun _ => true) true Tryz.f13.params.toList args.toList ds p := hA0
  rw [Tryz.params13] at hA hval
  obtain ⟨v0, vs0, d0, ds0, p0, q0, hargs, rfl, rfl, h0, r0⟩ := trodAll_cons hA
  obtain ⟨v1, vs1, d1, ds1, p1, q1, rfl, rfl, rfl, h1, r1⟩ := trodAll_cons r0
  obtain ⟨v2, vs2, d2, ds2, p2, q2, rfl, rfl, rfl, h2, r2⟩ := trodAll_cons r1
  obtain ⟨rfl, rfl, rfl⟩ := trodAll_nil r2
  obtain rfl : args = #[v0, v1, v2] := by cases args; simp_all
  obtain ⟨b0, w0, b0', w0', xs0, ys0, rfl, s0, a0, s0', a0'⟩ := rat_of_trod h0 (hval 0 46 v0 rfl rfl)
  obtain ⟨b1, w1, b1', w1', xs1, ys1, rfl, s1, a1, s1', a1'⟩ := rat_of_trod h1 (hval 1 46 v1 rfl rfl)
  obtain ⟨b2, w2, b2', w2', xs2, ys2, rfl, s2, a2, s2', a2'⟩ := rat_of_trod h2 (hval 2 46 v2 rfl rfl)
  refine (walk s0 a0 s0' a0' s1 a1 s1' a1' s2 a2 s2' a2').mono fun e W' ⟨he, hg⟩ => ?_
  subst he
  refine ⟨_, rfl, law_post Tryz.laidOut rfl (by kernel_rfl) Tryz.underlying4 ?_ ?_ hW hg⟩
  · rw [Tryz.params13]; decide +kernel
  · rw [Tryz.params13]
    intro ds h
    match ds, h with
    | [_, _, _], _ => rfl

theorem row_holds : Rows.RatioOrdersSaid :=
  OpenClaim.holds_of_wide 13 Tryz.f13 rfl rfl rfl rfl rfl rfl rfl ⟨rfl, rfl, rfl, rfl, rfl⟩ rfl rfl rfl rfl rfl (by kernel_rfl) Tryz.func13 (by kernel_rfl)
    (of_decide_eq_true (by kernel_rfl)) (by unfold Func.isWrapper; first | (rw [if_pos (by decide +kernel)]; kernel_rfl) | (rw [if_neg (by decide +kernel)]; exact ⟨rfl, rfl⟩))
    (fun os started H enc _ => lifted os started H enc)
theorem holds : Rows.RatioOrdersCardSaid :=
  Claim7.holds_tied_plain_at .later [] Rows.ratioOrdersCard.laidKinds true Rows.ratioOrdersCard.stood.harness true
    row_holds (fun _ h => by cases h) (by kernel_rfl) (fun _ h => by cases h) ratioOrders_row_tie rfl ⟨rfl, rfl⟩ (by kernel_rfl) rfl
    (fun f fn hf hfn => by
      obtain rfl : f = 13 := Option.some.inj ((show Tryz.prog.funcNamed "orrery/orrerylaw04.RatioOrders" = some 13 by kernel_rfl).symm.trans hf) |>.symm
      obtain rfl : fn = Tryz.f13 := (Option.some.inj (Tryz.func13.symm.trans hfn)).symm
      exact ⟨by kernel_rfl, fun j t ht => by rw [Tryz.params13] at ht; exact stand_no t (by rcases j with _ | _ | _ | _ | _ | j <;> simp at ht <;> simp [← ht])⟩)
    (by kernel_rfl)

end Go.Proofs.YtckhcijknfkghaaGreatDoor.ratioorders
