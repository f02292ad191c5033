/- DigitsFractions holds: for every rational the law returns true. No condition but what the row lists. -/
import Derived.Test.YtjakllpnbeagjaaGreatDoorRowRat
import Derived.Test.YtjakllpnbeagjaaGreatDoorDigT
namespace Go.Proofs.YtjakllpnbeagjaaGreatDoor.digitsfractions
open Go.ChangeShapes Go.WideShapes Go.ChangeAt Go.RowKit

open Go.Proofs.YtjakllpnbeagjaaGreatDoor.Sym hiding val run start
theorem stand_no (t : TypeId) (h : t ∈ ([46, 24, 3, 4, 9] : List TypeId)) : Tryz.prog.wantsStandIn t = false := by
  simp only [List.mem_cons, List.mem_nil_iff, or_false] at h
  rcases h with rfl | rfl | rfl | rfl | rfl <;> kernel_rfl
def phi_path (a0 b0 : Bool) (xs0 ys0 : List Nat) (z0 u0 : Int) : List (World → Value → Prop) := [fun w v => RawQ w v a0 xs0 b0 ys0, fun w v => RawQ w v a0 (xs0.take 12) b0 (ys0.take 12), fun w v => QV w v z0 u0 12, fun w v => DecQ w v (qOf z0 u0) (2 * 12 + 2), fun w v => DecI w v ((qOf z0 u0).num) (2 * 12 + 2), fun w v => DecI w v ((qOf z0 u0).den : Int) (2 * 12 + 2), fun w v => NorQ w v (qOf z0 u0) (2 * 12 + 2), fun w v => NorV w v ((qOf z0 u0).num) (2 * 12 + 2), fun w v => NorV w v ((qOf z0 u0).den : Int) (2 * 12 + 2), fun _ v => v = .string (fracS (qOf z0 u0)), fun _ v => v = .string (fracS (qOf z0 u0))]
def ins_path : List Out := [⟨.agg [.b, .s, .b, .s], [(0, 0, 0)]⟩]
def ss_path : List Site := [⟨22, [.fact 0, .lit (.ci .i64 12)], [⟨.agg [.b, .s, .b, .s], [(0, 0, 1), (0, 0, 2)]⟩], false⟩,
      ⟨23, [.fact 2], [⟨.agg [.s, .b, .s, .b], [(0, 0, 3), (0, 2, 4), (2, 2, 5)]⟩], false⟩,
      ⟨25, [.fact 3], [⟨.agg [.b, .s, .b, .s], [(0, 0, 6), (0, 2, 7), (2, 2, 8)]⟩], false⟩,
      ⟨24, [.fact 6], [⟨.one (.t), [(0, 0, 9)]⟩], false⟩,
      ⟨26, [.fact 3], [⟨.one (.t), [(0, 0, 10)]⟩], false⟩,
      ⟨0, [.fact 9, .fact 10], [⟨.one (.lit (.cb true)), []⟩], .quiet (mBin .eql)⟩,
      ⟨15, [], [⟨.one (.lit (.cb true)), []⟩], false⟩]
set_option maxRecDepth 100000 in
theorem path {a0 b0 : Bool} {xs0 ys0 : List Nat} {z0 u0 : Int} (hz0 : sg a0 (Proofs.YtjakllpnbeagjaaGreatDoor.val 4294967296 (xs0.take 12)) = z0) (hu0 : sg b0 (Proofs.YtjakllpnbeagjaaGreatDoor.val 4294967296 (ys0.take 12)) = u0) : SiteOk (ph (phi_path a0 b0 xs0 ys0 z0 u0)) Tryz.prog ⟨6, [.fact 0], [⟨.one (.lit (.cb true)), []⟩], false⟩ :=
  fn_ok ins_path [⟨.one (.lit (.cb true)), []⟩] ss_path Tryz.func6 (by kernel_rfl)
    (all_cons (sKRatL 12 rfl (fun _ _ h => h) rfl rfl hz0 hu0)
      (all_cons (tFromR (fun _ _ h => h) rfl rfl rfl (by omega) rfl)
      (all_cons (tToR tS rfl rfl rfl (by omega))
      (all_cons (sFraction pP (by omega) rfl)
      (all_cons (tFraction tS (by omega) rfl)
      (all_cons (qEqT (fun _ _ h => h) (fun _ _ h => h) (by simp))
      (all_cons (sWakes3)
      all_nil)))))))
    (ins_ok [.fact 0 (.agg [.b, .s, .b, .s])] ⟨fun _ _ h => RawQ.is h, trivial⟩) (fun _ _ _ h => h)
theorem walk {a0 b0 : Bool} {s0 t0 : Value} {xs0 ys0 : List Nat} {w : World} (hx0 : Sl w .u32 s0 xs0) (ax0 : All 4294967296 xs0) (hy0 : Sl w .u32 t0 ys0) (ay0 : All 4294967296 ys0) : Calls Tryz.prog 6 #[.agg #[.bool a0, s0, .bool b0, t0]] w (Bool_ w true) :=
  law_true (path rfl rfl) (vs := [.agg #[.bool a0, s0, .bool b0, t0]]) ⟨arg_kp rfl (fun _ _ _ g h => RawQ.kp h g) ⟨_, _, rfl, hx0, ax0, hy0, ay0⟩, trivial⟩
set_option maxRecDepth 100000 in
theorem lifted (os : Os) (started : os.Started) (H : Type) (enc : TypeId × Value → H) :
    ReturnsInHanded {} Tryz.checked os 6 .any (fun w args => (Rows.digitsFractionsSpec.pre enc Tryz.prog Tryz.f6 [] false w args ∧ laidMetH Tryz.prog Rows.digitsFractionsRow.laid w) ∧ sizedMet enc Tryz.prog Tryz.f6 (OpenSpec.ofChange Rows.digitsFractionsSpec) false w args) (Rows.digitsFractionsSpec.post enc Tryz.prog Tryz.f6 false true false false) := by
  refine returnsInHanded_of_change_and (C := Tryz.checked) (X := fun w _ => laidMetH Tryz.prog Rows.digitsFractionsRow.laid w) (fun _ _ _ hh h => h.of_heap hh) Tryz.own started (by kernel_rfl) Tryz.func6
    (ChangeSpec.witness_at (enc := enc) (C := Tryz.checked) (os := os) (X := fun w _ => laidMetH Tryz.prog Rows.digitsFractionsRow.laid w) false (World.laidAll Tryz.prog os Rows.digitsFractionsRow.laid) #[.agg #[.bool false, .slice none 0 0, .bool false, .slice none 0 0]] 8 (World.laidAll_os _ _ _) (by kernel_rfl) (by kernel_rfl) (by kernel_rfl) (by kernel_rfl) (by kernel_rfl)
      (by rw [MakeChecks.laidMetH_plain _ _ _ (by kernel_rfl)]; exact laidMet_laidAll _ (by kernel_rfl) (by kernel_rfl))) ?_
  intro W base args ds gs before hval0 hW _ _ _ _
  have hval : ∀ (j : Nat) t v, Tryz.f6.params[j]? = some t → args[j]? = some v → Value.okWide Tryz.prog W .any base t v := hval0
  obtain ⟨p, q, hA0, hV, rfl, _, _⟩ := id hW
  have hA : DataW.TrodAll enc Tryz.prog W 0 (fun _ => true) true Tryz.f6.params.toList args.toList ds p := hA0
  rw [Tryz.params6] at hA hval
  obtain ⟨v0, vs0, d0, ds0, p0, q0, hargs, rfl, rfl, h0, r0⟩ := trodAll_cons hA
  obtain ⟨rfl, rfl, rfl⟩ := trodAll_nil r0
  obtain rfl : args = #[v0] := by cases args; simp_all
  obtain ⟨b0, w0, b0', w0', xs0, ys0, rfl, s0, a0, s0', a0'⟩ := rat_of_trod h0 (hval 0 46 v0 rfl rfl)
  refine (walk s0 a0 s0' a0').mono fun e W' ⟨he, hg⟩ => ?_
  subst he
  refine ⟨_, rfl, law_post Tryz.laidOut rfl (by kernel_rfl) Tryz.underlying4 ?_ ?_ hW hg⟩
  · rw [Tryz.params6]; decide +kernel
  · rw [Tryz.params6]
    intro ds h
    match ds, h with
    | [_], _ => rfl

theorem row_holds : Rows.DigitsFractionsSaid :=
  OpenClaim.holds_of_wide 6 Tryz.f6 rfl rfl rfl rfl rfl rfl rfl ⟨rfl, rfl, rfl, rfl, rfl⟩ rfl rfl rfl rfl rfl (by kernel_rfl) Tryz.func6 (by kernel_rfl)
    (of_decide_eq_true (by kernel_rfl)) (by unfold Func.isWrapper; first | (rw [if_pos (by decide +kernel)]; kernel_rfl) | (rw [if_neg (by decide +kernel)]; exact ⟨rfl, rfl⟩))
    (fun os started H enc _ => lifted os started H enc)
theorem holds : Rows.DigitsFractionsCardSaid :=
  Claim7.holds_tied_plain_at .later [] Rows.digitsFractionsCard.laidKinds true Rows.digitsFractionsCard.stood.harness true
    row_holds (fun _ h => by cases h) (by kernel_rfl) (fun _ h => by cases h) digitsFractions_row_tie rfl ⟨rfl, rfl⟩ (by kernel_rfl) rfl
    (fun f fn hf hfn => by
      obtain rfl : f = 6 := Option.some.inj ((show Tryz.prog.funcNamed "orrery/orrerylaw03.DigitsFractions" = some 6 by kernel_rfl).symm.trans hf) |>.symm
      obtain rfl : fn = Tryz.f6 := (Option.some.inj (Tryz.func6.symm.trans hfn)).symm
      exact ⟨by kernel_rfl, fun j t ht => by rw [Tryz.params6] at ht; exact stand_no t (by rcases j with _ | _ | _ | _ | _ | j <;> simp at ht <;> simp [← ht])⟩)
    (by kernel_rfl)

end Go.Proofs.YtjakllpnbeagjaaGreatDoor.digitsfractions
