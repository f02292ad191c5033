/- RatioParses holds: for every text the law returns true. No condition but what the row lists. -/
import Derived.Test.YtjakllpnbeagjaaGreatDoorSymQ
import Derived.Test.YtjakllpnbeagjaaGreatDoorRefX
import Derived.ChangeMaps5
namespace Go.Proofs.YtjakllpnbeagjaaGreatDoor.ratioparses
open Go.ChangeShapes Go.WideShapes Go.ChangeAt Go.RowKit

open Go.Proofs.YtjakllpnbeagjaaGreatDoor.Sym hiding val run start
theorem stand_no (t : TypeId) (h : t ∈ ([46, 24, 3, 4, 9] : List TypeId)) : Tryz.prog.wantsStandIn t = false := by
  simp only [List.mem_cons, List.mem_nil_iff, or_false] at h
  rcases h with rfl | rfl | rfl | rfl | rfl <;> kernel_rfl
def phi_path_l (s : ByteArray) : List (World → Value → Prop) := [fun _ v => v = .string s, fun _ v => v = .int .i64 (s.size : Int)]
def ins_path_l : List Out := [⟨.one (.t), [(0, 0, 0)]⟩]
def ss_path_l : List Site := [⟨0, [.fact 0], [⟨.one (.i), [(0, 0, 1)]⟩], .quiet (mLen 9)⟩,
      ⟨0, [.fact 1, .lit (.ci .i64 300)], [⟨.one (.lit (.cb true)), []⟩], .quiet (mBin .gtr)⟩,
      ⟨34, [], [⟨.one (.lit (.cb true)), []⟩], false⟩]
set_option maxRecDepth 100000 in
theorem path_l {s : ByteArray} (h : 300 < s.size) : SiteOk (ph (phi_path_l s)) Tryz.prog ⟨9, [.fact 0], [⟨.one (.lit (.cb true)), []⟩], false⟩ :=
  fn_ok ins_path_l [⟨.one (.lit (.cb true)), []⟩] ss_path_l Tryz.func9 (by kernel_rfl)
    (all_cons (qLenS Tryz.underlying9 (fun _ _ h => h) rfl)
      (all_cons (qTestN (op := .gtr) (fun _ _ h => h) (tst_run (decide_eq_true (by omega)) (by simp)))
      (all_cons (sWakes4)
      all_nil)))
    (ins_ok [.fact 0 (.one (.t))] ⟨fun _ _ h => IsT h, trivial⟩) (fun _ _ _ h => h)

def phi_path_4 (s : ByteArray) : List (World → Value → Prop) := [fun _ v => v = .string s, fun _ v => v = .int .i64 (s.size : Int)]
def ins_path_4 : List Out := [⟨.one (.t), [(0, 0, 0)]⟩]
def ss_path_4 : List Site := [⟨0, [.fact 0], [⟨.one (.i), [(0, 0, 1)]⟩], .quiet (mLen 9)⟩,
      ⟨0, [.fact 1, .lit (.ci .i64 300)], [⟨.one (.lit (.cb false)), []⟩], .quiet (mBin .gtr)⟩,
      ⟨35, [.fact 0], [⟨.agg [.lit (.cb false), .lit (.nl), .lit (.cb false), .lit (.nl)], []⟩, ⟨.one (.lit (.ci .i64 4)), []⟩], true⟩,
      ⟨36, [.fact 0], [⟨.agg [.lit (.nl), .lit (.cb false), .lit (.nl), .lit (.cb false)], []⟩, ⟨.one (.lit (.ci .i64 4)), []⟩], true⟩,
      ⟨18, [.parts (.agg [.lit (.cb false), .lit .nl]) []], [⟨.one (.lit (.cb true)), []⟩], false⟩,
      ⟨18, [.parts (.agg [.lit (.cb false), .lit .nl]) []], [⟨.one (.lit (.cb true)), []⟩], false⟩,
      ⟨34, [], [⟨.one (.lit (.cb true)), []⟩], false⟩]
set_option maxRecDepth 100000 in
theorem path_4 {s : ByteArray} (hs : s.size ≤ 300) (h : rCode s.data.toList = 4) : SiteOk (ph (phi_path_4 s)) Tryz.prog ⟨9, [.fact 0], [⟨.one (.lit (.cb true)), []⟩], false⟩ :=
  fn_ok ins_path_4 [⟨.one (.lit (.cb true)), []⟩] ss_path_4 Tryz.func9 (by kernel_rfl)
    (all_cons (qLenS Tryz.underlying9 (fun _ _ h => h) rfl)
      (all_cons (qTestN (op := .gtr) (fun _ _ h => h) (tst_run (decide_eq_false (by omega)) (by simp)))
      (all_cons (sRParse4 (fun _ _ h => h) (by omega) h)
      (all_cons (tParseR4 (fun _ _ h => h) (by omega) h)
      (all_cons (sIZero0)
      (all_cons (sIZero0)
      (all_cons (sWakes4)
      all_nil)))))))
    (ins_ok [.fact 0 (.one (.t))] ⟨fun _ _ h => IsT h, trivial⟩) (fun _ _ _ h => h)

def phi_path_2 (s : ByteArray) : List (World → Value → Prop) := [fun _ v => v = .string s, fun _ v => v = .int .i64 (s.size : Int)]
def ins_path_2 : List Out := [⟨.one (.t), [(0, 0, 0)]⟩]
def ss_path_2 : List Site := [⟨0, [.fact 0], [⟨.one (.i), [(0, 0, 1)]⟩], .quiet (mLen 9)⟩,
      ⟨0, [.fact 1, .lit (.ci .i64 300)], [⟨.one (.lit (.cb false)), []⟩], .quiet (mBin .gtr)⟩,
      ⟨35, [.fact 0], [⟨.agg [.lit (.cb false), .lit (.nl), .lit (.cb false), .lit (.nl)], []⟩, ⟨.one (.lit (.ci .i64 2)), []⟩], true⟩,
      ⟨36, [.fact 0], [⟨.agg [.lit (.nl), .lit (.cb false), .lit (.nl), .lit (.cb false)], []⟩, ⟨.one (.lit (.ci .i64 2)), []⟩], true⟩,
      ⟨18, [.parts (.agg [.lit (.cb false), .lit .nl]) []], [⟨.one (.lit (.cb true)), []⟩], false⟩,
      ⟨18, [.parts (.agg [.lit (.cb false), .lit .nl]) []], [⟨.one (.lit (.cb true)), []⟩], false⟩,
      ⟨34, [], [⟨.one (.lit (.cb true)), []⟩], false⟩]
set_option maxRecDepth 100000 in
theorem path_2 {s : ByteArray} (hs : s.size ≤ 300) (h : rCode s.data.toList = 2) : SiteOk (ph (phi_path_2 s)) Tryz.prog ⟨9, [.fact 0], [⟨.one (.lit (.cb true)), []⟩], false⟩ :=
  fn_ok ins_path_2 [⟨.one (.lit (.cb true)), []⟩] ss_path_2 Tryz.func9 (by kernel_rfl)
    (all_cons (qLenS Tryz.underlying9 (fun _ _ h => h) rfl)
      (all_cons (qTestN (op := .gtr) (fun _ _ h => h) (tst_run (decide_eq_false (by omega)) (by simp)))
      (all_cons (sRParse2 (fun _ _ h => h) (by omega) h)
      (all_cons (tParseR2 (fun _ _ h => h) (by omega) h)
      (all_cons (sIZero0)
      (all_cons (sIZero0)
      (all_cons (sWakes4)
      all_nil)))))))
    (ins_ok [.fact 0 (.one (.t))] ⟨fun _ _ h => IsT h, trivial⟩) (fun _ _ _ h => h)

def phi_path_0 (s : ByteArray) (t : Rat) : List (World → Value → Prop) := [fun _ v => v = .string s, fun _ v => v = .int .i64 (s.size : Int), fun w v => NorQ w v t 100, fun w v => NorV w v t.num 100, fun w v => NorV w v (t.den : Int) 100, fun w v => DecQ w v t 102, fun w v => DecI w v t.num 102, fun w v => DecI w v (t.den : Int) 102]
def ins_path_0 : List Out := [⟨.one (.t), [(0, 0, 0)]⟩]
def ss_path_0 : List Site := [⟨0, [.fact 0], [⟨.one (.i), [(0, 0, 1)]⟩], .quiet (mLen 9)⟩,
      ⟨0, [.fact 1, .lit (.ci .i64 300)], [⟨.one (.lit (.cb false)), []⟩], .quiet (mBin .gtr)⟩,
      ⟨35, [.fact 0], [⟨.agg [.b, .s, .b, .s], [(0, 0, 2), (0, 2, 3), (2, 2, 4)]⟩, ⟨.one (.lit (.ci .i64 0)), []⟩], true⟩,
      ⟨36, [.fact 0], [⟨.agg [.s, .b, .s, .b], [(0, 0, 5), (0, 2, 6), (2, 2, 7)]⟩, ⟨.one (.lit (.ci .i64 0)), []⟩], true⟩,
      ⟨31, [.fact 5, .fact 2], [⟨.one (.lit (.cb true)), []⟩], false⟩,
      ⟨34, [], [⟨.one (.lit (.cb true)), []⟩], false⟩]
set_option maxRecDepth 100000 in
theorem path_0 {s : ByteArray} {t : Rat} (hs : s.size ≤ 300) (h : rCode s.data.toList = 0) (ht : rQ s.data.toList = t) : SiteOk (ph (phi_path_0 s t)) Tryz.prog ⟨9, [.fact 0], [⟨.one (.lit (.cb true)), []⟩], false⟩ :=
  fn_ok ins_path_0 [⟨.one (.lit (.cb true)), []⟩] ss_path_0 Tryz.func9 (by kernel_rfl)
    (all_cons (qLenS Tryz.underlying9 (fun _ _ h => h) rfl)
      (all_cons (qTestN (op := .gtr) (fun _ _ h => h) (tst_run (decide_eq_false (by omega)) (by simp)))
      (all_cons (sRParse0 (fun _ _ h => h) (by omega) h ht rfl rfl rfl)
      (all_cons (tParseR0 (fun _ _ h => h) (by omega) h ht rfl rfl rfl)
      (all_cons (sIs tS pP (by omega) rfl rfl)
      (all_cons (sWakes4)
      all_nil))))))
    (ins_ok [.fact 0 (.one (.t))] ⟨fun _ _ h => IsT h, trivial⟩) (fun _ _ _ h => h)
theorem code_cases (l : List UInt8) : rCode l = 4 ∨ rCode l = 2 ∨ rCode l = 0 := by
  unfold rCode
  repeat' split
  all_goals simp
theorem walk (s : ByteArray) {w : World} : Calls Tryz.prog 9 #[.string s] w (Bool_ w true) := by
  by_cases hs : s.size ≤ 300
  · rcases code_cases s.data.toList with h | h | h
    · exact law_true (path_4 hs h) (vs := [.string s]) ⟨arg_kp rfl (fun _ _ _ _ h => h) rfl, trivial⟩
    · exact law_true (path_2 hs h) (vs := [.string s]) ⟨arg_kp rfl (fun _ _ _ _ h => h) rfl, trivial⟩
    · exact law_true (path_0 hs h rfl) (vs := [.string s]) ⟨arg_kp rfl (fun _ _ _ _ h => h) rfl, trivial⟩
  · exact law_true (path_l (by omega)) (vs := [.string s]) ⟨arg_kp rfl (fun _ _ _ _ h => h) rfl, trivial⟩
set_option maxRecDepth 100000 in
theorem lifted (os : Os) (started : os.Started) (H : Type) (enc : TypeId × Value → H) :
    ReturnsInHanded {} Tryz.checked os 9 .any (fun w args => (Rows.ratioParsesSpec.pre enc Tryz.prog Tryz.f9 [] false w args ∧ laidMetH Tryz.prog Rows.ratioParsesRow.laid w) ∧ sizedMet enc Tryz.prog Tryz.f9 (OpenSpec.ofChange Rows.ratioParsesSpec) false w args) (Rows.ratioParsesSpec.post enc Tryz.prog Tryz.f9 false true false false) := by
  refine returnsInHanded_of_change_and (C := Tryz.checked) (X := fun w _ => laidMetH Tryz.prog Rows.ratioParsesRow.laid w) (fun _ _ _ hh h => h.of_heap hh) Tryz.own started (by kernel_rfl) Tryz.func9
    (ChangeSpec.witness_at (enc := enc) (C := Tryz.checked) (os := os) (X := fun w _ => laidMetH Tryz.prog Rows.ratioParsesRow.laid w) false (World.laidAll Tryz.prog os Rows.ratioParsesRow.laid) #[.string ⟨#[]⟩] 8 (World.laidAll_os _ _ _) (by kernel_rfl) (by kernel_rfl) (by kernel_rfl) (by kernel_rfl) (by kernel_rfl)
      (by rw [MakeChecks.laidMetH_plain _ _ _ (by kernel_rfl)]; exact laidMet_laidAll _ (by kernel_rfl) (by kernel_rfl))) ?_
  intro W base args ds gs before hval0 hW _ _ _ _
  have hval : ∀ (j : Nat) t v, Tryz.f9.params[j]? = some t → args[j]? = some v → Value.okWide Tryz.prog W .any base t v := hval0
  obtain ⟨p, q, hA0, hV, rfl, _, _⟩ := id hW
  have hA : DataW.TrodAll enc Tryz.prog W 0 (fun _ => true) true Tryz.f9.params.toList args.toList ds p := hA0
  rw [Tryz.params9] at hA hval
  obtain ⟨v0, vs0, d0, ds0, p0, q0, hargs, rfl, rfl, h0, r0⟩ := trodAll_cons hA
  obtain ⟨rfl, rfl, rfl⟩ := trodAll_nil r0
  obtain rfl : args = #[v0] := by cases args; simp_all
  obtain ⟨n0, rfl, rfl, rfl, -⟩ := Go.ChangeMaps.open_string Tryz.underlying9 (hval 0 9 v0 rfl rfl) h0
  refine (walk n0).mono fun e W' ⟨he, hg⟩ => ?_
  subst he
  refine ⟨_, rfl, law_post Tryz.laidOut rfl (by kernel_rfl) Tryz.underlying4 ?_ ?_ hW hg⟩
  · rw [Tryz.params9]; decide +kernel
  · rw [Tryz.params9]
    intro ds h
    match ds, h with
    | [_], _ => rfl

theorem row_holds : Rows.RatioParsesSaid :=
  OpenClaim.holds_of_wide 9 Tryz.f9 rfl rfl rfl rfl rfl rfl rfl ⟨rfl, rfl, rfl, rfl, rfl⟩ rfl rfl rfl rfl rfl (by kernel_rfl) Tryz.func9 (by kernel_rfl)
    (of_decide_eq_true (by kernel_rfl)) (by unfold Func.isWrapper; first | (rw [if_pos (by decide +kernel)]; kernel_rfl) | (rw [if_neg (by decide +kernel)]; exact ⟨rfl, rfl⟩))
    (fun os started H enc _ => lifted os started H enc)
theorem holds : Rows.RatioParsesCardSaid :=
  Claim7.holds_tied_plain_at .later [] Rows.ratioParsesCard.laidKinds true Rows.ratioParsesCard.stood.harness true
    row_holds (fun _ h => by cases h) (by kernel_rfl) (fun _ h => by cases h) ratioParses_row_tie rfl ⟨rfl, rfl⟩ (by kernel_rfl) rfl
    (fun f fn hf hfn => by
      obtain rfl : f = 9 := Option.some.inj ((show Tryz.prog.funcNamed "orrery/orrerylaw04.RatioParses" = some 9 by kernel_rfl).symm.trans hf) |>.symm
      obtain rfl : fn = Tryz.f9 := (Option.some.inj (Tryz.func9.symm.trans hfn)).symm
      exact ⟨by kernel_rfl, fun j t ht => by rw [Tryz.params9] at ht; exact stand_no t (by rcases j with _ | _ | _ | _ | _ | j <;> simp at ht <;> simp [← ht])⟩)
    (by kernel_rfl)

end Go.Proofs.YtjakllpnbeagjaaGreatDoor.ratioparses
