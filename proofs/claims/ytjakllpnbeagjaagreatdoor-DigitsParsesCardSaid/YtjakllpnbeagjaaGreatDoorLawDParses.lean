/- DigitsParses holds: for every text the law returns true. No condition but what the row lists. -/
import Derived.Test.YtjakllpnbeagjaaGreatDoorRowRat
import Derived.Test.YtjakllpnbeagjaaGreatDoorRefW
import Derived.Test.YtjakllpnbeagjaaGreatDoorDigX
import Derived.ChangeMaps5
namespace Go.Proofs.YtjakllpnbeagjaaGreatDoor.digitsparses
open Go.ChangeShapes Go.WideShapes Go.ChangeAt Go.RowKit

open Go.Proofs.YtjakllpnbeagjaaGreatDoor.Sym hiding val run start
theorem stand_no (t : TypeId) (h : t ∈ ([46, 24, 3, 4, 9] : List TypeId)) : Tryz.prog.wantsStandIn t = false := by
  simp only [List.mem_cons, List.mem_nil_iff, or_false] at h
  rcases h with rfl | rfl | rfl | rfl | rfl <;> kernel_rfl
def phi_path_l (s : ByteArray) : List (World → Value → Prop) := [fun _ v => v = .string s, fun _ v => v = .int .i64 (s.size : Int)]
def ins_path_l : List Out := [⟨.one (.t), [(0, 0, 0)]⟩]
def ss_path_l : List Site := [⟨0, [.fact 0], [⟨.one (.i), [(0, 0, 1)]⟩], .quiet (mLen 9)⟩,
      ⟨0, [.fact 1, .lit (.ci .i64 450)], [⟨.one (.lit (.cb true)), []⟩], .quiet (mBin .gtr)⟩,
      ⟨15, [], [⟨.one (.lit (.cb true)), []⟩], false⟩]
set_option maxRecDepth 100000 in
theorem path_l {s : ByteArray} (h : 450 < s.size) : SiteOk (ph (phi_path_l s)) Tryz.prog ⟨4, [.fact 0], [⟨.one (.lit (.cb true)), []⟩], false⟩ :=
  fn_ok ins_path_l [⟨.one (.lit (.cb true)), []⟩] ss_path_l Tryz.func4 (by kernel_rfl)
    (all_cons (qLenS Tryz.underlying9 (fun _ _ h => h) rfl)
      (all_cons (qTestN (op := .gtr) (fun _ _ h => h) (tst_run (decide_eq_true (by omega)) (by simp)))
      (all_cons (sWakes3)
      all_nil)))
    (ins_ok [.fact 0 (.one (.t))] ⟨fun _ _ h => IsT h, trivial⟩) (fun _ _ _ h => h)

def phi_path_n (s : ByteArray) : List (World → Value → Prop) := [fun _ v => v = .string s, fun _ v => v = .int .i64 (s.size : Int)]
def ins_path_n : List Out := [⟨.one (.t), [(0, 0, 0)]⟩]
def ss_path_n : List Site := [⟨0, [.fact 0], [⟨.one (.i), [(0, 0, 1)]⟩], .quiet (mLen 9)⟩,
      ⟨0, [.fact 1, .lit (.ci .i64 450)], [⟨.one (.lit (.cb false)), []⟩], .quiet (mBin .gtr)⟩,
      ⟨16, [.fact 0], [⟨.agg [.lit (.cb false), .lit (.nl)], []⟩, ⟨.one (.lit (.ci .i64 4)), []⟩], true⟩,
      ⟨17, [.fact 0], [⟨.agg [.lit (.nl), .lit (.cb false)], []⟩, ⟨.one (.lit (.cb false)), []⟩], true⟩,
      ⟨18, [.parts (.agg [.lit (.cb false), .lit .nl]) []], [⟨.one (.lit (.cb true)), []⟩], false⟩,
      ⟨15, [], [⟨.one (.lit (.cb true)), []⟩], false⟩]
set_option maxRecDepth 100000 in
theorem path_n {s : ByteArray} (hs : s.size ≤ 450) (h : isNum s.data.toList = false) : SiteOk (ph (phi_path_n s)) Tryz.prog ⟨4, [.fact 0], [⟨.one (.lit (.cb true)), []⟩], false⟩ :=
  fn_ok ins_path_n [⟨.one (.lit (.cb true)), []⟩] ss_path_n Tryz.func4 (by kernel_rfl)
    (all_cons (qLenS Tryz.underlying9 (fun _ _ h => h) rfl)
      (all_cons (qTestN (op := .gtr) (fun _ _ h => h) (tst_run (decide_eq_false (by omega)) (by simp)))
      (all_cons (sDParseNo (fun _ _ h => h) h)
      (all_cons (tParseNo (fun _ _ h => h) h)
      (all_cons (sIZero0)
      (all_cons (sWakes3)
      all_nil))))))
    (ins_ok [.fact 0 (.one (.t))] ⟨fun _ _ h => IsT h, trivial⟩) (fun _ _ _ h => h)

def phi_path_y (s : ByteArray) (z : Int) : List (World → Value → Prop) := [fun _ v => v = .string s, fun _ v => v = .int .i64 (s.size : Int), fun w v => NorV w v z 50, fun w v => DecI w v z 50]
def ins_path_y : List Out := [⟨.one (.t), [(0, 0, 0)]⟩]
def ss_path_y : List Site := [⟨0, [.fact 0], [⟨.one (.i), [(0, 0, 1)]⟩], .quiet (mLen 9)⟩,
      ⟨0, [.fact 1, .lit (.ci .i64 450)], [⟨.one (.lit (.cb false)), []⟩], .quiet (mBin .gtr)⟩,
      ⟨16, [.fact 0], [⟨.agg [.b, .s], [(0, 0, 2)]⟩, ⟨.one (.lit (.ci .i64 0)), []⟩], true⟩,
      ⟨17, [.fact 0], [⟨.agg [.s, .b], [(0, 0, 3)]⟩, ⟨.one (.lit (.cb true)), []⟩], true⟩,
      ⟨19, [.fact 3, .fact 2], [⟨.one (.lit (.cb true)), []⟩], false⟩,
      ⟨15, [], [⟨.one (.lit (.cb true)), []⟩], false⟩]
set_option maxRecDepth 100000 in
theorem path_y {s : ByteArray} {z : Int} (hs : s.size ≤ 450) (h : isNum s.data.toList = true) (hz : sNum s.data.toList = z) : SiteOk (ph (phi_path_y s z)) Tryz.prog ⟨4, [.fact 0], [⟨.one (.lit (.cb true)), []⟩], false⟩ :=
  fn_ok ins_path_y [⟨.one (.lit (.cb true)), []⟩] ss_path_y Tryz.func4 (by kernel_rfl)
    (all_cons (qLenS Tryz.underlying9 (fun _ _ h => h) rfl)
      (all_cons (qTestN (op := .gtr) (fun _ _ h => h) (tst_run (decide_eq_false (by omega)) (by simp)))
      (all_cons (sDParse (fun _ _ h => h) h hz rfl)
      (all_cons (tParse (fun _ _ h => h) h hz rfl)
      (all_cons (tSame dD nN (by omega) rfl rfl)
      (all_cons (sWakes3)
      all_nil))))))
    (ins_ok [.fact 0 (.one (.t))] ⟨fun _ _ h => IsT h, trivial⟩) (fun _ _ _ h => h)
theorem walk (s : ByteArray) {w : World} : Calls Tryz.prog 4 #[.string s] w (Bool_ w true) := by
  by_cases hs : s.size ≤ 450
  · cases h : isNum s.data.toList
    · exact law_true (path_n hs h) (vs := [.string s]) ⟨arg_kp rfl (fun _ _ _ _ h => h) rfl, trivial⟩
    · exact law_true (path_y hs h rfl) (vs := [.string s]) ⟨arg_kp rfl (fun _ _ _ _ h => h) rfl, trivial⟩
  · exact law_true (path_l (by omega)) (vs := [.string s]) ⟨arg_kp rfl (fun _ _ _ _ h => h) rfl, trivial⟩
set_option maxRecDepth 100000 in
theorem lifted (os : Os) (started : os.Started) (H : Type) (enc : TypeId × Value → H) :
    ReturnsInHanded {} Tryz.checked os 4 .any (fun w args => (Rows.digitsParsesSpec.pre enc Tryz.prog Tryz.f4 [] false w args ∧ laidMetH Tryz.prog Rows.digitsParsesRow.laid w) ∧ sizedMet enc Tryz.prog Tryz.f4 (OpenSpec.ofChange Rows.digitsParsesSpec) false w args) (Rows.digitsParsesSpec.post enc Tryz.prog Tryz.f4 false true false false) := by
  refine returnsInHanded_of_change_and (C := Tryz.checked) (X := fun w _ => laidMetH Tryz.prog Rows.digitsParsesRow.laid w) (fun _ _ _ hh h => h.of_heap hh) Tryz.own started (by kernel_rfl) Tryz.func4
    (ChangeSpec.witness_at (enc := enc) (C := Tryz.checked) (os := os) (X := fun w _ => laidMetH Tryz.prog Rows.digitsParsesRow.laid w) false (World.laidAll Tryz.prog os Rows.digitsParsesRow.laid) #[.string ⟨#[]⟩] 8 (World.laidAll_os _ _ _) (by kernel_rfl) (by kernel_rfl) (by kernel_rfl) (by kernel_rfl) (by kernel_rfl)
      (by rw [MakeChecks.laidMetH_plain _ _ _ (by kernel_rfl)]; exact laidMet_laidAll _ (by kernel_rfl) (by kernel_rfl))) ?_
  intro W base args ds gs before hval0 hW _ _ _ _
  have hval : ∀ (j : Nat) t v, Tryz.f4.params[j]? = some t → args[j]? = some v → Value.okWide Tryz.prog W .any base t v := hval0
  obtain ⟨p, q, hA0, hV, rfl, _, _⟩ := id hW
  have hA : DataW.TrodAll enc Tryz.prog W 0 (fun _ => true) true Tryz.f4.params.toList args.toList ds p := hA0
  rw [Tryz.params4] at hA hval
  obtain ⟨v0, vs0, d0, ds0, p0, q0, hargs, rfl, rfl, h0, r0⟩ := trodAll_cons hA
  obtain ⟨rfl, rfl, rfl⟩ := trodAll_nil r0
  obtain rfl : args = #[v0] := by cases args; simp_all
  obtain ⟨n0, rfl, rfl, rfl, -⟩ := Go.ChangeMaps.open_string Tryz.underlying9 (hval 0 9 v0 rfl rfl) h0
  refine (walk n0).mono fun e W' ⟨he, hg⟩ => ?_
  subst he
  refine ⟨_, rfl, law_post Tryz.laidOut rfl (by kernel_rfl) Tryz.underlying4 ?_ ?_ hW hg⟩
  · rw [Tryz.params4]; decide +kernel
  · rw [Tryz.params4]
    intro ds h
    match ds, h with
    | [_], _ => rfl

theorem row_holds : Rows.DigitsParsesSaid :=
  OpenClaim.holds_of_wide 4 Tryz.f4 rfl rfl rfl rfl rfl rfl rfl ⟨rfl, rfl, rfl, rfl, rfl⟩ rfl rfl rfl rfl rfl (by kernel_rfl) Tryz.func4 (by kernel_rfl)
    (of_decide_eq_true (by kernel_rfl)) (by unfold Func.isWrapper; first | (rw [if_pos (by decide +kernel)]; kernel_rfl) | (rw [if_neg (by decide +kernel)]; exact ⟨rfl, rfl⟩))
    (fun os started H enc _ => lifted os started H enc)
theorem holds : Rows.DigitsParsesCardSaid :=
  Claim7.holds_tied_plain_at .later [] Rows.digitsParsesCard.laidKinds true Rows.digitsParsesCard.stood.harness true
    row_holds (fun _ h => by cases h) (by kernel_rfl) (fun _ h => by cases h) digitsParses_row_tie rfl ⟨rfl, rfl⟩ (by kernel_rfl) rfl
    (fun f fn hf hfn => by
      obtain rfl : f = 4 := Option.some.inj ((show Tryz.prog.funcNamed "orrery/orrerylaw03.DigitsParses" = some 4 by kernel_rfl).symm.trans hf) |>.symm
      obtain rfl : fn = Tryz.f4 := (Option.some.inj (Tryz.func4.symm.trans hfn)).symm
      exact ⟨by kernel_rfl, fun j t ht => by rw [Tryz.params4] at ht; exact stand_no t (by rcases j with _ | _ | _ | _ | _ | j <;> simp at ht <;> simp [← ht])⟩)
    (by kernel_rfl)

end Go.Proofs.YtjakllpnbeagjaaGreatDoor.digitsparses
