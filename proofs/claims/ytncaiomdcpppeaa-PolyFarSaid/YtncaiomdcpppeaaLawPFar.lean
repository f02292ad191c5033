/- PolyFar holds: for every polynomial the law returns true and leaves it as it was. No condition. -/
import Derived.Test.YtncaiomdcpppeaaPolM
import Derived.Test.YtncaiomdcpppeaaPolQ
namespace Go.Proofs.Ytncaiomdcpppeaa.pfar
open Go.ChangeShapes Go.WideShapes Go.ChangeAt Go.RowKit
open Go.Proofs.Ytncaiomdcpppeaa.Sym hiding val run start
def b_path_0 (a : Nat → Bool) (xs : Nat → List Nat) (ez : Nat → Int) (n0 N : Nat) : List (World → Value → Prop) := [fun w v => Rw 2 (fun ι w v => RawI w v (a ι) (xs ι)) n0 w v, fun w v => Rw 2 (fun ι w v => KI w v (a ι) ((fun ι => (xs ι).take 2) ι) (ez ι) 2) N w v, fun w v => Rw 4 (fun ι w v => DecQ w v ((((coef (trimL (mk N ez))) ι : Int) : Rat)) (2 + 2 + 2)) ((trimL (mk N ez)).length) w v, fun _ v => v = .int .i64 (((trimL (mk N ez)).length : Nat) : Int)]
def ss_path_0 : List Step := [.base ⟨8, [.fact 0, .lit (.ci .i64 7), .lit (.ci .i64 2)], [⟨.one (.s), [(0, 0, 1)]⟩, ⟨.one (.s), [(0, 0, 2)]⟩], true⟩,
      .base ⟨0, [.fact 2], [⟨.one (.i), [(0, 0, 3)]⟩], .quiet (mLen 25)⟩,
      .base ⟨0, [.fact 3, .lit (.ci .i64 0)], [⟨.one (.lit (.cb true)), []⟩], .quiet (mBin .eql)⟩,
      .base ⟨25, [], [⟨.one (.lit (.cb true)), []⟩], false⟩]
def ins_path_0 : List Out := [⟨.one (.s), [(0, 0, 0)]⟩]
set_option maxRecDepth 100000 in
theorem path_0 {a : Nat → Bool} {xs : Nat → List Nat} {ez : Nat → Int} {n0 N : Nat} (hn : n0 ≤ 9223372036854775807) (hz : ∀ j, sg (a j) (Proofs.Ytncaiomdcpppeaa.val 4294967296 ((xs j).take 2)) = ez j) (hNn : min n0 7 = N) (h0 : tl ez N = 0) : SiteOk (ph (b_path_0 a xs ez n0 N)) Try.prog ⟨7, [.fact 0], [⟨.one (.lit (.cb true)), []⟩], false⟩ := by
  have hl := trimL_mk N ez
  exact fn_okL ins_path_0 [⟨.one (.lit (.cb true)), []⟩] ss_path_0 Try.func7 (by kernel_rfl)
    (lbase (sCut5 7 2 rfl rfl (fun _ _ h => h) rfl rfl (by omega) (by omega) (by omega) hz hNn)
      (lbase (qLen (sz := 4) (n := (trimL (mk N ez)).length) (F := (fun ι w v => DecQ w v ((((coef (trimL (mk N ez))) ι : Int) : Rat)) (2 + 2 + 2))) Try.underlying25 (fun _ _ h => Rw.arr h) rfl)
      (lbase (qTestC (op := .eql) (fun _ _ h => h) (ts_run (decide_eq_true (by omega)) (by simp)))
      (lbase (sWakes5)
      lnil))))
    (ins_ok [.fact 0 (.one (.s))] ⟨fun _ _ h => Rw.is (sz := 2) (F := (fun ι w v => RawI w v (a ι) (xs ι))) (n := n0) h, trivial⟩) (fun _ _ _ h => h)

def b_path_1 (a : Nat → Bool) (xs : Nat → List Nat) (ez : Nat → Int) (n0 N : Nat) : List (World → Value → Prop) := [fun w v => Rw 2 (fun ι w v => RawI w v (a ι) (xs ι)) n0 w v, fun w v => Rw 2 (fun ι w v => KI w v (a ι) ((fun ι => (xs ι).take 2) ι) (ez ι) 2) N w v, fun w v => Rw 4 (fun ι w v => DecQ w v ((((coef (trimL (mk N ez))) ι : Int) : Rat)) (2 + 2 + 2)) ((trimL (mk N ez)).length) w v, fun _ v => v = .int .i64 (((trimL (mk N ez)).length : Nat) : Int), fun w v => NorV w v (1 : Int) 2, fun _ v => v = .int .i64 ((N : Nat) : Int), fun w v => NorV w v (fS ez N) 4, fun _ v => v = .int .i64 (eMin ez N), fun _ v => v = .int .i64 (eSg ez N), fun w v => NorQ w v (((fS ez N) : Int) : Rat) (4 + 2), fun w v => NorV w v ((((fS ez N) : Int) : Rat).num) (4 + 2), fun w v => NorV w v ((((fS ez N) : Int) : Rat).den : Int) (4 + 2), fun _ v => v = .int .i64 (cmpI (hN ez (tl ez N) (((fS ez N) : Int) : Rat).num (((fS ez N) : Int) : Rat).den ((tl ez N) - 1)) 0), fun w v => NorV w v (-(fS ez N)) 4, fun w v => NorQ w v (((-(fS ez N)) : Int) : Rat) (4 + 2), fun w v => NorV w v ((((-(fS ez N)) : Int) : Rat).num) (4 + 2), fun w v => NorV w v ((((-(fS ez N)) : Int) : Rat).den : Int) (4 + 2), fun _ v => v = .int .i64 (cmpI (hN ez (tl ez N) (((-(fS ez N)) : Int) : Rat).num (((-(fS ez N)) : Int) : Rat).den ((tl ez N) - 1)) 0)]
def l_path_1_1 (a : Nat → Bool) (xs : Nat → List Nat) (ez : Nat → Int) (j : Nat) : List (World → Value → Prop) := [fun _ v => v = .int .i64 ((j : Nat) : Int), fun w v => NorV w v (fS ez j) 4, fun w v => Ptr 2 (fun w v => KI w v (a j) ((fun ι => (xs ι).take 2) j) (ez j) 2) w v, fun w v => KI w v (a j) ((fun ι => (xs ι).take 2) j) (ez j) 2, fun w v => NorV w v ((ez j).natAbs : Int) 2, fun w v => NorV w v ((fS ez j) + ((ez j).natAbs : Int)) (4 + 2 + 1), fun _ v => v = .int .i64 (((j + 1) : Nat) : Int)]
def d_path_1_1 : LoopD := ⟨[0, 2, 3, 4, 8, 9, 10, 11, 12, 13, 14, 15, 17, 18, 19], [(.slot 20, .i), (.cell 13 0, .b), (.cell 13 1, .s)], [(.one 0, 18), (.agg [1, 2], 19)], [.closed (.one (.ci .i64 0)), .from 4], 18, [(19, 6)]⟩
def r_path_1_1_0 : List Step := [.base ⟨0, [.fact 18, .fact 5], [⟨.one (.lit (.cb true)), []⟩], .quiet (mBin .lss)⟩,
      .base ⟨0, [.fact 1, .fact 18], [⟨.one (.p), [(0, 0, 20)]⟩], .quiet (mIdx 23)⟩,
      .base ⟨0, [.fact 20], [⟨.agg [.b, .s], [(0, 0, 21)]⟩], .quiet (mLoad 36)⟩,
      .base ⟨45, [.fact 21], [⟨.agg [.b, .s], [(0, 0, 22)]⟩], false⟩,
      .base ⟨44, [.fact 19, .fact 22], [⟨.agg [.b, .s], [(0, 0, 23)]⟩], false⟩,
      .base ⟨0, [.fact 18, .lit (.ci .i64 1)], [⟨.one (.i), [(0, 0, 24)]⟩], .quiet (mBin .add)⟩]
def o_path_1_1 : List Step := [.base ⟨0, [.fact 18, .fact 5], [⟨.one (.lit (.cb false)), []⟩], .quiet (mBin .lss)⟩]
def ss_path_1 : List Step := [.base ⟨8, [.fact 0, .lit (.ci .i64 7), .lit (.ci .i64 2)], [⟨.one (.s), [(0, 0, 1)]⟩, ⟨.one (.s), [(0, 0, 2)]⟩], true⟩,
      .base ⟨0, [.fact 2], [⟨.one (.i), [(0, 0, 3)]⟩], .quiet (mLen 25)⟩,
      .base ⟨0, [.fact 3, .lit (.ci .i64 0)], [⟨.one (.lit (.cb false)), []⟩], .quiet (mBin .eql)⟩,
      .base ⟨43, [.lit (.ci .i64 1)], [⟨.agg [.b, .s], [(0, 0, 4)]⟩], false⟩,
      .base ⟨0, [.fact 1], [⟨.one (.i), [(0, 0, 5)]⟩], .quiet (mLen 23)⟩,
      .loop d_path_1_1 [(r_path_1_1_0, [.from 24, .from 23])] o_path_1_1,
      .base ⟨46, [.fact 1], [⟨.one (.i), [(0, 0, 7)]⟩, ⟨.one (.i), [(0, 0, 8)]⟩], true⟩,
      .base ⟨48, [.fact 6], [⟨.agg [.b, .s, .b, .s], [(0, 0, 9), (0, 2, 10), (2, 2, 11)]⟩], false⟩,
      .base ⟨47, [.fact 1, .fact 9], [⟨.one (.i), [(0, 0, 12)]⟩], false⟩,
      .base ⟨0, [.fact 12, .fact 8], [⟨.one (.lit (.cb true)), []⟩], .quiet (mBin .eql)⟩,
      .base ⟨49, [.fact 6], [⟨.agg [.b, .s], [(0, 0, 13)]⟩], false⟩,
      .base ⟨48, [.fact 13], [⟨.agg [.b, .s, .b, .s], [(0, 0, 14), (0, 2, 15), (2, 2, 16)]⟩], false⟩,
      .base ⟨47, [.fact 1, .fact 14], [⟨.one (.i), [(0, 0, 17)]⟩], false⟩,
      .base ⟨0, [.fact 17, .fact 7], [⟨.one (.lit (.cb true)), []⟩], .quiet (mBin .eql)⟩,
      .base ⟨25, [], [⟨.one (.lit (.cb true)), []⟩], false⟩]
def ins_path_1 : List Out := [⟨.one (.s), [(0, 0, 0)]⟩]
set_option maxRecDepth 100000 in
theorem path_1 {a : Nat → Bool} {xs : Nat → List Nat} {ez : Nat → Int} {n0 N : Nat} (hn : n0 ≤ 9223372036854775807) (hz : ∀ j, sg (a j) (Proofs.Ytncaiomdcpppeaa.val 4294967296 ((xs j).take 2)) = ez j) (hNn : min n0 7 = N) (h0 : 0 < tl ez N) (hB : ∀ j, j ≤ N → Bd (fS ez j).natAbs 4) (hB1 : ∀ j, j ≤ tl ez N - 1 → Bd (hN ez (tl ez N) (((fS ez N) : Int) : Rat).num (((((fS ez N) : Int) : Rat).den : Nat) : Int) j).natAbs 40 ∧ Bd ((((((fS ez N) : Int) : Rat).den : Nat) : Int) ^ j).natAbs 40) (hB2 : ∀ j, j ≤ tl ez N - 1 → Bd (hN ez (tl ez N) (((-fS ez N) : Int) : Rat).num (((((-fS ez N) : Int) : Rat).den : Nat) : Int) j).natAbs 40 ∧ Bd ((((((-fS ez N) : Int) : Rat).den : Nat) : Int) ^ j).natAbs 40) (hE1 : cmpI (hN ez (tl ez N) (((fS ez N) : Int) : Rat).num (((fS ez N) : Int) : Rat).den (tl ez N - 1)) 0 = eSg ez N) (hE2 : cmpI (hN ez (tl ez N) (((-fS ez N) : Int) : Rat).num (((-fS ez N) : Int) : Rat).den (tl ez N - 1)) 0 = eMin ez N) : SiteOk (ph (b_path_1 a xs ez n0 N)) Try.prog ⟨7, [.fact 0], [⟨.one (.lit (.cb true)), []⟩], false⟩ := by
  have hl := trimL_mk N ez
  exact fn_okL ins_path_1 [⟨.one (.lit (.cb true)), []⟩] ss_path_1 Try.func7 (by kernel_rfl)
    (lbase (sCut5 7 2 rfl rfl (fun _ _ h => h) rfl rfl (by omega) (by omega) (by omega) hz hNn)
      (lbase (qLen (sz := 4) (n := (trimL (mk N ez)).length) (F := (fun ι w v => DecQ w v ((((coef (trimL (mk N ez))) ι : Int) : Rat)) (2 + 2 + 2))) Try.underlying25 (fun _ _ h => Rw.arr h) rfl)
      (lbase (qTestC (op := .eql) (fun _ _ h => h) (ts_run (decide_eq_false (by omega)) (by simp)))
      (lbase (sOf (z := 1) rfl (by decide) (by decide) rfl)
      (lbase (qLen (sz := 2) (n := N) (F := (fun ι w v => KI w v (a ι) ((fun ι => (xs ι).take 2) ι) (ez ι) 2)) Try.underlying23 (fun _ _ h => Rw.arr h) rfl)
      (lloop (counted N (fun j => ph (b_path_1 a xs ez n0 N ++ l_path_1_1 a xs ez j)) (fun _ => 0) (fun j p hp => ph_app' (show p < (b_path_1 a xs ez n0 N).length from hp)) ⟨fun _ => rfl, fun _ _ h => NorV.re h (hB 0 (by omega)), trivial⟩ (fun j hj => by
      skip
      exact ⟨(r_path_1_1_0, [.from 24, .from 23]), rfl, ⟨fun _ _ h => h, fun _ _ h => NorV.re h (hB (j + 1) (by omega)), trivial⟩, (lbase (qTest (op := .lss) (fun _ _ h => h) (fun _ _ h => h) (ts_run (decide_eq_true (by omega)) (by simp)))
      (lbase (qIdx (i := j) (sz := 2) (n := N) (F := (fun ι w v => KI w v (a ι) ((fun ι => (xs ι).take 2) ι) (ez ι) 2)) Try.underlying23 (by kernel_rfl) (fun _ _ h => Rw.arr h) (fun _ _ h => h) (by omega) rfl)
      (lbase (qLoad (sz := 2) (F := fun w v => KI w v (a j) ((fun ι => (xs ι).take 2) j) (ez j) 2) (by kernel_rfl) (by kernel_rfl) (fun _ _ h => h) (fun _ _ _ g h => KI.kp h g) (fun _ _ h => IntV.is h.2) rfl)
      (lbase (sAbs kI rfl (by omega) rfl)
      (lbase (sAdd nI nI rfl (by omega) rfl)
      (lbase (qAddK (fun _ _ h => h) (by omega) rfl (by omega) (by omega))
      lnil))))))⟩)
      (lbase (qTest (op := .lss) (fun _ _ h => h) (fun _ _ h => h) (ts_run (decide_eq_false (by omega)) (by simp)))
      lnil)
      (fun q hq w v h => by
        simp only [d_path_1_1, List.mem_cons, List.not_mem_nil, or_false] at hq
        rcases hq with rfl
        · exact (fun h => h) h)) (lbase (sEnds (z := ez) (n := N) (fun _ _ h => Rw.to (sz := 2) (n := N) (F := (fun ι w v => KI w v (a ι) ((fun ι => (xs ι).take 2) ι) (ez ι) 2)) (h) (fun i w v _ h => (fun _ _ _ h => And.right h) i w v h)) rfl rfl (by omega) (by omega))
      (lbase (sRInt nI rfl rfl rfl (by omega) rfl)
      (lbase (sPSign (z := ez) (n := N) (kn := 40) (fun _ _ h => Rw.to (sz := 2) (n := N) (F := (fun ι w v => KI w v (a ι) ((fun ι => (xs ι).take 2) ι) (ez ι) 2)) (h) (fun i w v _ h => (fun _ _ _ h => And.right h) i w v h)) pQ rfl (by omega) (by omega) (by omega) (by omega) hB1)
      (lbase (qTest (op := .eql) (fun _ _ h => h) (fun _ _ h => h) (ts_run (decide_eq_true hE1) (by simp)))
      (lbase (sNeg nI rfl (by omega) rfl)
      (lbase (sRInt nI rfl rfl rfl (by omega) rfl)
      (lbase (sPSign (z := ez) (n := N) (kn := 40) (fun _ _ h => Rw.to (sz := 2) (n := N) (F := (fun ι w v => KI w v (a ι) ((fun ι => (xs ι).take 2) ι) (ez ι) 2)) (h) (fun i w v _ h => (fun _ _ _ h => And.right h) i w v h)) pQ rfl (by omega) (by omega) (by omega) (by omega) hB2)
      (lbase (qTest (op := .eql) (fun _ _ h => h) (fun _ _ h => h) (ts_run (decide_eq_true hE2) (by simp)))
      (lbase (sWakes5)
      lnil)))))))))))))))
    (ins_ok [.fact 0 (.one (.s))] ⟨fun _ _ h => Rw.is (sz := 2) (F := (fun ι w v => RawI w v (a ι) (xs ι))) (n := n0) h, trivial⟩) (fun _ _ _ h => h)

theorem walk {n0 : Nat} {a : Nat → Bool} {xs : Nat → List Nat} {w : World} {v : Value} (hn : n0 ≤ 9223372036854775807) (hl : Rw 2 (fun i w v => RawI w v (a i) (xs i)) n0 w v) : Calls Try.prog 7 #[v] w (Bool_ w true) := by
  obtain ⟨ez, hz⟩ : ∃ ez : Nat → Int, ∀ j, sg (a j) (Proofs.Ytncaiomdcpppeaa.val 4294967296 ((xs j).take 2)) = ez j := ⟨_, fun _ => rfl⟩
  obtain ⟨N, hNn⟩ : ∃ N, min n0 7 = N := ⟨_, rfl⟩
  have hb : ∀ i, i < N → Bd (ez i).natAbs 2 := fun i hi => by
    obtain ⟨p, c, rfl, _, h1⟩ := hl
    obtain ⟨_, _, _, l, _, _, s, _, _, h2⟩ := h1 i (by omega)
    rw [← hz i, sg_abs]
    exact Bd.row _ h2 2
  rcases Nat.eq_zero_or_pos (tl ez N) with h0 | h0
  · exact law_true (path_0 hn hz hNn h0) (vs := [v]) ⟨arg_poly hl, trivial⟩
  · have hle := tl_le ez N
    have hC : ∀ i, i < N → (ez i).natAbs ≤ 4294967296 ^ 2 := fun i hi => Nat.le_of_lt (hb i hi)
    have hB : ∀ j, j ≤ N → Bd (fS ez j).natAbs 4 := fun j hj => by
      have h1 := fS_bd (z := ez) (n := j) fun i hi => hC i (by omega)
      have h2 := fS_pos ez j
      have h3 : j * 4294967296 ^ 2 ≤ 7 * 4294967296 ^ 2 := Nat.mul_le_mul_right _ (by omega)
      have h4 : 1 + 7 * 4294967296 ^ 2 < 4294967296 ^ 4 := by decide
      show _ < 4294967296 ^ 4
      omega
    have hf : ∀ i, i < tl ez N → ((ez i).natAbs : Int) + 1 ≤ fS ez N := fun i hi => fS_le (by omega)
    have hbd : ∀ u : Int, Bd u.natAbs 4 → ∀ j, j ≤ tl ez N - 1 → Bd (hN ez (tl ez N) u 1 j).natAbs 40 ∧ Bd ((1 : Int) ^ j).natAbs 40 := fun u hu j hj => by
      have h1 := hN_bd (kt := 4) h0 (fun i hi => hb i (by omega)) hu (d := 1) (by show 1 < _; decide) j
      refine ⟨h1.more (by omega), ?_⟩
      rw [Int.one_pow]; show 1 < _; decide
    have hneg : Bd (-fS ez N).natAbs 4 := by rw [Int.natAbs_neg]; exact hB N (by omega)
    exact law_true (path_1 hn hz hNn h0 hB (hbd _ (hB N (by omega))) (hbd _ hneg) (far_plus hf h0) (far_minus hf h0)) (vs := [v]) ⟨arg_poly hl, trivial⟩
set_option maxRecDepth 100000 in
theorem lifted (os : Os) (started : os.Started) (H : Type) (enc : TypeId × Value → H) :
    ReturnsInHanded {} Try.checked os 7 .any (Rows.polyFarSpec.pre6 enc Try.prog Try.f7 Rows.polyFarRow.domain false) (Rows.polyFarSpec.post enc Try.prog Try.f7 false true false false) := by
  refine returnsInHanded_of_change (C := Try.checked) Try.own started (by kernel_rfl) Try.func7
    (ChangeSpec.witness6 (enc := enc) (C := Try.checked) false ⟨#[], #[.slice none 0 0], []⟩ 8 (by kernel_rfl) (by kernel_rfl) (by kernel_rfl) (by kernel_rfl)) ?_
  intro W base args ds gs before hval0 hW _ _
  have hval : ∀ (j : Nat) t v, Try.f7.params[j]? = some t → args[j]? = some v → Value.okWide Try.prog W .any base t v := hval0
  obtain ⟨p, q, hA0, hV, rfl, _, _⟩ := id hW
  have hA : DataW.TrodAll enc Try.prog W 0 (fun _ => true) true Try.f7.params.toList args.toList ds p := hA0
  rw [Try.params7] at hA hval
  obtain ⟨v0, vs0, d0, ds0, p0, q0, hargs, rfl, rfl, h0, r0⟩ := trodAll_cons hA
  obtain ⟨rfl, rfl, rfl⟩ := trodAll_nil r0
  obtain rfl : args = #[v0] := by cases args; simp_all
  obtain ⟨n0, a0, xs0, l0, s0⟩ := poly_of_trod h0 (hval 0 23 v0 rfl rfl)
  refine (walk l0 s0).mono fun e W' ⟨he, hg⟩ => ?_
  subst he
  refine ⟨_, rfl, law_post Try.laidOut rfl (by kernel_rfl) Try.underlying4 ?_ ?_ hW hg⟩
  · rw [Try.params7]; decide +kernel
  · rw [Try.params7]
    intro ds h
    match ds, h with
    | [_], _ => rfl

theorem holds : Rows.PolyFarSaid :=
  OpenClaim.holds_of_wide 7 Try.f7 rfl rfl rfl rfl rfl rfl rfl ⟨rfl, rfl, rfl, rfl, rfl⟩ rfl rfl rfl rfl rfl (by kernel_rfl) Try.func7 (by kernel_rfl)
    (of_decide_eq_true (by kernel_rfl)) (by unfold Func.isWrapper; first | (rw [if_pos (by decide +kernel)]; kernel_rfl) | (rw [if_neg (by decide +kernel)]; exact ⟨rfl, rfl⟩))
    (fun os started H enc _ => lifted os started H enc)

end Go.Proofs.Ytncaiomdcpppeaa.pfar
