/- RatioBack holds: for every two rationals the law returns true and leaves them as they were. No condition but what the row lists. -/
import Derived.Test.YtjakllpnbeagjaaGreatDoorSymQ
import Derived.Test.YtjakllpnbeagjaaGreatDoorDigY
namespace Go.Proofs.YtjakllpnbeagjaaGreatDoor.ratioback
open Go.ChangeShapes Go.WideShapes Go.ChangeAt Go.RowKit

open Go.Proofs.YtjakllpnbeagjaaGreatDoor.Sym hiding val run start
theorem stand_no (t : TypeId) (h : t ∈ ([46, 24, 3, 4, 9] : List TypeId)) : Tryz.prog.wantsStandIn t = false := by
  simp only [List.mem_cons, List.mem_nil_iff, or_false] at h
  rcases h with rfl | rfl | rfl | rfl | rfl <;> kernel_rfl
theorem quo_back {q r : Rat} (hq : q ≠ 0) (hr : r ≠ 0) : q / r * (r / q) = Rat.divInt 1 1 := by
  rw [show Rat.divInt 1 1 = 1 from rfl]
  grind
def phi_path_nn (a0 b0 : Bool) (xs0 ys0 : List Nat) (z0 u0 : Int) (a1 b1 : Bool) (xs1 ys1 : List Nat) (z1 u1 : Int) : List (World → Value → Prop) := [fun w v => RawQ w v a0 xs0 b0 ys0, fun w v => RawQ w v a1 xs1 b1 ys1, fun w v => RawQ w v a0 (xs0.take 4) b0 (ys0.take 4), fun w v => QV w v z0 u0 4, fun w v => IntV w v z0 4, fun w v => IntV w v u0 4, fun w v => DecQ w v (qOf z0 u0) (2 * 4 + 2), fun w v => DecI w v ((qOf z0 u0).num) (2 * 4 + 2), fun w v => DecI w v ((qOf z0 u0).den : Int) (2 * 4 + 2), fun w v => RawQ w v a1 (xs1.take 4) b1 (ys1.take 4), fun w v => QV w v z1 u1 4, fun w v => IntV w v z1 4, fun w v => IntV w v u1 4, fun w v => DecQ w v (qOf z1 u1) (2 * 4 + 2), fun w v => DecI w v ((qOf z1 u1).num) (2 * 4 + 2), fun w v => DecI w v ((qOf z1 u1).den : Int) (2 * 4 + 2), fun w v => NorV w v 0 0, fun w v => QV w v (0 : Int) (0 : Int) (0 + 0), fun w v => NorQ w v ((qOf z0 u0) + (qOf (0 : Int) (0 : Int))) (2 * (4 + (0 + 0)) + 9), fun w v => NorV w v (((qOf z0 u0) + (qOf (0 : Int) (0 : Int))).num) (2 * (4 + (0 + 0)) + 9), fun w v => NorV w v (((qOf z0 u0) + (qOf (0 : Int) (0 : Int))).den : Int) (2 * (4 + (0 + 0)) + 9), FracB ((qOf z0 u0) + (qOf (0 : Int) (0 : Int))) (2 * (4 + (0 + 0)) + 9), fun w v => NorQ w v ((qOf z0 u0) + (qOf (0 : Int) (0 : Int))) 100, fun w v => NorV w v (((qOf z0 u0) + (qOf (0 : Int) (0 : Int))).num) 100, fun w v => NorV w v (((qOf z0 u0) + (qOf (0 : Int) (0 : Int))).den : Int) 100, fun w v => NorQ w v ((qOf z0 u0) / (qOf z1 u1)) (2 * (4 + 4) + 8), fun w v => NorV w v (((qOf z0 u0) / (qOf z1 u1)).num) (2 * (4 + 4) + 8), fun w v => NorV w v (((qOf z0 u0) / (qOf z1 u1)).den : Int) (2 * (4 + 4) + 8), fun w v => NorQ w v ((qOf z1 u1) / (qOf z0 u0)) (2 * (4 + 4) + 8), fun w v => NorV w v (((qOf z1 u1) / (qOf z0 u0)).num) (2 * (4 + 4) + 8), fun w v => NorV w v (((qOf z1 u1) / (qOf z0 u0)).den : Int) (2 * (4 + 4) + 8), fun w v => NorQ w v (Rat.divInt 1 1) 4, fun w v => NorV w v ((Rat.divInt 1 1).num) 4, fun w v => NorV w v ((Rat.divInt 1 1).den : Int) 4, fun w v => NorQ w v (((qOf z0 u0) / (qOf z1 u1)) * ((qOf z1 u1) / (qOf z0 u0))) ((2 * (4 + 4) + 8) + (2 * (4 + 4) + 8) + 4), fun w v => NorV w v ((((qOf z0 u0) / (qOf z1 u1)) * ((qOf z1 u1) / (qOf z0 u0))).num) ((2 * (4 + 4) + 8) + (2 * (4 + 4) + 8) + 4), fun w v => NorV w v ((((qOf z0 u0) / (qOf z1 u1)) * ((qOf z1 u1) / (qOf z0 u0))).den : Int) ((2 * (4 + 4) + 8) + (2 * (4 + 4) + 8) + 4)]
def ins_path_nn : List Out := [⟨.agg [.b, .s, .b, .s], [(0, 0, 0)]⟩, ⟨.agg [.b, .s, .b, .s], [(0, 0, 1)]⟩]
def ss_path_nn : List Step := [.base ⟨27, [.fact 0, .lit (.ci .i64 4)], [⟨.agg [.b, .s, .b, .s], [(0, 0, 2), (0, 0, 3), (0, 2, 4), (2, 2, 5)]⟩, ⟨.agg [.s, .b, .s, .b], [(0, 0, 6), (0, 2, 7), (2, 2, 8)]⟩], true⟩,
      .base ⟨27, [.fact 1, .lit (.ci .i64 4)], [⟨.agg [.b, .s, .b, .s], [(0, 0, 9), (0, 0, 10), (0, 2, 11), (2, 2, 12)]⟩, ⟨.agg [.s, .b, .s, .b], [(0, 0, 13), (0, 2, 14), (2, 2, 15)]⟩], true⟩,
      .derive (.agg [.cb false, .nl]) (.agg [.lit (.cb false), .lit (.nl)]) [] 16,
      .base ⟨37, [.fact 3, .parts qS [(0, 2, 16), (2, 2, 16)]], [⟨.agg [.b, .s, .b, .s], [(0, 0, 18), (0, 2, 19), (2, 2, 20)]⟩], false⟩,
      .base ⟨24, [.fact 18], [⟨.one (.t), [(0, 0, 21)]⟩], false⟩,
      .base ⟨35, [.fact 21], [⟨.agg [.b, .s, .b, .s], [(0, 0, 22), (0, 2, 23), (2, 2, 24)]⟩, ⟨.one (.lit (.ci .i64 0)), []⟩], true⟩,
      .base ⟨38, [.fact 18, .fact 22], [⟨.one (.lit (.cb true)), []⟩], false⟩,
      .base ⟨39, [.fact 3, .fact 10], [⟨.agg [.b, .s, .b, .s], [(0, 0, 25), (0, 2, 26), (2, 2, 27)]⟩, ⟨.one (.lit (.ci .i64 0)), []⟩], true⟩,
      .base ⟨39, [.fact 10, .fact 3], [⟨.agg [.b, .s, .b, .s], [(0, 0, 28), (0, 2, 29), (2, 2, 30)]⟩, ⟨.one (.lit (.ci .i64 0)), []⟩], true⟩,
      .base ⟨40, [.lit (.ci .i64 1), .lit (.ci .i64 1)], [⟨.agg [.b, .s, .b, .s], [(0, 0, 31), (0, 2, 32), (2, 2, 33)]⟩, ⟨.one (.lit (.ci .i64 0)), []⟩], true⟩,
      .base ⟨42, [.fact 25, .fact 28], [⟨.agg [.b, .s, .b, .s], [(0, 0, 34), (0, 2, 35), (2, 2, 36)]⟩], false⟩,
      .base ⟨41, [.fact 34, .fact 31], [⟨.one (.lit (.ci .i64 0)), []⟩], false⟩,
      .base ⟨34, [], [⟨.one (.lit (.cb true)), []⟩], false⟩]
set_option maxRecDepth 100000 in
theorem path_nn {a0 b0 : Bool} {xs0 ys0 : List Nat} {z0 u0 : Int} (hz0 : sg a0 (Proofs.YtjakllpnbeagjaaGreatDoor.val 4294967296 (xs0.take 4)) = z0) (hu0 : sg b0 (Proofs.YtjakllpnbeagjaaGreatDoor.val 4294967296 (ys0.take 4)) = u0) {a1 b1 : Bool} {xs1 ys1 : List Nat} {z1 u1 : Int} (hz1 : sg a1 (Proofs.YtjakllpnbeagjaaGreatDoor.val 4294967296 (xs1.take 4)) = z1) (hu1 : sg b1 (Proofs.YtjakllpnbeagjaaGreatDoor.val 4294967296 (ys1.take 4)) = u1) (ha : (qOf z0 u0) ≠ 0) (hb : (qOf z1 u1) ≠ 0) : SiteOk (ph (phi_path_nn a0 b0 xs0 ys0 z0 u0 a1 b1 xs1 ys1 z1 u1)) Tryz.prog ⟨10, [.fact 0, .fact 1], [⟨.one (.lit (.cb true)), []⟩], false⟩ :=
  fn_okL ins_path_nn [⟨.one (.lit (.cb true)), []⟩] ss_path_nn
    Tryz.func10 (by kernel_rfl)
    (lbase (sOfQ 4 rfl (fun _ _ h => h) rfl rfl rfl rfl rfl rfl rfl (by omega) hz0 hu0)
      (lbase (sOfQ 4 rfl (fun _ _ h => h) rfl rfl rfl rfl rfl rfl rfl (by omega) hz1 hu1)
      (lderive (derive0 rfl)
      (lbase (joinR (p := 17) rfl nI nI (by omega) (by omega) (sRAdd vQ vQ rfl rfl rfl (by omega) rfl))
      (lbase (sFractionB pP (by omega) rfl)
      (lbase (sRParseF (k := (2 * (4 + (0 + 0)) + 9)) (fun _ _ h => h) (by omega) rfl rfl rfl)
      (lbase (sSameRat pP pP rfl rfl)
      (lbase (sRQuo vQ vQ rfl rfl rfl (by omega) hb rfl)
      (lbase (sRQuo vQ vQ rfl rfl rfl (by omega) ha rfl)
      (lbase (sROf (z := 1) (y := 1) rfl rfl rfl (by decide) (by decide) (by decide) (by decide) (by decide) rfl)
      (lbase (sRMul pQ pQ rfl rfl rfl (by omega) rfl)
      (lbase (sRCmp pQ pQ (by omega) (cmpQ_eq (quo_back ha hb)))
      (lbase (sWakes4)
      lnil)))))))))))))
    (ins_ok [.fact 0 qS, .fact 1 qS] ⟨fun _ _ h => RawQ.is h, fun _ _ h => RawQ.is h, trivial⟩) (fun _ _ _ h => h)

def phi_path_nz (a0 b0 : Bool) (xs0 ys0 : List Nat) (z0 u0 : Int) (a1 b1 : Bool) (xs1 ys1 : List Nat) (z1 u1 : Int) : List (World → Value → Prop) := [fun w v => RawQ w v a0 xs0 b0 ys0, fun w v => RawQ w v a1 xs1 b1 ys1, fun w v => RawQ w v a0 (xs0.take 4) b0 (ys0.take 4), fun w v => QV w v z0 u0 4, fun w v => IntV w v z0 4, fun w v => IntV w v u0 4, fun w v => DecQ w v (qOf z0 u0) (2 * 4 + 2), fun w v => DecI w v ((qOf z0 u0).num) (2 * 4 + 2), fun w v => DecI w v ((qOf z0 u0).den : Int) (2 * 4 + 2), fun w v => RawQ w v a1 (xs1.take 4) b1 (ys1.take 4), fun w v => QV w v z1 u1 4, fun w v => IntV w v z1 4, fun w v => IntV w v u1 4, fun w v => DecQ w v (qOf z1 u1) (2 * 4 + 2), fun w v => DecI w v ((qOf z1 u1).num) (2 * 4 + 2), fun w v => DecI w v ((qOf z1 u1).den : Int) (2 * 4 + 2), fun w v => NorV w v 0 0, fun w v => QV w v (0 : Int) (0 : Int) (0 + 0), fun w v => NorQ w v ((qOf z0 u0) + (qOf (0 : Int) (0 : Int))) (2 * (4 + (0 + 0)) + 9), fun w v => NorV w v (((qOf z0 u0) + (qOf (0 : Int) (0 : Int))).num) (2 * (4 + (0 + 0)) + 9), fun w v => NorV w v (((qOf z0 u0) + (qOf (0 : Int) (0 : Int))).den : Int) (2 * (4 + (0 + 0)) + 9), FracB ((qOf z0 u0) + (qOf (0 : Int) (0 : Int))) (2 * (4 + (0 + 0)) + 9), fun w v => NorQ w v ((qOf z0 u0) + (qOf (0 : Int) (0 : Int))) 100, fun w v => NorV w v (((qOf z0 u0) + (qOf (0 : Int) (0 : Int))).num) 100, fun w v => NorV w v (((qOf z0 u0) + (qOf (0 : Int) (0 : Int))).den : Int) 100, fun w v => NorQ w v ((qOf z1 u1) / (qOf z0 u0)) (2 * (4 + 4) + 8), fun w v => NorV w v (((qOf z1 u1) / (qOf z0 u0)).num) (2 * (4 + 4) + 8), fun w v => NorV w v (((qOf z1 u1) / (qOf z0 u0)).den : Int) (2 * (4 + 4) + 8)]
def ins_path_nz : List Out := [⟨.agg [.b, .s, .b, .s], [(0, 0, 0)]⟩, ⟨.agg [.b, .s, .b, .s], [(0, 0, 1)]⟩]
def ss_path_nz : List Step := [.base ⟨27, [.fact 0, .lit (.ci .i64 4)], [⟨.agg [.b, .s, .b, .s], [(0, 0, 2), (0, 0, 3), (0, 2, 4), (2, 2, 5)]⟩, ⟨.agg [.s, .b, .s, .b], [(0, 0, 6), (0, 2, 7), (2, 2, 8)]⟩], true⟩,
      .base ⟨27, [.fact 1, .lit (.ci .i64 4)], [⟨.agg [.b, .s, .b, .s], [(0, 0, 9), (0, 0, 10), (0, 2, 11), (2, 2, 12)]⟩, ⟨.agg [.s, .b, .s, .b], [(0, 0, 13), (0, 2, 14), (2, 2, 15)]⟩], true⟩,
      .derive (.agg [.cb false, .nl]) (.agg [.lit (.cb false), .lit (.nl)]) [] 16,
      .base ⟨37, [.fact 3, .parts qS [(0, 2, 16), (2, 2, 16)]], [⟨.agg [.b, .s, .b, .s], [(0, 0, 18), (0, 2, 19), (2, 2, 20)]⟩], false⟩,
      .base ⟨24, [.fact 18], [⟨.one (.t), [(0, 0, 21)]⟩], false⟩,
      .base ⟨35, [.fact 21], [⟨.agg [.b, .s, .b, .s], [(0, 0, 22), (0, 2, 23), (2, 2, 24)]⟩, ⟨.one (.lit (.ci .i64 0)), []⟩], true⟩,
      .base ⟨38, [.fact 18, .fact 22], [⟨.one (.lit (.cb true)), []⟩], false⟩,
      .base ⟨39, [.fact 3, .fact 10], [⟨.agg [.lit (.cb false), .lit (.nl), .lit (.cb false), .lit (.nl)], []⟩, ⟨.one (.lit (.ci .i64 2)), []⟩], true⟩,
      .base ⟨39, [.fact 10, .fact 3], [⟨.agg [.b, .s, .b, .s], [(0, 0, 25), (0, 2, 26), (2, 2, 27)]⟩, ⟨.one (.lit (.ci .i64 0)), []⟩], true⟩,
      .base ⟨34, [], [⟨.one (.lit (.cb true)), []⟩], false⟩]
set_option maxRecDepth 100000 in
theorem path_nz {a0 b0 : Bool} {xs0 ys0 : List Nat} {z0 u0 : Int} (hz0 : sg a0 (Proofs.YtjakllpnbeagjaaGreatDoor.val 4294967296 (xs0.take 4)) = z0) (hu0 : sg b0 (Proofs.YtjakllpnbeagjaaGreatDoor.val 4294967296 (ys0.take 4)) = u0) {a1 b1 : Bool} {xs1 ys1 : List Nat} {z1 u1 : Int} (hz1 : sg a1 (Proofs.YtjakllpnbeagjaaGreatDoor.val 4294967296 (xs1.take 4)) = z1) (hu1 : sg b1 (Proofs.YtjakllpnbeagjaaGreatDoor.val 4294967296 (ys1.take 4)) = u1) (ha : (qOf z0 u0) ≠ 0) (hb : (qOf z1 u1) = 0) : SiteOk (ph (phi_path_nz a0 b0 xs0 ys0 z0 u0 a1 b1 xs1 ys1 z1 u1)) Tryz.prog ⟨10, [.fact 0, .fact 1], [⟨.one (.lit (.cb true)), []⟩], false⟩ :=
  fn_okL ins_path_nz [⟨.one (.lit (.cb true)), []⟩] ss_path_nz
    Tryz.func10 (by kernel_rfl)
    (lbase (sOfQ 4 rfl (fun _ _ h => h) rfl rfl rfl rfl rfl rfl rfl (by omega) hz0 hu0)
      (lbase (sOfQ 4 rfl (fun _ _ h => h) rfl rfl rfl rfl rfl rfl rfl (by omega) hz1 hu1)
      (lderive (derive0 rfl)
      (lbase (joinR (p := 17) rfl nI nI (by omega) (by omega) (sRAdd vQ vQ rfl rfl rfl (by omega) rfl))
      (lbase (sFractionB pP (by omega) rfl)
      (lbase (sRParseF (k := (2 * (4 + (0 + 0)) + 9)) (fun _ _ h => h) (by omega) rfl rfl rfl)
      (lbase (sSameRat pP pP rfl rfl)
      (lbase (sRQuo0 vQ vQ (by omega) hb)
      (lbase (sRQuo vQ vQ rfl rfl rfl (by omega) ha rfl)
      (lbase (sWakes4)
      lnil))))))))))
    (ins_ok [.fact 0 qS, .fact 1 qS] ⟨fun _ _ h => RawQ.is h, fun _ _ h => RawQ.is h, trivial⟩) (fun _ _ _ h => h)

def phi_path_zn (a0 b0 : Bool) (xs0 ys0 : List Nat) (z0 u0 : Int) (a1 b1 : Bool) (xs1 ys1 : List Nat) (z1 u1 : Int) : List (World → Value → Prop) := [fun w v => RawQ w v a0 xs0 b0 ys0, fun w v => RawQ w v a1 xs1 b1 ys1, fun w v => RawQ w v a0 (xs0.take 4) b0 (ys0.take 4), fun w v => QV w v z0 u0 4, fun w v => IntV w v z0 4, fun w v => IntV w v u0 4, fun w v => DecQ w v (qOf z0 u0) (2 * 4 + 2), fun w v => DecI w v ((qOf z0 u0).num) (2 * 4 + 2), fun w v => DecI w v ((qOf z0 u0).den : Int) (2 * 4 + 2), fun w v => RawQ w v a1 (xs1.take 4) b1 (ys1.take 4), fun w v => QV w v z1 u1 4, fun w v => IntV w v z1 4, fun w v => IntV w v u1 4, fun w v => DecQ w v (qOf z1 u1) (2 * 4 + 2), fun w v => DecI w v ((qOf z1 u1).num) (2 * 4 + 2), fun w v => DecI w v ((qOf z1 u1).den : Int) (2 * 4 + 2), fun w v => NorV w v 0 0, fun w v => QV w v (0 : Int) (0 : Int) (0 + 0), fun w v => NorQ w v ((qOf z0 u0) + (qOf (0 : Int) (0 : Int))) (2 * (4 + (0 + 0)) + 9), fun w v => NorV w v (((qOf z0 u0) + (qOf (0 : Int) (0 : Int))).num) (2 * (4 + (0 + 0)) + 9), fun w v => NorV w v (((qOf z0 u0) + (qOf (0 : Int) (0 : Int))).den : Int) (2 * (4 + (0 + 0)) + 9), FracB ((qOf z0 u0) + (qOf (0 : Int) (0 : Int))) (2 * (4 + (0 + 0)) + 9), fun w v => NorQ w v ((qOf z0 u0) + (qOf (0 : Int) (0 : Int))) 100, fun w v => NorV w v (((qOf z0 u0) + (qOf (0 : Int) (0 : Int))).num) 100, fun w v => NorV w v (((qOf z0 u0) + (qOf (0 : Int) (0 : Int))).den : Int) 100, fun w v => NorQ w v ((qOf z0 u0) / (qOf z1 u1)) (2 * (4 + 4) + 8), fun w v => NorV w v (((qOf z0 u0) / (qOf z1 u1)).num) (2 * (4 + 4) + 8), fun w v => NorV w v (((qOf z0 u0) / (qOf z1 u1)).den : Int) (2 * (4 + 4) + 8)]
def ins_path_zn : List Out := [⟨.agg [.b, .s, .b, .s], [(0, 0, 0)]⟩, ⟨.agg [.b, .s, .b, .s], [(0, 0, 1)]⟩]
def ss_path_zn : List Step := [.base ⟨27, [.fact 0, .lit (.ci .i64 4)], [⟨.agg [.b, .s, .b, .s], [(0, 0, 2), (0, 0, 3), (0, 2, 4), (2, 2, 5)]⟩, ⟨.agg [.s, .b, .s, .b], [(0, 0, 6), (0, 2, 7), (2, 2, 8)]⟩], true⟩,
      .base ⟨27, [.fact 1, .lit (.ci .i64 4)], [⟨.agg [.b, .s, .b, .s], [(0, 0, 9), (0, 0, 10), (0, 2, 11), (2, 2, 12)]⟩, ⟨.agg [.s, .b, .s, .b], [(0, 0, 13), (0, 2, 14), (2, 2, 15)]⟩], true⟩,
      .derive (.agg [.cb false, .nl]) (.agg [.lit (.cb false), .lit (.nl)]) [] 16,
      .base ⟨37, [.fact 3, .parts qS [(0, 2, 16), (2, 2, 16)]], [⟨.agg [.b, .s, .b, .s], [(0, 0, 18), (0, 2, 19), (2, 2, 20)]⟩], false⟩,
      .base ⟨24, [.fact 18], [⟨.one (.t), [(0, 0, 21)]⟩], false⟩,
      .base ⟨35, [.fact 21], [⟨.agg [.b, .s, .b, .s], [(0, 0, 22), (0, 2, 23), (2, 2, 24)]⟩, ⟨.one (.lit (.ci .i64 0)), []⟩], true⟩,
      .base ⟨38, [.fact 18, .fact 22], [⟨.one (.lit (.cb true)), []⟩], false⟩,
      .base ⟨39, [.fact 3, .fact 10], [⟨.agg [.b, .s, .b, .s], [(0, 0, 25), (0, 2, 26), (2, 2, 27)]⟩, ⟨.one (.lit (.ci .i64 0)), []⟩], true⟩,
      .base ⟨39, [.fact 10, .fact 3], [⟨.agg [.lit (.cb false), .lit (.nl), .lit (.cb false), .lit (.nl)], []⟩, ⟨.one (.lit (.ci .i64 2)), []⟩], true⟩,
      .base ⟨34, [], [⟨.one (.lit (.cb true)), []⟩], false⟩]
set_option maxRecDepth 100000 in
theorem path_zn {a0 b0 : Bool} {xs0 ys0 : List Nat} {z0 u0 : Int} (hz0 : sg a0 (Proofs.YtjakllpnbeagjaaGreatDoor.val 4294967296 (xs0.take 4)) = z0) (hu0 : sg b0 (Proofs.YtjakllpnbeagjaaGreatDoor.val 4294967296 (ys0.take 4)) = u0) {a1 b1 : Bool} {xs1 ys1 : List Nat} {z1 u1 : Int} (hz1 : sg a1 (Proofs.YtjakllpnbeagjaaGreatDoor.val 4294967296 (xs1.take 4)) = z1) (hu1 : sg b1 (Proofs.YtjakllpnbeagjaaGreatDoor.val 4294967296 (ys1.take 4)) = u1) (ha : (qOf z0 u0) = 0) (hb : (qOf z1 u1) ≠ 0) : SiteOk (ph (phi_path_zn a0 b0 xs0 ys0 z0 u0 a1 b1 xs1 ys1 z1 u1)) Tryz.prog ⟨10, [.fact 0, .fact 1], [⟨.one (.lit (.cb true)), []⟩], false⟩ :=
  fn_okL ins_path_zn [⟨.one (.lit (.cb true)), []⟩] ss_path_zn
    Tryz.func10 (by kernel_rfl)
    (lbase (sOfQ 4 rfl (fun _ _ h => h) rfl rfl rfl rfl rfl rfl rfl (by omega) hz0 hu0)
      (lbase (sOfQ 4 rfl (fun _ _ h => h) rfl rfl rfl rfl rfl rfl rfl (by omega) hz1 hu1)
      (lderive (derive0 rfl)
      (lbase (joinR (p := 17) rfl nI nI (by omega) (by omega) (sRAdd vQ vQ rfl rfl rfl (by omega) rfl))
      (lbase (sFractionB pP (by omega) rfl)
      (lbase (sRParseF (k := (2 * (4 + (0 + 0)) + 9)) (fun _ _ h => h) (by omega) rfl rfl rfl)
      (lbase (sSameRat pP pP rfl rfl)
      (lbase (sRQuo vQ vQ rfl rfl rfl (by omega) hb rfl)
      (lbase (sRQuo0 vQ vQ (by omega) ha)
      (lbase (sWakes4)
      lnil))))))))))
    (ins_ok [.fact 0 qS, .fact 1 qS] ⟨fun _ _ h => RawQ.is h, fun _ _ h => RawQ.is h, trivial⟩) (fun _ _ _ h => h)

def phi_path_zz (a0 b0 : Bool) (xs0 ys0 : List Nat) (z0 u0 : Int) (a1 b1 : Bool) (xs1 ys1 : List Nat) (z1 u1 : Int) : List (World → Value → Prop) := [fun w v => RawQ w v a0 xs0 b0 ys0, fun w v => RawQ w v a1 xs1 b1 ys1, fun w v => RawQ w v a0 (xs0.take 4) b0 (ys0.take 4), fun w v => QV w v z0 u0 4, fun w v => IntV w v z0 4, fun w v => IntV w v u0 4, fun w v => DecQ w v (qOf z0 u0) (2 * 4 + 2), fun w v => DecI w v ((qOf z0 u0).num) (2 * 4 + 2), fun w v => DecI w v ((qOf z0 u0).den : Int) (2 * 4 + 2), fun w v => RawQ w v a1 (xs1.take 4) b1 (ys1.take 4), fun w v => QV w v z1 u1 4, fun w v => IntV w v z1 4, fun w v => IntV w v u1 4, fun w v => DecQ w v (qOf z1 u1) (2 * 4 + 2), fun w v => DecI w v ((qOf z1 u1).num) (2 * 4 + 2), fun w v => DecI w v ((qOf z1 u1).den : Int) (2 * 4 + 2), fun w v => NorV w v 0 0, fun w v => QV w v (0 : Int) (0 : Int) (0 + 0), fun w v => NorQ w v ((qOf z0 u0) + (qOf (0 : Int) (0 : Int))) (2 * (4 + (0 + 0)) + 9), fun w v => NorV w v (((qOf z0 u0) + (qOf (0 : Int) (0 : Int))).num) (2 * (4 + (0 + 0)) + 9), fun w v => NorV w v (((qOf z0 u0) + (qOf (0 : Int) (0 : Int))).den : Int) (2 * (4 + (0 + 0)) + 9), FracB ((qOf z0 u0) + (qOf (0 : Int) (0 : Int))) (2 * (4 + (0 + 0)) + 9), fun w v => NorQ w v ((qOf z0 u0) + (qOf (0 : Int) (0 : Int))) 100, fun w v => NorV w v (((qOf z0 u0) + (qOf (0 : Int) (0 : Int))).num) 100, fun w v => NorV w v (((qOf z0 u0) + (qOf (0 : Int) (0 : Int))).den : Int) 100]
def ins_path_zz : List Out := [⟨.agg [.b, .s, .b, .s], [(0, 0, 0)]⟩, ⟨.agg [.b, .s, .b, .s], [(0, 0, 1)]⟩]
def ss_path_zz : List Step := [.base ⟨27, [.fact 0, .lit (.ci .i64 4)], [⟨.agg [.b, .s, .b, .s], [(0, 0, 2), (0, 0, 3), (0, 2, 4), (2, 2, 5)]⟩, ⟨.agg [.s, .b, .s, .b], [(0, 0, 6), (0, 2, 7), (2, 2, 8)]⟩], true⟩,
      .base ⟨27, [.fact 1, .lit (.ci .i64 4)], [⟨.agg [.b, .s, .b, .s], [(0, 0, 9), (0, 0, 10), (0, 2, 11), (2, 2, 12)]⟩, ⟨.agg [.s, .b, .s, .b], [(0, 0, 13), (0, 2, 14), (2, 2, 15)]⟩], true⟩,
      .derive (.agg [.cb false, .nl]) (.agg [.lit (.cb false), .lit (.nl)]) [] 16,
      .base ⟨37, [.fact 3, .parts qS [(0, 2, 16), (2, 2, 16)]], [⟨.agg [.b, .s, .b, .s], [(0, 0, 18), (0, 2, 19), (2, 2, 20)]⟩], false⟩,
      .base ⟨24, [.fact 18], [⟨.one (.t), [(0, 0, 21)]⟩], false⟩,
      .base ⟨35, [.fact 21], [⟨.agg [.b, .s, .b, .s], [(0, 0, 22), (0, 2, 23), (2, 2, 24)]⟩, ⟨.one (.lit (.ci .i64 0)), []⟩], true⟩,
      .base ⟨38, [.fact 18, .fact 22], [⟨.one (.lit (.cb true)), []⟩], false⟩,
      .base ⟨39, [.fact 3, .fact 10], [⟨.agg [.lit (.cb false), .lit (.nl), .lit (.cb false), .lit (.nl)], []⟩, ⟨.one (.lit (.ci .i64 2)), []⟩], true⟩,
      .base ⟨39, [.fact 10, .fact 3], [⟨.agg [.lit (.cb false), .lit (.nl), .lit (.cb false), .lit (.nl)], []⟩, ⟨.one (.lit (.ci .i64 2)), []⟩], true⟩,
      .base ⟨34, [], [⟨.one (.lit (.cb true)), []⟩], false⟩]
set_option maxRecDepth 100000 in
theorem path_zz {a0 b0 : Bool} {xs0 ys0 : List Nat} {z0 u0 : Int} (hz0 : sg a0 (Proofs.YtjakllpnbeagjaaGreatDoor.val 4294967296 (xs0.take 4)) = z0) (hu0 : sg b0 (Proofs.YtjakllpnbeagjaaGreatDoor.val 4294967296 (ys0.take 4)) = u0) {a1 b1 : Bool} {xs1 ys1 : List Nat} {z1 u1 : Int} (hz1 : sg a1 (Proofs.YtjakllpnbeagjaaGreatDoor.val 4294967296 (xs1.take 4)) = z1) (hu1 : sg b1 (Proofs.YtjakllpnbeagjaaGreatDoor.val 4294967296 (ys1.take 4)) = u1) (ha : (qOf z0 u0) = 0) (hb : (qOf z1 u1) = 0) : SiteOk (ph (phi_path_zz a0 b0 xs0 ys0 z0 u0 a1 b1 xs1 ys1 z1 u1)) Tryz.prog ⟨10, [.fact 0, .fact 1], [⟨.one (.lit (.cb true)), []⟩], false⟩ :=
  fn_okL ins_path_zz [⟨.one (.lit (.cb true)), []⟩] ss_path_zz
    Tryz.func10 (by kernel_rfl)
    (lbase (sOfQ 4 rfl (fun _ _ h => h) rfl rfl rfl rfl rfl rfl rfl (by omega) hz0 hu0)
      (lbase (sOfQ 4 rfl (fun _ _ h => h) rfl rfl rfl rfl rfl rfl rfl (by omega) hz1 hu1)
      (lderive (derive0 rfl)
      (lbase (joinR (p := 17) rfl nI nI (by omega) (by omega) (sRAdd vQ vQ rfl rfl rfl (by omega) rfl))
      (lbase (sFractionB pP (by omega) rfl)
      (lbase (sRParseF (k := (2 * (4 + (0 + 0)) + 9)) (fun _ _ h => h) (by omega) rfl rfl rfl)
      (lbase (sSameRat pP pP rfl rfl)
      (lbase (sRQuo0 vQ vQ (by omega) hb)
      (lbase (sRQuo0 vQ vQ (by omega) ha)
      (lbase (sWakes4)
      lnil))))))))))
    (ins_ok [.fact 0 qS, .fact 1 qS] ⟨fun _ _ h => RawQ.is h, fun _ _ h => RawQ.is h, trivial⟩) (fun _ _ _ h => h)

theorem walk {a0 b0 : Bool} {s0 t0 : Value} {xs0 ys0 : List Nat} {a1 b1 : Bool} {s1 t1 : Value} {xs1 ys1 : List Nat} {w : World} (hx0 : Sl w .u32 s0 xs0) (ax0 : All 4294967296 xs0) (hy0 : Sl w .u32 t0 ys0) (ay0 : All 4294967296 ys0) (hx1 : Sl w .u32 s1 xs1) (ax1 : All 4294967296 xs1) (hy1 : Sl w .u32 t1 ys1) (ay1 : All 4294967296 ys1) :
    Calls Tryz.prog 10 #[.agg #[.bool a0, s0, .bool b0, t0], .agg #[.bool a1, s1, .bool b1, t1]] w (Bool_ w true) := by
  obtain ⟨z0, hz0⟩ : ∃ z, sg a0 (Proofs.YtjakllpnbeagjaaGreatDoor.val 4294967296 (xs0.take 4)) = z := ⟨_, rfl⟩
  obtain ⟨u0, hu0⟩ : ∃ u, sg b0 (Proofs.YtjakllpnbeagjaaGreatDoor.val 4294967296 (ys0.take 4)) = u := ⟨_, rfl⟩
  obtain ⟨z1, hz1⟩ : ∃ z, sg a1 (Proofs.YtjakllpnbeagjaaGreatDoor.val 4294967296 (xs1.take 4)) = z := ⟨_, rfl⟩
  obtain ⟨u1, hu1⟩ : ∃ u, sg b1 (Proofs.YtjakllpnbeagjaaGreatDoor.val 4294967296 (ys1.take 4)) = u := ⟨_, rfl⟩
  by_cases ha : (qOf z0 u0) = 0
  · by_cases hb : (qOf z1 u1) = 0
    · exact law_true (path_zz hz0 hu0 hz1 hu1 ha hb) (vs := [.agg #[.bool a0, s0, .bool b0, t0], .agg #[.bool a1, s1, .bool b1, t1]]) ⟨arg_kp rfl (fun _ _ _ g h => RawQ.kp h g) ⟨_, _, rfl, hx0, ax0, hy0, ay0⟩, arg_kp rfl (fun _ _ _ g h => RawQ.kp h g) ⟨_, _, rfl, hx1, ax1, hy1, ay1⟩, trivial⟩
    · exact law_true (path_zn hz0 hu0 hz1 hu1 ha hb) (vs := [.agg #[.bool a0, s0, .bool b0, t0], .agg #[.bool a1, s1, .bool b1, t1]]) ⟨arg_kp rfl (fun _ _ _ g h => RawQ.kp h g) ⟨_, _, rfl, hx0, ax0, hy0, ay0⟩, arg_kp rfl (fun _ _ _ g h => RawQ.kp h g) ⟨_, _, rfl, hx1, ax1, hy1, ay1⟩, trivial⟩
  · by_cases hb : (qOf z1 u1) = 0
    · exact law_true (path_nz hz0 hu0 hz1 hu1 ha hb) (vs := [.agg #[.bool a0, s0, .bool b0, t0], .agg #[.bool a1, s1, .bool b1, t1]]) ⟨arg_kp rfl (fun _ _ _ g h => RawQ.kp h g) ⟨_, _, rfl, hx0, ax0, hy0, ay0⟩, arg_kp rfl (fun _ _ _ g h => RawQ.kp h g) ⟨_, _, rfl, hx1, ax1, hy1, ay1⟩, trivial⟩
    · exact law_true (path_nn hz0 hu0 hz1 hu1 ha hb) (vs := [.agg #[.bool a0, s0, .bool b0, t0], .agg #[.bool a1, s1, .bool b1, t1]]) ⟨arg_kp rfl (fun _ _ _ g h => RawQ.kp h g) ⟨_, _, rfl, hx0, ax0, hy0, ay0⟩, arg_kp rfl (fun _ _ _ g h => RawQ.kp h g) ⟨_, _, rfl, hx1, ax1, hy1, ay1⟩, trivial⟩

set_option maxRecDepth 100000 in
theorem lifted (os : Os) (started : os.Started) (H : Type) (enc : TypeId × Value → H) :
    ReturnsInHanded {} Tryz.checked os 10 .any (fun w args => (Rows.ratioBackSpec.pre enc Tryz.prog Tryz.f10 [] false w args ∧ laidMetH Tryz.prog Rows.ratioBackRow.laid w) ∧ sizedMet enc Tryz.prog Tryz.f10 (OpenSpec.ofChange Rows.ratioBackSpec) false w args) (Rows.ratioBackSpec.post enc Tryz.prog Tryz.f10 false true false false) := by
  refine returnsInHanded_of_change_and (C := Tryz.checked) (X := fun w _ => laidMetH Tryz.prog Rows.ratioBackRow.laid w) (fun _ _ _ hh h => h.of_heap hh) Tryz.own started (by kernel_rfl) Tryz.func10
    (ChangeSpec.witness_at (enc := enc) (C := Tryz.checked) (os := os) (X := fun w _ => laidMetH Tryz.prog Rows.ratioBackRow.laid w) false (World.laidAll Tryz.prog os Rows.ratioBackRow.laid) #[.agg #[.bool false, .slice none 0 0, .bool false, .slice none 0 0], .agg #[.bool false, .slice none 0 0, .bool false, .slice none 0 0]] 8 (World.laidAll_os _ _ _) (by kernel_rfl) (by kernel_rfl) (by kernel_rfl) (by kernel_rfl) (by kernel_rfl)
      (by rw [MakeChecks.laidMetH_plain _ _ _ (by kernel_rfl)]; exact laidMet_laidAll _ (by kernel_rfl) (by kernel_rfl))) ?_
  intro W base args ds gs before hval0 hW _ _ _ _
  have hval : ∀ (j : Nat) t v, Tryz.f10.params[j]? = some t → args[j]? = some v → Value.okWide Tryz.prog W .any base t v := hval0
  obtain ⟨p, q, hA0, hV, rfl, _, _⟩ := id hW
  have hA : DataW.TrodAll enc Tryz.prog W 0 (fun _ => true) true Tryz.f10.params.toList args.toList ds p := hA0
  rw [Tryz.params10] at hA hval
  obtain ⟨v0, vs0, d0, ds0, p0, q0, hargs, rfl, rfl, h0, r0⟩ := trodAll_cons hA
  obtain ⟨v1, vs1, d1, ds1, p1, q1, rfl, rfl, rfl, h1, r1⟩ := trodAll_cons r0
  obtain ⟨rfl, rfl, rfl⟩ := trodAll_nil r1
  obtain rfl : args = #[v0, v1] := by cases args; simp_all
  obtain ⟨b0, w0, b0', w0', xs0, ys0, rfl, s0, a0, s0', a0'⟩ := rat_of_trod h0 (hval 0 46 v0 rfl rfl)
  obtain ⟨b1, w1, b1', w1', xs1, ys1, rfl, s1, a1, s1', a1'⟩ := rat_of_trod h1 (hval 1 46 v1 rfl rfl)
  refine (walk s0 a0 s0' a0' s1 a1 s1' a1').mono fun e W' ⟨he, hg⟩ => ?_
  subst he
  refine ⟨_, rfl, law_post Tryz.laidOut rfl (by kernel_rfl) Tryz.underlying4 ?_ ?_ hW hg⟩
  · rw [Tryz.params10]; decide +kernel
  · rw [Tryz.params10]
    intro ds h
    match ds, h with
    | [_, _], _ => rfl

theorem row_holds : Rows.RatioBackSaid :=
  OpenClaim.holds_of_wide 10 Tryz.f10 rfl rfl rfl rfl rfl rfl rfl ⟨rfl, rfl, rfl, rfl, rfl⟩ rfl rfl rfl rfl rfl (by kernel_rfl) Tryz.func10 (by kernel_rfl)
    (of_decide_eq_true (by kernel_rfl)) (by unfold Func.isWrapper; first | (rw [if_pos (by decide +kernel)]; kernel_rfl) | (rw [if_neg (by decide +kernel)]; exact ⟨rfl, rfl⟩))
    (fun os started H enc _ => lifted os started H enc)
theorem holds : Rows.RatioBackCardSaid :=
  Claim7.holds_tied_plain_at .later [] Rows.ratioBackCard.laidKinds true Rows.ratioBackCard.stood.harness true
    row_holds (fun _ h => by cases h) (by kernel_rfl) (fun _ h => by cases h) ratioBack_row_tie rfl ⟨rfl, rfl⟩ (by kernel_rfl) rfl
    (fun f fn hf hfn => by
      obtain rfl : f = 10 := Option.some.inj ((show Tryz.prog.funcNamed "orrery/orrerylaw04.RatioBack" = some 10 by kernel_rfl).symm.trans hf) |>.symm
      obtain rfl : fn = Tryz.f10 := (Option.some.inj (Tryz.func10.symm.trans hfn)).symm
      exact ⟨by kernel_rfl, fun j t ht => by rw [Tryz.params10] at ht; exact stand_no t (by rcases j with _ | _ | _ | _ | _ | j <;> simp at ht <;> simp [← ht])⟩)
    (by kernel_rfl)

end Go.Proofs.YtjakllpnbeagjaaGreatDoor.ratioback
