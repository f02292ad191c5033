/- RatioShapes holds: for every two rationals and every whole number the law returns true and leaves them as they were. No condition but what the row lists. -/
import Derived.Test.YtckhcijknfkghaaGreatDoorSymQ
namespace Go.Proofs.YtckhcijknfkghaaGreatDoor.ratioshapes
open Go.ChangeShapes Go.WideShapes Go.ChangeAt Go.RowKit

open Go.Proofs.YtckhcijknfkghaaGreatDoor.Sym hiding val run start
theorem stand_no (t : TypeId) (h : t ∈ ([46, 24, 3, 4, 9] : List TypeId)) : Tryz.prog.wantsStandIn t = false := by
  simp only [List.mem_cons, List.mem_nil_iff, or_false] at h
  rcases h with rfl | rfl | rfl | rfl | rfl <;> kernel_rfl
theorem qOf_mulr {z y m : Int} (hy : y ≠ 0) (hm : m ≠ 0) : qOf (z * m) (y * m) = qOf z y := by
  rw [qOf_ne (Int.mul_ne_zero hy hm), qOf_ne hy]; exact Rat.divInt_mul_right hm
theorem cmpI_den (q : Rat) : cmpI (q.den : Int) 0 = 1 := by
  have := q.den_pos
  unfold cmpI
  rw [if_neg (by omega), if_neg (by omega)]
theorem cmpI_gcd (q : Rat) : cmpI ((Int.gcd q.num (q.den : Int) : Nat) : Int) 1 = 0 := by
  have h : Int.gcd q.num (q.den : Int) = 1 := q.reduced
  rw [h]; rfl
def phi_path_m (a0 b0 : Bool) (xs0 ys0 : List Nat) (z0 u0 : Int) (a1 b1 : Bool) (xs1 ys1 : List Nat) (z1 u1 : Int) (a2 : Bool) (xs2 : List Nat) (z2 : Int) : List (World → Value → Prop) := [fun w v => RawQ w v a0 xs0 b0 ys0, fun w v => RawQ w v a1 xs1 b1 ys1, fun w v => RawI w v a2 xs2, fun w v => RawQ w v a0 (xs0.take 3) b0 (ys0.take 3), fun w v => QV w v z0 u0 3, fun w v => IntV w v z0 3, fun w v => IntV w v u0 3, fun w v => DecQ w v (qOf z0 u0) (2 * 3 + 2), fun w v => DecI w v ((qOf z0 u0).num) (2 * 3 + 2), fun w v => DecI w v ((qOf z0 u0).den : Int) (2 * 3 + 2), fun w v => RawQ w v a1 (xs1.take 3) b1 (ys1.take 3), fun w v => QV w v z1 u1 3, fun w v => IntV w v z1 3, fun w v => IntV w v u1 3, fun w v => DecQ w v (qOf z1 u1) (2 * 3 + 2), fun w v => DecI w v ((qOf z1 u1).num) (2 * 3 + 2), fun w v => DecI w v ((qOf z1 u1).den : Int) (2 * 3 + 2), fun w v => RawI w v a2 (xs2.take 2), fun w v => IntV w v z2 2, fun w v => NorV w v z2 2]
def ins_path_m : List Out := [⟨.agg [.b, .s, .b, .s], [(0, 0, 0)]⟩, ⟨.agg [.b, .s, .b, .s], [(0, 0, 1)]⟩, ⟨.agg [.b, .s], [(0, 0, 2)]⟩]
def ss_path_m : List Site := [⟨30, [.fact 0, .lit (.ci .i64 3)], [⟨.agg [.b, .s, .b, .s], [(0, 0, 3), (0, 0, 4), (0, 2, 5), (2, 2, 6)]⟩, ⟨.agg [.s, .b, .s, .b], [(0, 0, 7), (0, 2, 8), (2, 2, 9)]⟩], true⟩,
      ⟨30, [.fact 1, .lit (.ci .i64 3)], [⟨.agg [.b, .s, .b, .s], [(0, 0, 10), (0, 0, 11), (0, 2, 12), (2, 2, 13)]⟩, ⟨.agg [.s, .b, .s, .b], [(0, 0, 14), (0, 2, 15), (2, 2, 16)]⟩], true⟩,
      ⟨14, [.fact 2, .lit (.ci .i64 2)], [⟨.agg [.b, .s], [(0, 0, 17), (0, 0, 18)]⟩], false⟩,
      ⟨57, [.fact 18], [⟨.agg [.b, .s], [(0, 0, 19)]⟩], false⟩,
      ⟨21, [.fact 19], [⟨.one (.lit (.cb true)), []⟩], false⟩,
      ⟨51, [], [⟨.one (.lit (.cb true)), []⟩], false⟩]
set_option maxRecDepth 100000 in
theorem path_m {a0 b0 : Bool} {xs0 ys0 : List Nat} {z0 u0 : Int} (hz0 : sg a0 (Proofs.YtckhcijknfkghaaGreatDoor.val 4294967296 (xs0.take 3)) = z0) (hu0 : sg b0 (Proofs.YtckhcijknfkghaaGreatDoor.val 4294967296 (ys0.take 3)) = u0) {a1 b1 : Bool} {xs1 ys1 : List Nat} {z1 u1 : Int} (hz1 : sg a1 (Proofs.YtckhcijknfkghaaGreatDoor.val 4294967296 (xs1.take 3)) = z1) (hu1 : sg b1 (Proofs.YtckhcijknfkghaaGreatDoor.val 4294967296 (ys1.take 3)) = u1) {a2 : Bool} {xs2 : List Nat} {z2 : Int} (hz2 : sg a2 (Proofs.YtckhcijknfkghaaGreatDoor.val 4294967296 (xs2.take 2)) = z2) (hm : z2 = 0) : SiteOk (ph (phi_path_m a0 b0 xs0 ys0 z0 u0 a1 b1 xs1 ys1 z1 u1 a2 xs2 z2)) Tryz.prog ⟨11, [.fact 0, .fact 1, .fact 2], [⟨.one (.lit (.cb true)), []⟩], false⟩ :=
  fn_ok ins_path_m [⟨.one (.lit (.cb true)), []⟩] ss_path_m
    Tryz.func11 (by kernel_rfl)
    (all_cons (sOfQ 3 rfl (fun _ _ h => h) rfl rfl rfl rfl rfl rfl rfl (by omega) hz0 hu0)
      (all_cons (sOfQ 3 rfl (fun _ _ h => h) rfl rfl rfl rfl rfl rfl rfl (by omega) hz1 hu1)
      (all_cons (sKIntR 2 rfl (fun _ _ h => h) rfl rfl hz2)
      (all_cons (sNorm iI rfl (by omega) rfl)
      (all_cons (sIZero nN (decide_eq_true hm))
      (all_cons (sWakes4)
      all_nil))))))
    (ins_ok [.fact 0 qS, .fact 1 qS, .fact 2 iS] ⟨fun _ _ h => RawQ.is h, fun _ _ h => RawQ.is h, fun _ _ h => RawI.is h, trivial⟩) (fun _ _ _ h => h)

def phi_path_u (a0 b0 : Bool) (xs0 ys0 : List Nat) (z0 u0 : Int) (a1 b1 : Bool) (xs1 ys1 : List Nat) (z1 u1 : Int) (a2 : Bool) (xs2 : List Nat) (z2 : Int) : List (World → Value → Prop) := [fun w v => RawQ w v a0 xs0 b0 ys0, fun w v => RawQ w v a1 xs1 b1 ys1, fun w v => RawI w v a2 xs2, fun w v => RawQ w v a0 (xs0.take 3) b0 (ys0.take 3), fun w v => QV w v z0 u0 3, fun w v => IntV w v z0 3, fun w v => IntV w v u0 3, fun w v => DecQ w v (qOf z0 u0) (2 * 3 + 2), fun w v => DecI w v ((qOf z0 u0).num) (2 * 3 + 2), fun w v => DecI w v ((qOf z0 u0).den : Int) (2 * 3 + 2), fun w v => RawQ w v a1 (xs1.take 3) b1 (ys1.take 3), fun w v => QV w v z1 u1 3, fun w v => IntV w v z1 3, fun w v => IntV w v u1 3, fun w v => DecQ w v (qOf z1 u1) (2 * 3 + 2), fun w v => DecI w v ((qOf z1 u1).num) (2 * 3 + 2), fun w v => DecI w v ((qOf z1 u1).den : Int) (2 * 3 + 2), fun w v => RawI w v a2 (xs2.take 2), fun w v => IntV w v z2 2, fun w v => NorV w v z2 2, fun w v => NorV w v u0 3]
def ins_path_u : List Out := [⟨.agg [.b, .s, .b, .s], [(0, 0, 0)]⟩, ⟨.agg [.b, .s, .b, .s], [(0, 0, 1)]⟩, ⟨.agg [.b, .s], [(0, 0, 2)]⟩]
def ss_path_u : List Site := [⟨30, [.fact 0, .lit (.ci .i64 3)], [⟨.agg [.b, .s, .b, .s], [(0, 0, 3), (0, 0, 4), (0, 2, 5), (2, 2, 6)]⟩, ⟨.agg [.s, .b, .s, .b], [(0, 0, 7), (0, 2, 8), (2, 2, 9)]⟩], true⟩,
      ⟨30, [.fact 1, .lit (.ci .i64 3)], [⟨.agg [.b, .s, .b, .s], [(0, 0, 10), (0, 0, 11), (0, 2, 12), (2, 2, 13)]⟩, ⟨.agg [.s, .b, .s, .b], [(0, 0, 14), (0, 2, 15), (2, 2, 16)]⟩], true⟩,
      ⟨14, [.fact 2, .lit (.ci .i64 2)], [⟨.agg [.b, .s], [(0, 0, 17), (0, 0, 18)]⟩], false⟩,
      ⟨57, [.fact 18], [⟨.agg [.b, .s], [(0, 0, 19)]⟩], false⟩,
      ⟨21, [.fact 19], [⟨.one (.lit (.cb false)), []⟩], false⟩,
      ⟨57, [.fact 6], [⟨.agg [.b, .s], [(0, 0, 20)]⟩], false⟩,
      ⟨21, [.fact 20], [⟨.one (.lit (.cb true)), []⟩], false⟩,
      ⟨51, [], [⟨.one (.lit (.cb true)), []⟩], false⟩]
set_option maxRecDepth 100000 in
theorem path_u {a0 b0 : Bool} {xs0 ys0 : List Nat} {z0 u0 : Int} (hz0 : sg a0 (Proofs.YtckhcijknfkghaaGreatDoor.val 4294967296 (xs0.take 3)) = z0) (hu0 : sg b0 (Proofs.YtckhcijknfkghaaGreatDoor.val 4294967296 (ys0.take 3)) = u0) {a1 b1 : Bool} {xs1 ys1 : List Nat} {z1 u1 : Int} (hz1 : sg a1 (Proofs.YtckhcijknfkghaaGreatDoor.val 4294967296 (xs1.take 3)) = z1) (hu1 : sg b1 (Proofs.YtckhcijknfkghaaGreatDoor.val 4294967296 (ys1.take 3)) = u1) {a2 : Bool} {xs2 : List Nat} {z2 : Int} (hz2 : sg a2 (Proofs.YtckhcijknfkghaaGreatDoor.val 4294967296 (xs2.take 2)) = z2) (hm : z2 ≠ 0) (hu : u0 = 0) : SiteOk (ph (phi_path_u a0 b0 xs0 ys0 z0 u0 a1 b1 xs1 ys1 z1 u1 a2 xs2 z2)) Tryz.prog ⟨11, [.fact 0, .fact 1, .fact 2], [⟨.one (.lit (.cb true)), []⟩], false⟩ :=
  fn_ok ins_path_u [⟨.one (.lit (.cb true)), []⟩] ss_path_u
    Tryz.func11 (by kernel_rfl)
    (all_cons (sOfQ 3 rfl (fun _ _ h => h) rfl rfl rfl rfl rfl rfl rfl (by omega) hz0 hu0)
      (all_cons (sOfQ 3 rfl (fun _ _ h => h) rfl rfl rfl rfl rfl rfl rfl (by omega) hz1 hu1)
      (all_cons (sKIntR 2 rfl (fun _ _ h => h) rfl rfl hz2)
      (all_cons (sNorm iI rfl (by omega) rfl)
      (all_cons (sIZero nN (decide_eq_false hm))
      (all_cons (sNorm iI rfl (by omega) rfl)
      (all_cons (sIZero nN (decide_eq_true hu))
      (all_cons (sWakes4)
      all_nil))))))))
    (ins_ok [.fact 0 qS, .fact 1 qS, .fact 2 iS] ⟨fun _ _ h => RawQ.is h, fun _ _ h => RawQ.is h, fun _ _ h => RawI.is h, trivial⟩) (fun _ _ _ h => h)

def phi_path_n (a0 b0 : Bool) (xs0 ys0 : List Nat) (z0 u0 : Int) (a1 b1 : Bool) (xs1 ys1 : List Nat) (z1 u1 : Int) (a2 : Bool) (xs2 : List Nat) (z2 : Int) : List (World → Value → Prop) := [fun w v => RawQ w v a0 xs0 b0 ys0, fun w v => RawQ w v a1 xs1 b1 ys1, fun w v => RawI w v a2 xs2, fun w v => RawQ w v a0 (xs0.take 3) b0 (ys0.take 3), fun w v => QV w v z0 u0 3, fun w v => IntV w v z0 3, fun w v => IntV w v u0 3, fun w v => DecQ w v (qOf z0 u0) (2 * 3 + 2), fun w v => DecI w v ((qOf z0 u0).num) (2 * 3 + 2), fun w v => DecI w v ((qOf z0 u0).den : Int) (2 * 3 + 2), fun w v => RawQ w v a1 (xs1.take 3) b1 (ys1.take 3), fun w v => QV w v z1 u1 3, fun w v => IntV w v z1 3, fun w v => IntV w v u1 3, fun w v => DecQ w v (qOf z1 u1) (2 * 3 + 2), fun w v => DecI w v ((qOf z1 u1).num) (2 * 3 + 2), fun w v => DecI w v ((qOf z1 u1).den : Int) (2 * 3 + 2), fun w v => RawI w v a2 (xs2.take 2), fun w v => IntV w v z2 2, fun w v => NorV w v z2 2, fun w v => NorV w v u0 3, fun w v => NorV w v (z0 * z2) (3 + 2), fun w v => NorV w v (u0 * z2) (3 + 2), fun w v => QV w v (z0 * z2) (u0 * z2) ((3 + 2) + (3 + 2)), fun w v => NorQ w v ((qOf z0 u0) + (qOf z1 u1)) (2 * (3 + 3) + 9), fun w v => NorV w v (((qOf z0 u0) + (qOf z1 u1)).num) (2 * (3 + 3) + 9), fun w v => NorV w v (((qOf z0 u0) + (qOf z1 u1)).den : Int) (2 * (3 + 3) + 9), fun w v => QV w v (z0 * z2) (u0 * z2) ((3 + 2) + (3 + 2)), fun w v => NorQ w v ((qOf (z0 * z2) (u0 * z2)) + (qOf z1 u1)) (2 * (((3 + 2) + (3 + 2)) + 3) + 9), fun w v => NorV w v (((qOf (z0 * z2) (u0 * z2)) + (qOf z1 u1)).num) (2 * (((3 + 2) + (3 + 2)) + 3) + 9), fun w v => NorV w v (((qOf (z0 * z2) (u0 * z2)) + (qOf z1 u1)).den : Int) (2 * (((3 + 2) + (3 + 2)) + 3) + 9), fun w v => NorQ w v ((qOf z1 u1) * (qOf z0 u0)) (3 + 3 + 4), fun w v => NorV w v (((qOf z1 u1) * (qOf z0 u0)).num) (3 + 3 + 4), fun w v => NorV w v (((qOf z1 u1) * (qOf z0 u0)).den : Int) (3 + 3 + 4), fun w v => QV w v (z0 * z2) (u0 * z2) ((3 + 2) + (3 + 2)), fun w v => NorQ w v ((qOf z1 u1) * (qOf (z0 * z2) (u0 * z2))) (3 + ((3 + 2) + (3 + 2)) + 4), fun w v => NorV w v (((qOf z1 u1) * (qOf (z0 * z2) (u0 * z2))).num) (3 + ((3 + 2) + (3 + 2)) + 4), fun w v => NorV w v (((qOf z1 u1) * (qOf (z0 * z2) (u0 * z2))).den : Int) (3 + ((3 + 2) + (3 + 2)) + 4), fun w v => NorV w v (Rat.floor (qOf z0 u0)) (3 + 4), fun w v => QV w v (z0 * z2) (u0 * z2) ((3 + 2) + (3 + 2)), fun w v => NorV w v (Rat.floor (qOf (z0 * z2) (u0 * z2))) (((3 + 2) + (3 + 2)) + 4), fun w v => NorQ w v (Rat.divInt z0 u0) (3 + 3), fun w v => NorV w v ((Rat.divInt z0 u0).num) (3 + 3), fun w v => NorV w v ((Rat.divInt z0 u0).den : Int) (3 + 3), fun w v => NorQ w v (Rat.divInt (z0 * z2) (u0 * z2)) ((3 + 2) + (3 + 2)), fun w v => NorV w v ((Rat.divInt (z0 * z2) (u0 * z2)).num) ((3 + 2) + (3 + 2)), fun w v => NorV w v ((Rat.divInt (z0 * z2) (u0 * z2)).den : Int) ((3 + 2) + (3 + 2)), fun w v => NorV w v (Int.gcd ((Rat.divInt z0 u0).num) ((Rat.divInt z0 u0).den : Int) : Int) (3 + 3), fun w v => NorV w v (1 : Int) 2]
def ins_path_n : List Out := [⟨.agg [.b, .s, .b, .s], [(0, 0, 0)]⟩, ⟨.agg [.b, .s, .b, .s], [(0, 0, 1)]⟩, ⟨.agg [.b, .s], [(0, 0, 2)]⟩]
def ss_path_n : List Site := [⟨30, [.fact 0, .lit (.ci .i64 3)], [⟨.agg [.b, .s, .b, .s], [(0, 0, 3), (0, 0, 4), (0, 2, 5), (2, 2, 6)]⟩, ⟨.agg [.s, .b, .s, .b], [(0, 0, 7), (0, 2, 8), (2, 2, 9)]⟩], true⟩,
      ⟨30, [.fact 1, .lit (.ci .i64 3)], [⟨.agg [.b, .s, .b, .s], [(0, 0, 10), (0, 0, 11), (0, 2, 12), (2, 2, 13)]⟩, ⟨.agg [.s, .b, .s, .b], [(0, 0, 14), (0, 2, 15), (2, 2, 16)]⟩], true⟩,
      ⟨14, [.fact 2, .lit (.ci .i64 2)], [⟨.agg [.b, .s], [(0, 0, 17), (0, 0, 18)]⟩], false⟩,
      ⟨57, [.fact 18], [⟨.agg [.b, .s], [(0, 0, 19)]⟩], false⟩,
      ⟨21, [.fact 19], [⟨.one (.lit (.cb false)), []⟩], false⟩,
      ⟨57, [.fact 6], [⟨.agg [.b, .s], [(0, 0, 20)]⟩], false⟩,
      ⟨21, [.fact 20], [⟨.one (.lit (.cb false)), []⟩], false⟩,
      ⟨58, [.fact 5, .fact 18], [⟨.agg [.b, .s], [(0, 0, 21)]⟩], false⟩,
      ⟨58, [.fact 6, .fact 18], [⟨.agg [.b, .s], [(0, 0, 22)]⟩], false⟩,
      ⟨43, [.fact 4, .parts qS [(0, 2, 21), (2, 2, 22)]], [⟨.one (.lit (.ci .i64 0)), []⟩], false⟩,
      ⟨34, [.fact 4, .fact 11], [⟨.agg [.b, .s, .b, .s], [(0, 0, 24), (0, 2, 25), (2, 2, 26)]⟩], false⟩,
      ⟨34, [.parts qS [(0, 2, 21), (2, 2, 22)], .fact 11], [⟨.agg [.b, .s, .b, .s], [(0, 0, 28), (0, 2, 29), (2, 2, 30)]⟩], false⟩,
      ⟨50, [.fact 24, .fact 28], [⟨.one (.lit (.cb true)), []⟩], false⟩,
      ⟨38, [.fact 11, .fact 4], [⟨.agg [.b, .s, .b, .s], [(0, 0, 31), (0, 2, 32), (2, 2, 33)]⟩], false⟩,
      ⟨38, [.fact 11, .parts qS [(0, 2, 21), (2, 2, 22)]], [⟨.agg [.b, .s, .b, .s], [(0, 0, 35), (0, 2, 36), (2, 2, 37)]⟩], false⟩,
      ⟨50, [.fact 31, .fact 35], [⟨.one (.lit (.cb true)), []⟩], false⟩,
      ⟨49, [.fact 4], [⟨.agg [.b, .s], [(0, 0, 38)]⟩], false⟩,
      ⟨49, [.parts qS [(0, 2, 21), (2, 2, 22)]], [⟨.agg [.b, .s], [(0, 0, 40)]⟩], false⟩,
      ⟨24, [.fact 38, .fact 40], [⟨.one (.lit (.cb true)), []⟩], false⟩,
      ⟨59, [.fact 5, .fact 6], [⟨.agg [.b, .s, .b, .s], [(0, 0, 41), (0, 2, 42), (2, 2, 43)]⟩, ⟨.one (.lit (.ci .i64 0)), []⟩], true⟩,
      ⟨59, [.fact 21, .fact 22], [⟨.agg [.b, .s, .b, .s], [(0, 0, 44), (0, 2, 45), (2, 2, 46)]⟩, ⟨.one (.lit (.ci .i64 0)), []⟩], true⟩,
      ⟨50, [.fact 41, .fact 44], [⟨.one (.lit (.cb true)), []⟩], false⟩,
      ⟨60, [.fact 43], [⟨.one (.lit (.ci .i64 1)), []⟩], false⟩,
      ⟨62, [.row 2 [42, 43]], [⟨.agg [.b, .s], [(0, 0, 47)]⟩], false⟩,
      ⟨63, [.lit (.ci .i64 1)], [⟨.agg [.b, .s], [(0, 0, 48)]⟩], false⟩,
      ⟨61, [.fact 47, .fact 48], [⟨.one (.lit (.ci .i64 0)), []⟩], false⟩,
      ⟨51, [], [⟨.one (.lit (.cb true)), []⟩], false⟩]
set_option maxRecDepth 100000 in
theorem path_n {a0 b0 : Bool} {xs0 ys0 : List Nat} {z0 u0 : Int} (hz0 : sg a0 (Proofs.YtckhcijknfkghaaGreatDoor.val 4294967296 (xs0.take 3)) = z0) (hu0 : sg b0 (Proofs.YtckhcijknfkghaaGreatDoor.val 4294967296 (ys0.take 3)) = u0) {a1 b1 : Bool} {xs1 ys1 : List Nat} {z1 u1 : Int} (hz1 : sg a1 (Proofs.YtckhcijknfkghaaGreatDoor.val 4294967296 (xs1.take 3)) = z1) (hu1 : sg b1 (Proofs.YtckhcijknfkghaaGreatDoor.val 4294967296 (ys1.take 3)) = u1) {a2 : Bool} {xs2 : List Nat} {z2 : Int} (hz2 : sg a2 (Proofs.YtckhcijknfkghaaGreatDoor.val 4294967296 (xs2.take 2)) = z2) (hm : z2 ≠ 0) (hu : u0 ≠ 0) : SiteOk (ph (phi_path_n a0 b0 xs0 ys0 z0 u0 a1 b1 xs1 ys1 z1 u1 a2 xs2 z2)) Tryz.prog ⟨11, [.fact 0, .fact 1, .fact 2], [⟨.one (.lit (.cb true)), []⟩], false⟩ :=
  fn_ok ins_path_n [⟨.one (.lit (.cb true)), []⟩] ss_path_n
    Tryz.func11 (by kernel_rfl)
    (all_cons (sOfQ 3 rfl (fun _ _ h => h) rfl rfl rfl rfl rfl rfl rfl (by omega) hz0 hu0)
      (all_cons (sOfQ 3 rfl (fun _ _ h => h) rfl rfl rfl rfl rfl rfl rfl (by omega) hz1 hu1)
      (all_cons (sKIntR 2 rfl (fun _ _ h => h) rfl rfl hz2)
      (all_cons (sNorm iI rfl (by omega) rfl)
      (all_cons (sIZero nN (decide_eq_false hm))
      (all_cons (sNorm iI rfl (by omega) rfl)
      (all_cons (sIZero nN (decide_eq_false hu))
      (all_cons (sMul iI iI rfl (by omega) rfl)
      (all_cons (sMul iI iI rfl (by omega) rfl)
      (all_cons (joinR (p := 23) rfl nI nI (by omega) (by omega) (sRCmp vQ vQ (by omega) (cmpQ_eq (by rw [qOf_mulr hu hm]))))
      (all_cons (sRAdd vQ vQ rfl rfl rfl (by omega) rfl)
      (all_cons (joinL (p := 27) rfl nI nI (by omega) (by omega) (sRAdd vQ vQ rfl rfl rfl (by omega) rfl))
      (all_cons (sSameRat pP pP (by rw [qOf_mulr hu hm]) rfl)
      (all_cons (sRMul vQ vQ rfl rfl rfl (by omega) rfl)
      (all_cons (joinR (p := 34) rfl nI nI (by omega) (by omega) (sRMul vQ vQ rfl rfl rfl (by omega) rfl))
      (all_cons (sSameRat pP pP (by rw [qOf_mulr hu hm]) rfl)
      (all_cons (sRFloor vQ rfl (by omega) rfl)
      (all_cons (join1 (p := 39) rfl nI nI (by omega) (by omega) (sRFloor vQ rfl (by omega) rfl))
      (all_cons (sSameInt nN nN (by rw [qOf_mulr hu hm]) rfl)
      (all_cons (sRMake iI iI rfl rfl rfl (by omega) hu rfl)
      (all_cons (sRMake nI nI rfl rfl rfl (by omega) (Int.mul_ne_zero hu hm) rfl)
      (all_cons (sSameRat pP pP (Rat.divInt_mul_right hm).symm rfl)
      (all_cons (sISign nN (cmpI_den _))
      (all_cons (sGcd (3 + 3) nI nI rfl (by omega) (by omega) (by omega) rfl)
      (all_cons (sOf (z := 1) rfl (by decide) (by decide) rfl)
      (all_cons (sCmp nI nI (by omega) (cmpI_gcd _))
      (all_cons (sWakes4)
      all_nil)))))))))))))))))))))))))))
    (ins_ok [.fact 0 qS, .fact 1 qS, .fact 2 iS] ⟨fun _ _ h => RawQ.is h, fun _ _ h => RawQ.is h, fun _ _ h => RawI.is h, trivial⟩) (fun _ _ _ h => h)

theorem walk {a0 b0 : Bool} {s0 t0 : Value} {xs0 ys0 : List Nat} {a1 b1 : Bool} {s1 t1 : Value} {xs1 ys1 : List Nat} {a2 : Bool} {s2 : Value} {xs2 : List Nat} {w : World} (hx0 : Sl w .u32 s0 xs0) (ax0 : All 4294967296 xs0) (hy0 : Sl w .u32 t0 ys0) (ay0 : All 4294967296 ys0) (hx1 : Sl w .u32 s1 xs1) (ax1 : All 4294967296 xs1) (hy1 : Sl w .u32 t1 ys1) (ay1 : All 4294967296 ys1) (hx2 : Sl w .u32 s2 xs2) (ax2 : All 4294967296 xs2) :
    Calls Tryz.prog 11 #[.agg #[.bool a0, s0, .bool b0, t0], .agg #[.bool a1, s1, .bool b1, t1], .agg #[.bool a2, s2]] w (Bool_ w true) := by
  obtain ⟨z0, hz0⟩ : ∃ z, sg a0 (Proofs.YtckhcijknfkghaaGreatDoor.val 4294967296 (xs0.take 3)) = z := ⟨_, rfl⟩
  obtain ⟨u0, hu0⟩ : ∃ u, sg b0 (Proofs.YtckhcijknfkghaaGreatDoor.val 4294967296 (ys0.take 3)) = u := ⟨_, rfl⟩
  obtain ⟨z1, hz1⟩ : ∃ z, sg a1 (Proofs.YtckhcijknfkghaaGreatDoor.val 4294967296 (xs1.take 3)) = z := ⟨_, rfl⟩
  obtain ⟨u1, hu1⟩ : ∃ u, sg b1 (Proofs.YtckhcijknfkghaaGreatDoor.val 4294967296 (ys1.take 3)) = u := ⟨_, rfl⟩
  obtain ⟨z2, hz2⟩ : ∃ z, sg a2 (Proofs.YtckhcijknfkghaaGreatDoor.val 4294967296 (xs2.take 2)) = z := ⟨_, rfl⟩
  by_cases hm : z2 = 0
  · exact law_true (path_m hz0 hu0 hz1 hu1 hz2 hm) (vs := [.agg #[.bool a0, s0, .bool b0, t0], .agg #[.bool a1, s1, .bool b1, t1], .agg #[.bool a2, s2]]) ⟨arg_kp rfl (fun _ _ _ g h => RawQ.kp h g) ⟨_, _, rfl, hx0, ax0, hy0, ay0⟩, arg_kp rfl (fun _ _ _ g h => RawQ.kp h g) ⟨_, _, rfl, hx1, ax1, hy1, ay1⟩, arg_kp rfl (fun _ _ _ g h => RawI.kp h g) ⟨_, rfl, hx2, ax2⟩, trivial⟩
  · by_cases hu : u0 = 0
    · exact law_true (path_u hz0 hu0 hz1 hu1 hz2 hm hu) (vs := [.agg #[.bool a0, s0, .bool b0, t0], .agg #[.bool a1, s1, .bool b1, t1], .agg #[.bool a2, s2]]) ⟨arg_kp rfl (fun _ _ _ g h => RawQ.kp h g) ⟨_, _, rfl, hx0, ax0, hy0, ay0⟩, arg_kp rfl (fun _ _ _ g h => RawQ.kp h g) ⟨_, _, rfl, hx1, ax1, hy1, ay1⟩, arg_kp rfl (fun _ _ _ g h => RawI.kp h g) ⟨_, rfl, hx2, ax2⟩, trivial⟩
    · exact law_true (path_n hz0 hu0 hz1 hu1 hz2 hm hu) (vs := [.agg #[.bool a0, s0, .bool b0, t0], .agg #[.bool a1, s1, .bool b1, t1], .agg #[.bool a2, s2]]) ⟨arg_kp rfl (fun _ _ _ g h => RawQ.kp h g) ⟨_, _, rfl, hx0, ax0, hy0, ay0⟩, arg_kp rfl (fun _ _ _ g h => RawQ.kp h g) ⟨_, _, rfl, hx1, ax1, hy1, ay1⟩, arg_kp rfl (fun _ _ _ g h => RawI.kp h g) ⟨_, rfl, hx2, ax2⟩, trivial⟩

set_option maxRecDepth 100000 in
theorem lifted (os : Os) (started : os.Started) (H : Type) (enc : TypeId × Value → H) :
    ReturnsInHanded {} Tryz.checked os 11 .any (fun w args => (Rows.ratioShapesSpec.pre enc Tryz.prog Tryz.f11 [] false w args ∧ laidMetH Tryz.prog Rows.ratioShapesRow.laid w) ∧ sizedMet enc Tryz.prog Tryz.f11 (OpenSpec.ofChange Rows.ratioShapesSpec) false w args) (Rows.ratioShapesSpec.post enc Tryz.prog Tryz.f11 false true false false) := by
  refine returnsInHanded_of_change_and (C := Tryz.checked) (X := fun w _ => laidMetH Tryz.prog Rows.ratioShapesRow.laid w) (fun _ _ _ hh h => h.of_heap hh) Tryz.own started (by kernel_rfl) Tryz.func11
    (ChangeSpec.witness_at (enc := enc) (C := Tryz.checked) (os := os) (X := fun w _ => laidMetH Tryz.prog Rows.ratioShapesRow.laid w) false (World.laidAll Tryz.prog os Rows.ratioShapesRow.laid) #[.agg #[.bool false, .slice none 0 0, .bool false, .slice none 0 0], .agg #[.bool false, .slice none 0 0, .bool false, .slice none 0 0], .agg #[.bool false, .slice none 0 0]] 8 (World.laidAll_os _ _ _) (by kernel_rfl) (by kernel_rfl) (by kernel_rfl) (by kernel_rfl) (by kernel_rfl)
      (by rw [MakeChecks.laidMetH_plain _ _ _ (by kernel_rfl)]; exact laidMet_laidAll _ (by kernel_rfl) (by kernel_rfl))) ?_
  intro W base args ds gs before hval0 hW _ _ _ _
  have hval : ∀ (j : Nat) t v, Tryz.f11.params[j]? = some t → args[j]? = some v → Value.okWide Tryz.prog W .any base t v := hval0
  obtain ⟨p, q, hA0, hV, rfl, _, _⟩ := id hW
  have hA : DataW.TrodAll enc Tryz.prog W 0 (fun _ => true) true Tryz.f11.params.toList args.toList ds p := hA0
  rw [Tryz.params11] at hA hval
  obtain ⟨v0, vs0, d0, ds0, p0, q0, hargs, rfl, rfl, h0, r0⟩ := trodAll_cons hA
  obtain ⟨v1, vs1, d1, ds1, p1, q1, rfl, rfl, rfl, h1, r1⟩ := trodAll_cons r0
  obtain ⟨v2, vs2, d2, ds2, p2, q2, rfl, rfl, rfl, h2, r2⟩ := trodAll_cons r1
  obtain ⟨rfl, rfl, rfl⟩ := trodAll_nil r2
  obtain rfl : args = #[v0, v1, v2] := by cases args; simp_all
  obtain ⟨b0, w0, b0', w0', xs0, ys0, rfl, s0, a0, s0', a0'⟩ := rat_of_trod h0 (hval 0 46 v0 rfl rfl)
  obtain ⟨b1, w1, b1', w1', xs1, ys1, rfl, s1, a1, s1', a1'⟩ := rat_of_trod h1 (hval 1 46 v1 rfl rfl)
  obtain ⟨b2, w2, xs2, rfl, s2, a2⟩ := int_of_trod h2 (hval 2 24 v2 rfl rfl)
  refine (walk s0 a0 s0' a0' s1 a1 s1' a1' s2 a2).mono fun e W' ⟨he, hg⟩ => ?_
  subst he
  refine ⟨_, rfl, law_post Tryz.laidOut rfl (by kernel_rfl) Tryz.underlying4 ?_ ?_ hW hg⟩
  · rw [Tryz.params11]; decide +kernel
  · rw [Tryz.params11]
    intro ds h
    match ds, h with
    | [_, _, _], _ => rfl

theorem row_holds : Rows.RatioShapesSaid :=
  OpenClaim.holds_of_wide 11 Tryz.f11 rfl rfl rfl rfl rfl rfl rfl ⟨rfl, rfl, rfl, rfl, rfl⟩ rfl rfl rfl rfl rfl (by kernel_rfl) Tryz.func11 (by kernel_rfl)
    (of_decide_eq_true (by kernel_rfl)) (by unfold Func.isWrapper; first | (rw [if_pos (by decide +kernel)]; kernel_rfl) | (rw [if_neg (by decide +kernel)]; exact ⟨rfl, rfl⟩))
    (fun os started H enc _ => lifted os started H enc)
theorem holds : Rows.RatioShapesCardSaid :=
  Claim7.holds_tied_plain_at .later [] Rows.ratioShapesCard.laidKinds true Rows.ratioShapesCard.stood.harness true
    row_holds (fun _ h => by cases h) (by kernel_rfl) (fun _ h => by cases h) ratioShapes_row_tie rfl ⟨rfl, rfl⟩ (by kernel_rfl) rfl
    (fun f fn hf hfn => by
      obtain rfl : f = 11 := Option.some.inj ((show Tryz.prog.funcNamed "orrery/orrerylaw04.RatioShapes" = some 11 by kernel_rfl).symm.trans hf) |>.symm
      obtain rfl : fn = Tryz.f11 := (Option.some.inj (Tryz.func11.symm.trans hfn)).symm
      exact ⟨by kernel_rfl, fun j t ht => by rw [Tryz.params11] at ht; exact stand_no t (by rcases j with _ | _ | _ | _ | _ | j <;> simp at ht <;> simp [← ht])⟩)
    (by kernel_rfl)

end Go.Proofs.YtckhcijknfkghaaGreatDoor.ratioshapes
