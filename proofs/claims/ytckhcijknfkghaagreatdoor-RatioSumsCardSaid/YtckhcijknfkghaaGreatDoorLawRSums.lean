/- RatioSums holds: for every two rationals the law returns true and leaves them as they were. No condition but what the row lists. -/
import Derived.Test.YtckhcijknfkghaaGreatDoorSymQ
import Derived.Test.YtckhcijknfkghaaGreatDoorRefP
namespace Go.Proofs.YtckhcijknfkghaaGreatDoor.ratiosums
open Go.ChangeShapes Go.WideShapes Go.ChangeAt Go.RowKit

open Go.Proofs.YtckhcijknfkghaaGreatDoor.Sym hiding val run start
theorem stand_no (t : TypeId) (h : t ∈ ([46, 24, 3, 4, 9] : List TypeId)) : Tryz.prog.wantsStandIn t = false := by
  simp only [List.mem_cons, List.mem_nil_iff, or_false] at h
  rcases h with rfl | rfl | rfl | rfl | rfl <;> kernel_rfl
theorem tDivMod {Φ : Nat → World → Value → Prop} {p q x x' i j : Nat} {z y : Int} (hp : ∀ w v, Φ p w v → DecI w v z i) (hq : ∀ w v, Φ q w v → DecI w v y j) (hx : Φ x = fun w v => DecI w v (z / y) (i + 3)) (hx' : Φ x' = fun w v => DecI w v (z % y) (i + j + 1)) (hk : i + j ≤ 900000) (h0' : y ≠ 0) : SiteOk Φ Tryz.prog ⟨48, [.fact p, .fact q], [⟨dS, [(0, 0, x)]⟩, ⟨dS, [(0, 0, x')]⟩], true⟩ :=
  site2 fun _ _ _ _ h0 h1 => (DivMod_r (hp _ _ (get h0)) (hq _ _ (get h1)) hk h0').mono fun _ _ h => by
    obtain ⟨v, u, rfl, h1, h2, h3⟩ := h
    obtain ⟨p, c, rfl, -⟩ := id h1
    obtain ⟨p', c', rfl, -⟩ := id h2
    exact ⟨h3, [_, _], rfl, outD hx rfl h1, outD hx' rfl h2, trivial⟩
def phi_path_lz (a0 b0 : Bool) (xs0 ys0 : List Nat) (z0 u0 : Int) (a1 b1 : Bool) (xs1 ys1 : List Nat) (z1 u1 : Int) : List (World → Value → Prop) := [fun w v => RawQ w v a0 xs0 b0 ys0, fun w v => RawQ w v a1 xs1 b1 ys1, fun w v => RawQ w v a0 (xs0.take 5) b0 (ys0.take 5), fun w v => QV w v z0 u0 5, fun w v => IntV w v z0 5, fun w v => IntV w v u0 5, fun w v => DecQ w v (qOf z0 u0) (2 * 5 + 2), fun w v => DecI w v ((qOf z0 u0).num) (2 * 5 + 2), fun w v => DecI w v ((qOf z0 u0).den : Int) (2 * 5 + 2), fun w v => RawQ w v a1 (xs1.take 5) b1 (ys1.take 5), fun w v => QV w v z1 u1 5, fun w v => IntV w v z1 5, fun w v => IntV w v u1 5, fun w v => DecQ w v (qOf z1 u1) (2 * 5 + 2), fun w v => DecI w v ((qOf z1 u1).num) (2 * 5 + 2), fun w v => DecI w v ((qOf z1 u1).den : Int) (2 * 5 + 2), fun w v => RawQ w v a0 (xs0.take 5) b0 (ys0.take 5), fun w v => QV w v z0 u0 5, fun w v => IntV w v z0 5, fun w v => IntV w v u0 5, fun w v => RawQ w v a1 (xs1.take 5) b1 (ys1.take 5), fun w v => QV w v z1 u1 5, fun w v => IntV w v z1 5, fun w v => IntV w v u1 5, fun w v => DecQ w v ((qOf z0 u0) + (qOf z1 u1)) (3 * ((2 * 5 + 2) + (2 * 5 + 2)) + 3), fun w v => DecI w v (((qOf z0 u0) + (qOf z1 u1)).num) (3 * ((2 * 5 + 2) + (2 * 5 + 2)) + 3), fun w v => DecI w v (((qOf z0 u0) + (qOf z1 u1)).den : Int) (3 * ((2 * 5 + 2) + (2 * 5 + 2)) + 3), fun w v => NorQ w v ((qOf z0 u0) + (qOf z1 u1)) (2 * (5 + 5) + 9), fun w v => NorV w v (((qOf z0 u0) + (qOf z1 u1)).num) (2 * (5 + 5) + 9), fun w v => NorV w v (((qOf z0 u0) + (qOf z1 u1)).den : Int) (2 * (5 + 5) + 9), fun w v => DecQ w v ((qOf z0 u0) - (qOf z1 u1)) (3 * ((2 * 5 + 2) + (2 * 5 + 2)) + 3), fun w v => DecI w v (((qOf z0 u0) - (qOf z1 u1)).num) (3 * ((2 * 5 + 2) + (2 * 5 + 2)) + 3), fun w v => DecI w v (((qOf z0 u0) - (qOf z1 u1)).den : Int) (3 * ((2 * 5 + 2) + (2 * 5 + 2)) + 3), fun w v => NorQ w v ((qOf z0 u0) - (qOf z1 u1)) (2 * (5 + 5) + 9), fun w v => NorV w v (((qOf z0 u0) - (qOf z1 u1)).num) (2 * (5 + 5) + 9), fun w v => NorV w v (((qOf z0 u0) - (qOf z1 u1)).den : Int) (2 * (5 + 5) + 9), fun w v => DecQ w v ((qOf z0 u0) * (qOf z1 u1)) (2 * ((2 * 5 + 2) + (2 * 5 + 2)) + 2), fun w v => DecI w v (((qOf z0 u0) * (qOf z1 u1)).num) (2 * ((2 * 5 + 2) + (2 * 5 + 2)) + 2), fun w v => DecI w v (((qOf z0 u0) * (qOf z1 u1)).den : Int) (2 * ((2 * 5 + 2) + (2 * 5 + 2)) + 2), fun w v => NorQ w v ((qOf z0 u0) * (qOf z1 u1)) (5 + 5 + 4), fun w v => NorV w v (((qOf z0 u0) * (qOf z1 u1)).num) (5 + 5 + 4), fun w v => NorV w v (((qOf z0 u0) * (qOf z1 u1)).den : Int) (5 + 5 + 4), fun w v => DecQ w v (-(qOf z0 u0)) (2 * 5 + 2), fun w v => DecI w v ((-(qOf z0 u0)).num) (2 * 5 + 2), fun w v => DecI w v ((-(qOf z0 u0)).den : Int) (2 * 5 + 2), fun w v => NorQ w v (-(qOf z0 u0)) (5 + 2), fun w v => NorV w v ((-(qOf z0 u0)).num) (5 + 2), fun w v => NorV w v ((-(qOf z0 u0)).den : Int) (5 + 2), fun w v => DecQ w v (((qOf z0 u0) + (qOf z1 u1)) / 2) (6 * ((2 * 5 + 2) + (2 * 5 + 2)) + 20), fun w v => DecI w v ((((qOf z0 u0) + (qOf z1 u1)) / 2).num) (6 * ((2 * 5 + 2) + (2 * 5 + 2)) + 20), fun w v => DecI w v ((((qOf z0 u0) + (qOf z1 u1)) / 2).den : Int) (6 * ((2 * 5 + 2) + (2 * 5 + 2)) + 20), fun w v => NorQ w v (((qOf z0 u0) + (qOf z1 u1)) / 2) (6 * (5 + 5) + 28), fun w v => NorV w v ((((qOf z0 u0) + (qOf z1 u1)) / 2).num) (6 * (5 + 5) + 28), fun w v => NorV w v ((((qOf z0 u0) + (qOf z1 u1)) / 2).den : Int) (6 * (5 + 5) + 28), fun w v => DecI w v (((qOf z0 u0).num) / ((qOf z0 u0).den : Int)) ((2 * 5 + 2) + 3), fun w v => DecI w v (((qOf z0 u0).num) % ((qOf z0 u0).den : Int)) ((2 * 5 + 2) + (2 * 5 + 2) + 1), fun w v => NorV w v (Rat.floor (qOf z0 u0)) (5 + 4)]
def ins_path_lz : List Out := [⟨.agg [.b, .s, .b, .s], [(0, 0, 0)]⟩, ⟨.agg [.b, .s, .b, .s], [(0, 0, 1)]⟩]
def ss_path_lz : List Site := [⟨30, [.fact 0, .lit (.ci .i64 5)], [⟨.agg [.b, .s, .b, .s], [(0, 0, 2), (0, 0, 3), (0, 2, 4), (2, 2, 5)]⟩, ⟨.agg [.s, .b, .s, .b], [(0, 0, 6), (0, 2, 7), (2, 2, 8)]⟩], true⟩,
      ⟨30, [.fact 1, .lit (.ci .i64 5)], [⟨.agg [.b, .s, .b, .s], [(0, 0, 9), (0, 0, 10), (0, 2, 11), (2, 2, 12)]⟩, ⟨.agg [.s, .b, .s, .b], [(0, 0, 13), (0, 2, 14), (2, 2, 15)]⟩], true⟩,
      ⟨31, [.fact 2], [⟨.agg [.b, .s, .b, .s], [(0, 0, 16), (0, 0, 17), (0, 2, 18), (2, 2, 19)]⟩], false⟩,
      ⟨31, [.fact 9], [⟨.agg [.b, .s, .b, .s], [(0, 0, 20), (0, 0, 21), (0, 2, 22), (2, 2, 23)]⟩], false⟩,
      ⟨33, [.fact 6, .fact 13], [⟨.agg [.s, .b, .s, .b], [(0, 0, 24), (0, 2, 25), (2, 2, 26)]⟩], false⟩,
      ⟨34, [.fact 17, .fact 21], [⟨.agg [.b, .s, .b, .s], [(0, 0, 27), (0, 2, 28), (2, 2, 29)]⟩], false⟩,
      ⟨32, [.fact 24, .fact 27], [⟨.one (.lit (.cb true)), []⟩], false⟩,
      ⟨35, [.fact 6, .fact 13], [⟨.agg [.s, .b, .s, .b], [(0, 0, 30), (0, 2, 31), (2, 2, 32)]⟩], false⟩,
      ⟨36, [.fact 17, .fact 21], [⟨.agg [.b, .s, .b, .s], [(0, 0, 33), (0, 2, 34), (2, 2, 35)]⟩], false⟩,
      ⟨32, [.fact 30, .fact 33], [⟨.one (.lit (.cb true)), []⟩], false⟩,
      ⟨37, [.fact 6, .fact 13], [⟨.agg [.s, .b, .s, .b], [(0, 0, 36), (0, 2, 37), (2, 2, 38)]⟩], false⟩,
      ⟨38, [.fact 17, .fact 21], [⟨.agg [.b, .s, .b, .s], [(0, 0, 39), (0, 2, 40), (2, 2, 41)]⟩], false⟩,
      ⟨32, [.fact 36, .fact 39], [⟨.one (.lit (.cb true)), []⟩], false⟩,
      ⟨39, [.fact 6], [⟨.agg [.s, .b, .s, .b], [(0, 0, 42), (0, 2, 43), (2, 2, 44)]⟩], false⟩,
      ⟨40, [.fact 17], [⟨.agg [.b, .s, .b, .s], [(0, 0, 45), (0, 2, 46), (2, 2, 47)]⟩], false⟩,
      ⟨32, [.fact 42, .fact 45], [⟨.one (.lit (.cb true)), []⟩], false⟩,
      ⟨41, [.fact 6, .fact 13], [⟨.agg [.s, .b, .s, .b], [(0, 0, 48), (0, 2, 49), (2, 2, 50)]⟩], false⟩,
      ⟨42, [.fact 17, .fact 21], [⟨.agg [.b, .s, .b, .s], [(0, 0, 51), (0, 2, 52), (2, 2, 53)]⟩], false⟩,
      ⟨32, [.fact 48, .fact 51], [⟨.one (.lit (.cb true)), []⟩], false⟩,
      ⟨43, [.fact 17, .fact 21], [⟨.one (.lit (.ci .i64 (-1))), []⟩], false⟩,
      ⟨44, [.fact 6, .fact 13], [⟨.one (.lit (.ci .i64 (-1))), []⟩], false⟩,
      ⟨45, [.fact 17, .fact 21], [⟨.agg [.lit (.cb false), .lit (.nl), .lit (.cb false), .lit (.nl)], []⟩, ⟨.one (.lit (.ci .i64 2)), []⟩], true⟩,
      ⟨46, [.fact 14], [⟨.one (.lit (.cb true)), []⟩], false⟩,
      ⟨21, [.parts (.agg [.lit (.cb false), .lit .nl]) []], [⟨.one (.lit (.cb true)), []⟩], false⟩,
      ⟨48, [.fact 7, .fact 8], [⟨.agg [.s, .b], [(0, 0, 54)]⟩, ⟨.agg [.s, .b], [(0, 0, 55)]⟩], true⟩,
      ⟨49, [.fact 17], [⟨.agg [.b, .s], [(0, 0, 56)]⟩], false⟩,
      ⟨22, [.fact 54, .fact 56], [⟨.one (.lit (.cb true)), []⟩], false⟩,
      ⟨50, [.fact 16, .fact 2], [⟨.one (.lit (.cb true)), []⟩], false⟩,
      ⟨50, [.fact 20, .fact 9], [⟨.one (.lit (.cb true)), []⟩], false⟩,
      ⟨51, [], [⟨.one (.lit (.cb true)), []⟩], false⟩]
set_option maxRecDepth 100000 in
theorem path_lz {a0 b0 : Bool} {xs0 ys0 : List Nat} {z0 u0 : Int} (hz0 : sg a0 (Proofs.YtckhcijknfkghaaGreatDoor.val 4294967296 (xs0.take 5)) = z0) (hu0 : sg b0 (Proofs.YtckhcijknfkghaaGreatDoor.val 4294967296 (ys0.take 5)) = u0) {a1 b1 : Bool} {xs1 ys1 : List Nat} {z1 u1 : Int} (hz1 : sg a1 (Proofs.YtckhcijknfkghaaGreatDoor.val 4294967296 (xs1.take 5)) = z1) (hu1 : sg b1 (Proofs.YtckhcijknfkghaaGreatDoor.val 4294967296 (ys1.take 5)) = u1) (hc : cmpQ (qOf z0 u0) (qOf z1 u1) = (-1)) (hq : qOf z1 u1 = 0) : SiteOk (ph (phi_path_lz a0 b0 xs0 ys0 z0 u0 a1 b1 xs1 ys1 z1 u1)) Tryz.prog ⟨8, [.fact 0, .fact 1], [⟨.one (.lit (.cb true)), []⟩], false⟩ :=
  fn_ok ins_path_lz [⟨.one (.lit (.cb true)), []⟩] ss_path_lz
    Tryz.func8 (by kernel_rfl)
    (all_cons (sOfQ 5 rfl (fun _ _ h => h) rfl rfl rfl rfl rfl rfl rfl (by omega) hz0 hu0)
      (all_cons (sOfQ 5 rfl (fun _ _ h => h) rfl rfl rfl rfl rfl rfl rfl (by omega) hz1 hu1)
      (all_cons (sCopyR 5 (fun _ _ h => h) rfl rfl rfl rfl (by omega) (by rw [List.length_take]; omega) (by rw [List.length_take]; omega) hz0 hu0)
      (all_cons (sCopyR 5 (fun _ _ h => h) rfl rfl rfl rfl (by omega) (by rw [List.length_take]; omega) (by rw [List.length_take]; omega) hz1 hu1)
      (all_cons (tAddR tS tS rfl rfl rfl (by omega) rfl)
      (all_cons (sRAdd vQ vQ rfl rfl rfl (by omega) rfl)
      (all_cons (sIs tS pP (by omega) rfl rfl)
      (all_cons (tSubR tS tS rfl rfl rfl (by omega) rfl)
      (all_cons (sRSub vQ vQ rfl rfl rfl (by omega) rfl)
      (all_cons (sIs tS pP (by omega) rfl rfl)
      (all_cons (tMulR tS tS rfl rfl rfl (by omega) rfl)
      (all_cons (sRMul vQ vQ rfl rfl rfl (by omega) rfl)
      (all_cons (sIs tS pP (by omega) rfl rfl)
      (all_cons (tNegR tS rfl rfl rfl rfl)
      (all_cons (sRNeg vQ rfl rfl rfl (by omega) rfl)
      (all_cons (sIs tS pP (by omega) rfl rfl)
      (all_cons (tHalf tS tS rfl rfl rfl (by omega) rfl)
      (all_cons (sRMid vQ vQ rfl rfl rfl (by omega) rfl)
      (all_cons (sIs tS pP (by omega) rfl rfl)
      (all_cons (sRCmp vQ vQ (by omega) hc)
      (all_cons (tCmpR tS tS (by omega) hc)
      (all_cons (sRQuo0 vQ vQ (by omega) hq)
      (all_cons (tZero dD (decide_eq_true (by rw [hq]; rfl)))
      (all_cons (sIZero0)
      (all_cons (tDivMod dD dD rfl rfl (by omega) (den_ne _))
      (all_cons (sRFloor vQ rfl (by omega) rfl)
      (all_cons (tSame dD nN (by omega) (by rw [← floor_parts (den_pos _), Rat.num_divInt_den]) rfl)
      (all_cons (sSameRawQ (fun _ _ h => h) (fun _ _ h => h))
      (all_cons (sSameRawQ (fun _ _ h => h) (fun _ _ h => h))
      (all_cons (sWakes4)
      all_nil))))))))))))))))))))))))))))))
    (ins_ok [.fact 0 qS, .fact 1 qS] ⟨fun _ _ h => RawQ.is h, fun _ _ h => RawQ.is h, trivial⟩) (fun _ _ _ h => h)

def phi_path_ln (a0 b0 : Bool) (xs0 ys0 : List Nat) (z0 u0 : Int) (a1 b1 : Bool) (xs1 ys1 : List Nat) (z1 u1 : Int) : List (World → Value → Prop) := [fun w v => RawQ w v a0 xs0 b0 ys0, fun w v => RawQ w v a1 xs1 b1 ys1, fun w v => RawQ w v a0 (xs0.take 5) b0 (ys0.take 5), fun w v => QV w v z0 u0 5, fun w v => IntV w v z0 5, fun w v => IntV w v u0 5, fun w v => DecQ w v (qOf z0 u0) (2 * 5 + 2), fun w v => DecI w v ((qOf z0 u0).num) (2 * 5 + 2), fun w v => DecI w v ((qOf z0 u0).den : Int) (2 * 5 + 2), fun w v => RawQ w v a1 (xs1.take 5) b1 (ys1.take 5), fun w v => QV w v z1 u1 5, fun w v => IntV w v z1 5, fun w v => IntV w v u1 5, fun w v => DecQ w v (qOf z1 u1) (2 * 5 + 2), fun w v => DecI w v ((qOf z1 u1).num) (2 * 5 + 2), fun w v => DecI w v ((qOf z1 u1).den : Int) (2 * 5 + 2), fun w v => RawQ w v a0 (xs0.take 5) b0 (ys0.take 5), fun w v => QV w v z0 u0 5, fun w v => IntV w v z0 5, fun w v => IntV w v u0 5, fun w v => RawQ w v a1 (xs1.take 5) b1 (ys1.take 5), fun w v => QV w v z1 u1 5, fun w v => IntV w v z1 5, fun w v => IntV w v u1 5, fun w v => DecQ w v ((qOf z0 u0) + (qOf z1 u1)) (3 * ((2 * 5 + 2) + (2 * 5 + 2)) + 3), fun w v => DecI w v (((qOf z0 u0) + (qOf z1 u1)).num) (3 * ((2 * 5 + 2) + (2 * 5 + 2)) + 3), fun w v => DecI w v (((qOf z0 u0) + (qOf z1 u1)).den : Int) (3 * ((2 * 5 + 2) + (2 * 5 + 2)) + 3), fun w v => NorQ w v ((qOf z0 u0) + (qOf z1 u1)) (2 * (5 + 5) + 9), fun w v => NorV w v (((qOf z0 u0) + (qOf z1 u1)).num) (2 * (5 + 5) + 9), fun w v => NorV w v (((qOf z0 u0) + (qOf z1 u1)).den : Int) (2 * (5 + 5) + 9), fun w v => DecQ w v ((qOf z0 u0) - (qOf z1 u1)) (3 * ((2 * 5 + 2) + (2 * 5 + 2)) + 3), fun w v => DecI w v (((qOf z0 u0) - (qOf z1 u1)).num) (3 * ((2 * 5 + 2) + (2 * 5 + 2)) + 3), fun w v => DecI w v (((qOf z0 u0) - (qOf z1 u1)).den : Int) (3 * ((2 * 5 + 2) + (2 * 5 + 2)) + 3), fun w v => NorQ w v ((qOf z0 u0) - (qOf z1 u1)) (2 * (5 + 5) + 9), fun w v => NorV w v (((qOf z0 u0) - (qOf z1 u1)).num) (2 * (5 + 5) + 9), fun w v => NorV w v (((qOf z0 u0) - (qOf z1 u1)).den : Int) (2 * (5 + 5) + 9), fun w v => DecQ w v ((qOf z0 u0) * (qOf z1 u1)) (2 * ((2 * 5 + 2) + (2 * 5 + 2)) + 2), fun w v => DecI w v (((qOf z0 u0) * (qOf z1 u1)).num) (2 * ((2 * 5 + 2) + (2 * 5 + 2)) + 2), fun w v => DecI w v (((qOf z0 u0) * (qOf z1 u1)).den : Int) (2 * ((2 * 5 + 2) + (2 * 5 + 2)) + 2), fun w v => NorQ w v ((qOf z0 u0) * (qOf z1 u1)) (5 + 5 + 4), fun w v => NorV w v (((qOf z0 u0) * (qOf z1 u1)).num) (5 + 5 + 4), fun w v => NorV w v (((qOf z0 u0) * (qOf z1 u1)).den : Int) (5 + 5 + 4), fun w v => DecQ w v (-(qOf z0 u0)) (2 * 5 + 2), fun w v => DecI w v ((-(qOf z0 u0)).num) (2 * 5 + 2), fun w v => DecI w v ((-(qOf z0 u0)).den : Int) (2 * 5 + 2), fun w v => NorQ w v (-(qOf z0 u0)) (5 + 2), fun w v => NorV w v ((-(qOf z0 u0)).num) (5 + 2), fun w v => NorV w v ((-(qOf z0 u0)).den : Int) (5 + 2), fun w v => DecQ w v (((qOf z0 u0) + (qOf z1 u1)) / 2) (6 * ((2 * 5 + 2) + (2 * 5 + 2)) + 20), fun w v => DecI w v ((((qOf z0 u0) + (qOf z1 u1)) / 2).num) (6 * ((2 * 5 + 2) + (2 * 5 + 2)) + 20), fun w v => DecI w v ((((qOf z0 u0) + (qOf z1 u1)) / 2).den : Int) (6 * ((2 * 5 + 2) + (2 * 5 + 2)) + 20), fun w v => NorQ w v (((qOf z0 u0) + (qOf z1 u1)) / 2) (6 * (5 + 5) + 28), fun w v => NorV w v ((((qOf z0 u0) + (qOf z1 u1)) / 2).num) (6 * (5 + 5) + 28), fun w v => NorV w v ((((qOf z0 u0) + (qOf z1 u1)) / 2).den : Int) (6 * (5 + 5) + 28), fun w v => NorQ w v ((qOf z0 u0) / (qOf z1 u1)) (2 * (5 + 5) + 8), fun w v => NorV w v (((qOf z0 u0) / (qOf z1 u1)).num) (2 * (5 + 5) + 8), fun w v => NorV w v (((qOf z0 u0) / (qOf z1 u1)).den : Int) (2 * (5 + 5) + 8), fun w v => DecQ w v ((qOf z0 u0) / (qOf z1 u1)) (2 * ((2 * 5 + 2) + (2 * 5 + 2)) + 2), fun w v => DecI w v (((qOf z0 u0) / (qOf z1 u1)).num) (2 * ((2 * 5 + 2) + (2 * 5 + 2)) + 2), fun w v => DecI w v (((qOf z0 u0) / (qOf z1 u1)).den : Int) (2 * ((2 * 5 + 2) + (2 * 5 + 2)) + 2), fun w v => DecI w v (((qOf z0 u0).num) / ((qOf z0 u0).den : Int)) ((2 * 5 + 2) + 3), fun w v => DecI w v (((qOf z0 u0).num) % ((qOf z0 u0).den : Int)) ((2 * 5 + 2) + (2 * 5 + 2) + 1), fun w v => NorV w v (Rat.floor (qOf z0 u0)) (5 + 4)]
def ins_path_ln : List Out := [⟨.agg [.b, .s, .b, .s], [(0, 0, 0)]⟩, ⟨.agg [.b, .s, .b, .s], [(0, 0, 1)]⟩]
def ss_path_ln : List Site := [⟨30, [.fact 0, .lit (.ci .i64 5)], [⟨.agg [.b, .s, .b, .s], [(0, 0, 2), (0, 0, 3), (0, 2, 4), (2, 2, 5)]⟩, ⟨.agg [.s, .b, .s, .b], [(0, 0, 6), (0, 2, 7), (2, 2, 8)]⟩], true⟩,
      ⟨30, [.fact 1, .lit (.ci .i64 5)], [⟨.agg [.b, .s, .b, .s], [(0, 0, 9), (0, 0, 10), (0, 2, 11), (2, 2, 12)]⟩, ⟨.agg [.s, .b, .s, .b], [(0, 0, 13), (0, 2, 14), (2, 2, 15)]⟩], true⟩,
      ⟨31, [.fact 2], [⟨.agg [.b, .s, .b, .s], [(0, 0, 16), (0, 0, 17), (0, 2, 18), (2, 2, 19)]⟩], false⟩,
      ⟨31, [.fact 9], [⟨.agg [.b, .s, .b, .s], [(0, 0, 20), (0, 0, 21), (0, 2, 22), (2, 2, 23)]⟩], false⟩,
      ⟨33, [.fact 6, .fact 13], [⟨.agg [.s, .b, .s, .b], [(0, 0, 24), (0, 2, 25), (2, 2, 26)]⟩], false⟩,
      ⟨34, [.fact 17, .fact 21], [⟨.agg [.b, .s, .b, .s], [(0, 0, 27), (0, 2, 28), (2, 2, 29)]⟩], false⟩,
      ⟨32, [.fact 24, .fact 27], [⟨.one (.lit (.cb true)), []⟩], false⟩,
      ⟨35, [.fact 6, .fact 13], [⟨.agg [.s, .b, .s, .b], [(0, 0, 30), (0, 2, 31), (2, 2, 32)]⟩], false⟩,
      ⟨36, [.fact 17, .fact 21], [⟨.agg [.b, .s, .b, .s], [(0, 0, 33), (0, 2, 34), (2, 2, 35)]⟩], false⟩,
      ⟨32, [.fact 30, .fact 33], [⟨.one (.lit (.cb true)), []⟩], false⟩,
      ⟨37, [.fact 6, .fact 13], [⟨.agg [.s, .b, .s, .b], [(0, 0, 36), (0, 2, 37), (2, 2, 38)]⟩], false⟩,
      ⟨38, [.fact 17, .fact 21], [⟨.agg [.b, .s, .b, .s], [(0, 0, 39), (0, 2, 40), (2, 2, 41)]⟩], false⟩,
      ⟨32, [.fact 36, .fact 39], [⟨.one (.lit (.cb true)), []⟩], false⟩,
      ⟨39, [.fact 6], [⟨.agg [.s, .b, .s, .b], [(0, 0, 42), (0, 2, 43), (2, 2, 44)]⟩], false⟩,
      ⟨40, [.fact 17], [⟨.agg [.b, .s, .b, .s], [(0, 0, 45), (0, 2, 46), (2, 2, 47)]⟩], false⟩,
      ⟨32, [.fact 42, .fact 45], [⟨.one (.lit (.cb true)), []⟩], false⟩,
      ⟨41, [.fact 6, .fact 13], [⟨.agg [.s, .b, .s, .b], [(0, 0, 48), (0, 2, 49), (2, 2, 50)]⟩], false⟩,
      ⟨42, [.fact 17, .fact 21], [⟨.agg [.b, .s, .b, .s], [(0, 0, 51), (0, 2, 52), (2, 2, 53)]⟩], false⟩,
      ⟨32, [.fact 48, .fact 51], [⟨.one (.lit (.cb true)), []⟩], false⟩,
      ⟨43, [.fact 17, .fact 21], [⟨.one (.lit (.ci .i64 (-1))), []⟩], false⟩,
      ⟨44, [.fact 6, .fact 13], [⟨.one (.lit (.ci .i64 (-1))), []⟩], false⟩,
      ⟨45, [.fact 17, .fact 21], [⟨.agg [.b, .s, .b, .s], [(0, 0, 54), (0, 2, 55), (2, 2, 56)]⟩, ⟨.one (.lit (.ci .i64 0)), []⟩], true⟩,
      ⟨46, [.fact 14], [⟨.one (.lit (.cb false)), []⟩], false⟩,
      ⟨47, [.fact 6, .fact 13], [⟨.agg [.s, .b, .s, .b], [(0, 0, 57), (0, 2, 58), (2, 2, 59)]⟩], false⟩,
      ⟨32, [.fact 57, .fact 54], [⟨.one (.lit (.cb true)), []⟩], false⟩,
      ⟨48, [.fact 7, .fact 8], [⟨.agg [.s, .b], [(0, 0, 60)]⟩, ⟨.agg [.s, .b], [(0, 0, 61)]⟩], true⟩,
      ⟨49, [.fact 17], [⟨.agg [.b, .s], [(0, 0, 62)]⟩], false⟩,
      ⟨22, [.fact 60, .fact 62], [⟨.one (.lit (.cb true)), []⟩], false⟩,
      ⟨50, [.fact 16, .fact 2], [⟨.one (.lit (.cb true)), []⟩], false⟩,
      ⟨50, [.fact 20, .fact 9], [⟨.one (.lit (.cb true)), []⟩], false⟩,
      ⟨51, [], [⟨.one (.lit (.cb true)), []⟩], false⟩]
set_option maxRecDepth 100000 in
theorem path_ln {a0 b0 : Bool} {xs0 ys0 : List Nat} {z0 u0 : Int} (hz0 : sg a0 (Proofs.YtckhcijknfkghaaGreatDoor.val 4294967296 (xs0.take 5)) = z0) (hu0 : sg b0 (Proofs.YtckhcijknfkghaaGreatDoor.val 4294967296 (ys0.take 5)) = u0) {a1 b1 : Bool} {xs1 ys1 : List Nat} {z1 u1 : Int} (hz1 : sg a1 (Proofs.YtckhcijknfkghaaGreatDoor.val 4294967296 (xs1.take 5)) = z1) (hu1 : sg b1 (Proofs.YtckhcijknfkghaaGreatDoor.val 4294967296 (ys1.take 5)) = u1) (hc : cmpQ (qOf z0 u0) (qOf z1 u1) = (-1)) (hq : qOf z1 u1 ≠ 0) : SiteOk (ph (phi_path_ln a0 b0 xs0 ys0 z0 u0 a1 b1 xs1 ys1 z1 u1)) Tryz.prog ⟨8, [.fact 0, .fact 1], [⟨.one (.lit (.cb true)), []⟩], false⟩ :=
  fn_ok ins_path_ln [⟨.one (.lit (.cb true)), []⟩] ss_path_ln
    Tryz.func8 (by kernel_rfl)
    (all_cons (sOfQ 5 rfl (fun _ _ h => h) rfl rfl rfl rfl rfl rfl rfl (by omega) hz0 hu0)
      (all_cons (sOfQ 5 rfl (fun _ _ h => h) rfl rfl rfl rfl rfl rfl rfl (by omega) hz1 hu1)
      (all_cons (sCopyR 5 (fun _ _ h => h) rfl rfl rfl rfl (by omega) (by rw [List.length_take]; omega) (by rw [List.length_take]; omega) hz0 hu0)
      (all_cons (sCopyR 5 (fun _ _ h => h) rfl rfl rfl rfl (by omega) (by rw [List.length_take]; omega) (by rw [List.length_take]; omega) hz1 hu1)
      (all_cons (tAddR tS tS rfl rfl rfl (by omega) rfl)
      (all_cons (sRAdd vQ vQ rfl rfl rfl (by omega) rfl)
      (all_cons (sIs tS pP (by omega) rfl rfl)
      (all_cons (tSubR tS tS rfl rfl rfl (by omega) rfl)
      (all_cons (sRSub vQ vQ rfl rfl rfl (by omega) rfl)
      (all_cons (sIs tS pP (by omega) rfl rfl)
      (all_cons (tMulR tS tS rfl rfl rfl (by omega) rfl)
      (all_cons (sRMul vQ vQ rfl rfl rfl (by omega) rfl)
      (all_cons (sIs tS pP (by omega) rfl rfl)
      (all_cons (tNegR tS rfl rfl rfl rfl)
      (all_cons (sRNeg vQ rfl rfl rfl (by omega) rfl)
      (all_cons (sIs tS pP (by omega) rfl rfl)
      (all_cons (tHalf tS tS rfl rfl rfl (by omega) rfl)
      (all_cons (sRMid vQ vQ rfl rfl rfl (by omega) rfl)
      (all_cons (sIs tS pP (by omega) rfl rfl)
      (all_cons (sRCmp vQ vQ (by omega) hc)
      (all_cons (tCmpR tS tS (by omega) hc)
      (all_cons (sRQuo vQ vQ rfl rfl rfl (by omega) hq rfl)
      (all_cons (tZero dD (decide_eq_false (fun h => hq (Rat.num_eq_zero.1 h))))
      (all_cons (tQuoR tS tS rfl rfl rfl (by omega) hq rfl)
      (all_cons (sIs tS pP (by omega) rfl rfl)
      (all_cons (tDivMod dD dD rfl rfl (by omega) (den_ne _))
      (all_cons (sRFloor vQ rfl (by omega) rfl)
      (all_cons (tSame dD nN (by omega) (by rw [← floor_parts (den_pos _), Rat.num_divInt_den]) rfl)
      (all_cons (sSameRawQ (fun _ _ h => h) (fun _ _ h => h))
      (all_cons (sSameRawQ (fun _ _ h => h) (fun _ _ h => h))
      (all_cons (sWakes4)
      all_nil)))))))))))))))))))))))))))))))
    (ins_ok [.fact 0 qS, .fact 1 qS] ⟨fun _ _ h => RawQ.is h, fun _ _ h => RawQ.is h, trivial⟩) (fun _ _ _ h => h)

def phi_path_ez (a0 b0 : Bool) (xs0 ys0 : List Nat) (z0 u0 : Int) (a1 b1 : Bool) (xs1 ys1 : List Nat) (z1 u1 : Int) : List (World → Value → Prop) := [fun w v => RawQ w v a0 xs0 b0 ys0, fun w v => RawQ w v a1 xs1 b1 ys1, fun w v => RawQ w v a0 (xs0.take 5) b0 (ys0.take 5), fun w v => QV w v z0 u0 5, fun w v => IntV w v z0 5, fun w v => IntV w v u0 5, fun w v => DecQ w v (qOf z0 u0) (2 * 5 + 2), fun w v => DecI w v ((qOf z0 u0).num) (2 * 5 + 2), fun w v => DecI w v ((qOf z0 u0).den : Int) (2 * 5 + 2), fun w v => RawQ w v a1 (xs1.take 5) b1 (ys1.take 5), fun w v => QV w v z1 u1 5, fun w v => IntV w v z1 5, fun w v => IntV w v u1 5, fun w v => DecQ w v (qOf z1 u1) (2 * 5 + 2), fun w v => DecI w v ((qOf z1 u1).num) (2 * 5 + 2), fun w v => DecI w v ((qOf z1 u1).den : Int) (2 * 5 + 2), fun w v => RawQ w v a0 (xs0.take 5) b0 (ys0.take 5), fun w v => QV w v z0 u0 5, fun w v => IntV w v z0 5, fun w v => IntV w v u0 5, fun w v => RawQ w v a1 (xs1.take 5) b1 (ys1.take 5), fun w v => QV w v z1 u1 5, fun w v => IntV w v z1 5, fun w v => IntV w v u1 5, fun w v => DecQ w v ((qOf z0 u0) + (qOf z1 u1)) (3 * ((2 * 5 + 2) + (2 * 5 + 2)) + 3), fun w v => DecI w v (((qOf z0 u0) + (qOf z1 u1)).num) (3 * ((2 * 5 + 2) + (2 * 5 + 2)) + 3), fun w v => DecI w v (((qOf z0 u0) + (qOf z1 u1)).den : Int) (3 * ((2 * 5 + 2) + (2 * 5 + 2)) + 3), fun w v => NorQ w v ((qOf z0 u0) + (qOf z1 u1)) (2 * (5 + 5) + 9), fun w v => NorV w v (((qOf z0 u0) + (qOf z1 u1)).num) (2 * (5 + 5) + 9), fun w v => NorV w v (((qOf z0 u0) + (qOf z1 u1)).den : Int) (2 * (5 + 5) + 9), fun w v => DecQ w v ((qOf z0 u0) - (qOf z1 u1)) (3 * ((2 * 5 + 2) + (2 * 5 + 2)) + 3), fun w v => DecI w v (((qOf z0 u0) - (qOf z1 u1)).num) (3 * ((2 * 5 + 2) + (2 * 5 + 2)) + 3), fun w v => DecI w v (((qOf z0 u0) - (qOf z1 u1)).den : Int) (3 * ((2 * 5 + 2) + (2 * 5 + 2)) + 3), fun w v => NorQ w v ((qOf z0 u0) - (qOf z1 u1)) (2 * (5 + 5) + 9), fun w v => NorV w v (((qOf z0 u0) - (qOf z1 u1)).num) (2 * (5 + 5) + 9), fun w v => NorV w v (((qOf z0 u0) - (qOf z1 u1)).den : Int) (2 * (5 + 5) + 9), fun w v => DecQ w v ((qOf z0 u0) * (qOf z1 u1)) (2 * ((2 * 5 + 2) + (2 * 5 + 2)) + 2), fun w v => DecI w v (((qOf z0 u0) * (qOf z1 u1)).num) (2 * ((2 * 5 + 2) + (2 * 5 + 2)) + 2), fun w v => DecI w v (((qOf z0 u0) * (qOf z1 u1)).den : Int) (2 * ((2 * 5 + 2) + (2 * 5 + 2)) + 2), fun w v => NorQ w v ((qOf z0 u0) * (qOf z1 u1)) (5 + 5 + 4), fun w v => NorV w v (((qOf z0 u0) * (qOf z1 u1)).num) (5 + 5 + 4), fun w v => NorV w v (((qOf z0 u0) * (qOf z1 u1)).den : Int) (5 + 5 + 4), fun w v => DecQ w v (-(qOf z0 u0)) (2 * 5 + 2), fun w v => DecI w v ((-(qOf z0 u0)).num) (2 * 5 + 2), fun w v => DecI w v ((-(qOf z0 u0)).den : Int) (2 * 5 + 2), fun w v => NorQ w v (-(qOf z0 u0)) (5 + 2), fun w v => NorV w v ((-(qOf z0 u0)).num) (5 + 2), fun w v => NorV w v ((-(qOf z0 u0)).den : Int) (5 + 2), fun w v => DecQ w v (((qOf z0 u0) + (qOf z1 u1)) / 2) (6 * ((2 * 5 + 2) + (2 * 5 + 2)) + 20), fun w v => DecI w v ((((qOf z0 u0) + (qOf z1 u1)) / 2).num) (6 * ((2 * 5 + 2) + (2 * 5 + 2)) + 20), fun w v => DecI w v ((((qOf z0 u0) + (qOf z1 u1)) / 2).den : Int) (6 * ((2 * 5 + 2) + (2 * 5 + 2)) + 20), fun w v => NorQ w v (((qOf z0 u0) + (qOf z1 u1)) / 2) (6 * (5 + 5) + 28), fun w v => NorV w v ((((qOf z0 u0) + (qOf z1 u1)) / 2).num) (6 * (5 + 5) + 28), fun w v => NorV w v ((((qOf z0 u0) + (qOf z1 u1)) / 2).den : Int) (6 * (5 + 5) + 28), fun w v => DecI w v (((qOf z0 u0).num) / ((qOf z0 u0).den : Int)) ((2 * 5 + 2) + 3), fun w v => DecI w v (((qOf z0 u0).num) % ((qOf z0 u0).den : Int)) ((2 * 5 + 2) + (2 * 5 + 2) + 1), fun w v => NorV w v (Rat.floor (qOf z0 u0)) (5 + 4)]
def ins_path_ez : List Out := [⟨.agg [.b, .s, .b, .s], [(0, 0, 0)]⟩, ⟨.agg [.b, .s, .b, .s], [(0, 0, 1)]⟩]
def ss_path_ez : List Site := [⟨30, [.fact 0, .lit (.ci .i64 5)], [⟨.agg [.b, .s, .b, .s], [(0, 0, 2), (0, 0, 3), (0, 2, 4), (2, 2, 5)]⟩, ⟨.agg [.s, .b, .s, .b], [(0, 0, 6), (0, 2, 7), (2, 2, 8)]⟩], true⟩,
      ⟨30, [.fact 1, .lit (.ci .i64 5)], [⟨.agg [.b, .s, .b, .s], [(0, 0, 9), (0, 0, 10), (0, 2, 11), (2, 2, 12)]⟩, ⟨.agg [.s, .b, .s, .b], [(0, 0, 13), (0, 2, 14), (2, 2, 15)]⟩], true⟩,
      ⟨31, [.fact 2], [⟨.agg [.b, .s, .b, .s], [(0, 0, 16), (0, 0, 17), (0, 2, 18), (2, 2, 19)]⟩], false⟩,
      ⟨31, [.fact 9], [⟨.agg [.b, .s, .b, .s], [(0, 0, 20), (0, 0, 21), (0, 2, 22), (2, 2, 23)]⟩], false⟩,
      ⟨33, [.fact 6, .fact 13], [⟨.agg [.s, .b, .s, .b], [(0, 0, 24), (0, 2, 25), (2, 2, 26)]⟩], false⟩,
      ⟨34, [.fact 17, .fact 21], [⟨.agg [.b, .s, .b, .s], [(0, 0, 27), (0, 2, 28), (2, 2, 29)]⟩], false⟩,
      ⟨32, [.fact 24, .fact 27], [⟨.one (.lit (.cb true)), []⟩], false⟩,
      ⟨35, [.fact 6, .fact 13], [⟨.agg [.s, .b, .s, .b], [(0, 0, 30), (0, 2, 31), (2, 2, 32)]⟩], false⟩,
      ⟨36, [.fact 17, .fact 21], [⟨.agg [.b, .s, .b, .s], [(0, 0, 33), (0, 2, 34), (2, 2, 35)]⟩], false⟩,
      ⟨32, [.fact 30, .fact 33], [⟨.one (.lit (.cb true)), []⟩], false⟩,
      ⟨37, [.fact 6, .fact 13], [⟨.agg [.s, .b, .s, .b], [(0, 0, 36), (0, 2, 37), (2, 2, 38)]⟩], false⟩,
      ⟨38, [.fact 17, .fact 21], [⟨.agg [.b, .s, .b, .s], [(0, 0, 39), (0, 2, 40), (2, 2, 41)]⟩], false⟩,
      ⟨32, [.fact 36, .fact 39], [⟨.one (.lit (.cb true)), []⟩], false⟩,
      ⟨39, [.fact 6], [⟨.agg [.s, .b, .s, .b], [(0, 0, 42), (0, 2, 43), (2, 2, 44)]⟩], false⟩,
      ⟨40, [.fact 17], [⟨.agg [.b, .s, .b, .s], [(0, 0, 45), (0, 2, 46), (2, 2, 47)]⟩], false⟩,
      ⟨32, [.fact 42, .fact 45], [⟨.one (.lit (.cb true)), []⟩], false⟩,
      ⟨41, [.fact 6, .fact 13], [⟨.agg [.s, .b, .s, .b], [(0, 0, 48), (0, 2, 49), (2, 2, 50)]⟩], false⟩,
      ⟨42, [.fact 17, .fact 21], [⟨.agg [.b, .s, .b, .s], [(0, 0, 51), (0, 2, 52), (2, 2, 53)]⟩], false⟩,
      ⟨32, [.fact 48, .fact 51], [⟨.one (.lit (.cb true)), []⟩], false⟩,
      ⟨43, [.fact 17, .fact 21], [⟨.one (.lit (.ci .i64 0)), []⟩], false⟩,
      ⟨44, [.fact 6, .fact 13], [⟨.one (.lit (.ci .i64 0)), []⟩], false⟩,
      ⟨45, [.fact 17, .fact 21], [⟨.agg [.lit (.cb false), .lit (.nl), .lit (.cb false), .lit (.nl)], []⟩, ⟨.one (.lit (.ci .i64 2)), []⟩], true⟩,
      ⟨46, [.fact 14], [⟨.one (.lit (.cb true)), []⟩], false⟩,
      ⟨21, [.parts (.agg [.lit (.cb false), .lit .nl]) []], [⟨.one (.lit (.cb true)), []⟩], false⟩,
      ⟨48, [.fact 7, .fact 8], [⟨.agg [.s, .b], [(0, 0, 54)]⟩, ⟨.agg [.s, .b], [(0, 0, 55)]⟩], true⟩,
      ⟨49, [.fact 17], [⟨.agg [.b, .s], [(0, 0, 56)]⟩], false⟩,
      ⟨22, [.fact 54, .fact 56], [⟨.one (.lit (.cb true)), []⟩], false⟩,
      ⟨50, [.fact 16, .fact 2], [⟨.one (.lit (.cb true)), []⟩], false⟩,
      ⟨50, [.fact 20, .fact 9], [⟨.one (.lit (.cb true)), []⟩], false⟩,
      ⟨51, [], [⟨.one (.lit (.cb true)), []⟩], false⟩]
set_option maxRecDepth 100000 in
theorem path_ez {a0 b0 : Bool} {xs0 ys0 : List Nat} {z0 u0 : Int} (hz0 : sg a0 (Proofs.YtckhcijknfkghaaGreatDoor.val 4294967296 (xs0.take 5)) = z0) (hu0 : sg b0 (Proofs.YtckhcijknfkghaaGreatDoor.val 4294967296 (ys0.take 5)) = u0) {a1 b1 : Bool} {xs1 ys1 : List Nat} {z1 u1 : Int} (hz1 : sg a1 (Proofs.YtckhcijknfkghaaGreatDoor.val 4294967296 (xs1.take 5)) = z1) (hu1 : sg b1 (Proofs.YtckhcijknfkghaaGreatDoor.val 4294967296 (ys1.take 5)) = u1) (hc : cmpQ (qOf z0 u0) (qOf z1 u1) = 0) (hq : qOf z1 u1 = 0) : SiteOk (ph (phi_path_ez a0 b0 xs0 ys0 z0 u0 a1 b1 xs1 ys1 z1 u1)) Tryz.prog ⟨8, [.fact 0, .fact 1], [⟨.one (.lit (.cb true)), []⟩], false⟩ :=
  fn_ok ins_path_ez [⟨.one (.lit (.cb true)), []⟩] ss_path_ez
    Tryz.func8 (by kernel_rfl)
    (all_cons (sOfQ 5 rfl (fun _ _ h => h) rfl rfl rfl rfl rfl rfl rfl (by omega) hz0 hu0)
      (all_cons (sOfQ 5 rfl (fun _ _ h => h) rfl rfl rfl rfl rfl rfl rfl (by omega) hz1 hu1)
      (all_cons (sCopyR 5 (fun _ _ h => h) rfl rfl rfl rfl (by omega) (by rw [List.length_take]; omega) (by rw [List.length_take]; omega) hz0 hu0)
      (all_cons (sCopyR 5 (fun _ _ h => h) rfl rfl rfl rfl (by omega) (by rw [List.length_take]; omega) (by rw [List.length_take]; omega) hz1 hu1)
      (all_cons (tAddR tS tS rfl rfl rfl (by omega) rfl)
      (all_cons (sRAdd vQ vQ rfl rfl rfl (by omega) rfl)
      (all_cons (sIs tS pP (by omega) rfl rfl)
      (all_cons (tSubR tS tS rfl rfl rfl (by omega) rfl)
      (all_cons (sRSub vQ vQ rfl rfl rfl (by omega) rfl)
      (all_cons (sIs tS pP (by omega) rfl rfl)
      (all_cons (tMulR tS tS rfl rfl rfl (by omega) rfl)
      (all_cons (sRMul vQ vQ rfl rfl rfl (by omega) rfl)
      (all_cons (sIs tS pP (by omega) rfl rfl)
      (all_cons (tNegR tS rfl rfl rfl rfl)
      (all_cons (sRNeg vQ rfl rfl rfl (by omega) rfl)
      (all_cons (sIs tS pP (by omega) rfl rfl)
      (all_cons (tHalf tS tS rfl rfl rfl (by omega) rfl)
      (all_cons (sRMid vQ vQ rfl rfl rfl (by omega) rfl)
      (all_cons (sIs tS pP (by omega) rfl rfl)
      (all_cons (sRCmp vQ vQ (by omega) hc)
      (all_cons (tCmpR tS tS (by omega) hc)
      (all_cons (sRQuo0 vQ vQ (by omega) hq)
      (all_cons (tZero dD (decide_eq_true (by rw [hq]; rfl)))
      (all_cons (sIZero0)
      (all_cons (tDivMod dD dD rfl rfl (by omega) (den_ne _))
      (all_cons (sRFloor vQ rfl (by omega) rfl)
      (all_cons (tSame dD nN (by omega) (by rw [← floor_parts (den_pos _), Rat.num_divInt_den]) rfl)
      (all_cons (sSameRawQ (fun _ _ h => h) (fun _ _ h => h))
      (all_cons (sSameRawQ (fun _ _ h => h) (fun _ _ h => h))
      (all_cons (sWakes4)
      all_nil))))))))))))))))))))))))))))))
    (ins_ok [.fact 0 qS, .fact 1 qS] ⟨fun _ _ h => RawQ.is h, fun _ _ h => RawQ.is h, trivial⟩) (fun _ _ _ h => h)

def phi_path_en (a0 b0 : Bool) (xs0 ys0 : List Nat) (z0 u0 : Int) (a1 b1 : Bool) (xs1 ys1 : List Nat) (z1 u1 : Int) : List (World → Value → Prop) := [fun w v => RawQ w v a0 xs0 b0 ys0, fun w v => RawQ w v a1 xs1 b1 ys1, fun w v => RawQ w v a0 (xs0.take 5) b0 (ys0.take 5), fun w v => QV w v z0 u0 5, fun w v => IntV w v z0 5, fun w v => IntV w v u0 5, fun w v => DecQ w v (qOf z0 u0) (2 * 5 + 2), fun w v => DecI w v ((qOf z0 u0).num) (2 * 5 + 2), fun w v => DecI w v ((qOf z0 u0).den : Int) (2 * 5 + 2), fun w v => RawQ w v a1 (xs1.take 5) b1 (ys1.take 5), fun w v => QV w v z1 u1 5, fun w v => IntV w v z1 5, fun w v => IntV w v u1 5, fun w v => DecQ w v (qOf z1 u1) (2 * 5 + 2), fun w v => DecI w v ((qOf z1 u1).num) (2 * 5 + 2), fun w v => DecI w v ((qOf z1 u1).den : Int) (2 * 5 + 2), fun w v => RawQ w v a0 (xs0.take 5) b0 (ys0.take 5), fun w v => QV w v z0 u0 5, fun w v => IntV w v z0 5, fun w v => IntV w v u0 5, fun w v => RawQ w v a1 (xs1.take 5) b1 (ys1.take 5), fun w v => QV w v z1 u1 5, fun w v => IntV w v z1 5, fun w v => IntV w v u1 5, fun w v => DecQ w v ((qOf z0 u0) + (qOf z1 u1)) (3 * ((2 * 5 + 2) + (2 * 5 + 2)) + 3), fun w v => DecI w v (((qOf z0 u0) + (qOf z1 u1)).num) (3 * ((2 * 5 + 2) + (2 * 5 + 2)) + 3), fun w v => DecI w v (((qOf z0 u0) + (qOf z1 u1)).den : Int) (3 * ((2 * 5 + 2) + (2 * 5 + 2)) + 3), fun w v => NorQ w v ((qOf z0 u0) + (qOf z1 u1)) (2 * (5 + 5) + 9), fun w v => NorV w v (((qOf z0 u0) + (qOf z1 u1)).num) (2 * (5 + 5) + 9), fun w v => NorV w v (((qOf z0 u0) + (qOf z1 u1)).den : Int) (2 * (5 + 5) + 9), fun w v => DecQ w v ((qOf z0 u0) - (qOf z1 u1)) (3 * ((2 * 5 + 2) + (2 * 5 + 2)) + 3), fun w v => DecI w v (((qOf z0 u0) - (qOf z1 u1)).num) (3 * ((2 * 5 + 2) + (2 * 5 + 2)) + 3), fun w v => DecI w v (((qOf z0 u0) - (qOf z1 u1)).den : Int) (3 * ((2 * 5 + 2) + (2 * 5 + 2)) + 3), fun w v => NorQ w v ((qOf z0 u0) - (qOf z1 u1)) (2 * (5 + 5) + 9), fun w v => NorV w v (((qOf z0 u0) - (qOf z1 u1)).num) (2 * (5 + 5) + 9), fun w v => NorV w v (((qOf z0 u0) - (qOf z1 u1)).den : Int) (2 * (5 + 5) + 9), fun w v => DecQ w v ((qOf z0 u0) * (qOf z1 u1)) (2 * ((2 * 5 + 2) + (2 * 5 + 2)) + 2), fun w v => DecI w v (((qOf z0 u0) * (qOf z1 u1)).num) (2 * ((2 * 5 + 2) + (2 * 5 + 2)) + 2), fun w v => DecI w v (((qOf z0 u0) * (qOf z1 u1)).den : Int) (2 * ((2 * 5 + 2) + (2 * 5 + 2)) + 2), fun w v => NorQ w v ((qOf z0 u0) * (qOf z1 u1)) (5 + 5 + 4), fun w v => NorV w v (((qOf z0 u0) * (qOf z1 u1)).num) (5 + 5 + 4), fun w v => NorV w v (((qOf z0 u0) * (qOf z1 u1)).den : Int) (5 + 5 + 4), fun w v => DecQ w v (-(qOf z0 u0)) (2 * 5 + 2), fun w v => DecI w v ((-(qOf z0 u0)).num) (2 * 5 + 2), fun w v => DecI w v ((-(qOf z0 u0)).den : Int) (2 * 5 + 2), fun w v => NorQ w v (-(qOf z0 u0)) (5 + 2), fun w v => NorV w v ((-(qOf z0 u0)).num) (5 + 2), fun w v => NorV w v ((-(qOf z0 u0)).den : Int) (5 + 2), fun w v => DecQ w v (((qOf z0 u0) + (qOf z1 u1)) / 2) (6 * ((2 * 5 + 2) + (2 * 5 + 2)) + 20), fun w v => DecI w v ((((qOf z0 u0) + (qOf z1 u1)) / 2).num) (6 * ((2 * 5 + 2) + (2 * 5 + 2)) + 20), fun w v => DecI w v ((((qOf z0 u0) + (qOf z1 u1)) / 2).den : Int) (6 * ((2 * 5 + 2) + (2 * 5 + 2)) + 20), fun w v => NorQ w v (((qOf z0 u0) + (qOf z1 u1)) / 2) (6 * (5 + 5) + 28), fun w v => NorV w v ((((qOf z0 u0) + (qOf z1 u1)) / 2).num) (6 * (5 + 5) + 28), fun w v => NorV w v ((((qOf z0 u0) + (qOf z1 u1)) / 2).den : Int) (6 * (5 + 5) + 28), fun w v => NorQ w v ((qOf z0 u0) / (qOf z1 u1)) (2 * (5 + 5) + 8), fun w v => NorV w v (((qOf z0 u0) / (qOf z1 u1)).num) (2 * (5 + 5) + 8), fun w v => NorV w v (((qOf z0 u0) / (qOf z1 u1)).den : Int) (2 * (5 + 5) + 8), fun w v => DecQ w v ((qOf z0 u0) / (qOf z1 u1)) (2 * ((2 * 5 + 2) + (2 * 5 + 2)) + 2), fun w v => DecI w v (((qOf z0 u0) / (qOf z1 u1)).num) (2 * ((2 * 5 + 2) + (2 * 5 + 2)) + 2), fun w v => DecI w v (((qOf z0 u0) / (qOf z1 u1)).den : Int) (2 * ((2 * 5 + 2) + (2 * 5 + 2)) + 2), fun w v => DecI w v (((qOf z0 u0).num) / ((qOf z0 u0).den : Int)) ((2 * 5 + 2) + 3), fun w v => DecI w v (((qOf z0 u0).num) % ((qOf z0 u0).den : Int)) ((2 * 5 + 2) + (2 * 5 + 2) + 1), fun w v => NorV w v (Rat.floor (qOf z0 u0)) (5 + 4)]
def ins_path_en : List Out := [⟨.agg [.b, .s, .b, .s], [(0, 0, 0)]⟩, ⟨.agg [.b, .s, .b, .s], [(0, 0, 1)]⟩]
def ss_path_en : List Site := [⟨30, [.fact 0, .lit (.ci .i64 5)], [⟨.agg [.b, .s, .b, .s], [(0, 0, 2), (0, 0, 3), (0, 2, 4), (2, 2, 5)]⟩, ⟨.agg [.s, .b, .s, .b], [(0, 0, 6), (0, 2, 7), (2, 2, 8)]⟩], true⟩,
      ⟨30, [.fact 1, .lit (.ci .i64 5)], [⟨.agg [.b, .s, .b, .s], [(0, 0, 9), (0, 0, 10), (0, 2, 11), (2, 2, 12)]⟩, ⟨.agg [.s, .b, .s, .b], [(0, 0, 13), (0, 2, 14), (2, 2, 15)]⟩], true⟩,
      ⟨31, [.fact 2], [⟨.agg [.b, .s, .b, .s], [(0, 0, 16), (0, 0, 17), (0, 2, 18), (2, 2, 19)]⟩], false⟩,
      ⟨31, [.fact 9], [⟨.agg [.b, .s, .b, .s], [(0, 0, 20), (0, 0, 21), (0, 2, 22), (2, 2, 23)]⟩], false⟩,
      ⟨33, [.fact 6, .fact 13], [⟨.agg [.s, .b, .s, .b], [(0, 0, 24), (0, 2, 25), (2, 2, 26)]⟩], false⟩,
      ⟨34, [.fact 17, .fact 21], [⟨.agg [.b, .s, .b, .s], [(0, 0, 27), (0, 2, 28), (2, 2, 29)]⟩], false⟩,
      ⟨32, [.fact 24, .fact 27], [⟨.one (.lit (.cb true)), []⟩], false⟩,
      ⟨35, [.fact 6, .fact 13], [⟨.agg [.s, .b, .s, .b], [(0, 0, 30), (0, 2, 31), (2, 2, 32)]⟩], false⟩,
      ⟨36, [.fact 17, .fact 21], [⟨.agg [.b, .s, .b, .s], [(0, 0, 33), (0, 2, 34), (2, 2, 35)]⟩], false⟩,
      ⟨32, [.fact 30, .fact 33], [⟨.one (.lit (.cb true)), []⟩], false⟩,
      ⟨37, [.fact 6, .fact 13], [⟨.agg [.s, .b, .s, .b], [(0, 0, 36), (0, 2, 37), (2, 2, 38)]⟩], false⟩,
      ⟨38, [.fact 17, .fact 21], [⟨.agg [.b, .s, .b, .s], [(0, 0, 39), (0, 2, 40), (2, 2, 41)]⟩], false⟩,
      ⟨32, [.fact 36, .fact 39], [⟨.one (.lit (.cb true)), []⟩], false⟩,
      ⟨39, [.fact 6], [⟨.agg [.s, .b, .s, .b], [(0, 0, 42), (0, 2, 43), (2, 2, 44)]⟩], false⟩,
      ⟨40, [.fact 17], [⟨.agg [.b, .s, .b, .s], [(0, 0, 45), (0, 2, 46), (2, 2, 47)]⟩], false⟩,
      ⟨32, [.fact 42, .fact 45], [⟨.one (.lit (.cb true)), []⟩], false⟩,
      ⟨41, [.fact 6, .fact 13], [⟨.agg [.s, .b, .s, .b], [(0, 0, 48), (0, 2, 49), (2, 2, 50)]⟩], false⟩,
      ⟨42, [.fact 17, .fact 21], [⟨.agg [.b, .s, .b, .s], [(0, 0, 51), (0, 2, 52), (2, 2, 53)]⟩], false⟩,
      ⟨32, [.fact 48, .fact 51], [⟨.one (.lit (.cb true)), []⟩], false⟩,
      ⟨43, [.fact 17, .fact 21], [⟨.one (.lit (.ci .i64 0)), []⟩], false⟩,
      ⟨44, [.fact 6, .fact 13], [⟨.one (.lit (.ci .i64 0)), []⟩], false⟩,
      ⟨45, [.fact 17, .fact 21], [⟨.agg [.b, .s, .b, .s], [(0, 0, 54), (0, 2, 55), (2, 2, 56)]⟩, ⟨.one (.lit (.ci .i64 0)), []⟩], true⟩,
      ⟨46, [.fact 14], [⟨.one (.lit (.cb false)), []⟩], false⟩,
      ⟨47, [.fact 6, .fact 13], [⟨.agg [.s, .b, .s, .b], [(0, 0, 57), (0, 2, 58), (2, 2, 59)]⟩], false⟩,
      ⟨32, [.fact 57, .fact 54], [⟨.one (.lit (.cb true)), []⟩], false⟩,
      ⟨48, [.fact 7, .fact 8], [⟨.agg [.s, .b], [(0, 0, 60)]⟩, ⟨.agg [.s, .b], [(0, 0, 61)]⟩], true⟩,
      ⟨49, [.fact 17], [⟨.agg [.b, .s], [(0, 0, 62)]⟩], false⟩,
      ⟨22, [.fact 60, .fact 62], [⟨.one (.lit (.cb true)), []⟩], false⟩,
      ⟨50, [.fact 16, .fact 2], [⟨.one (.lit (.cb true)), []⟩], false⟩,
      ⟨50, [.fact 20, .fact 9], [⟨.one (.lit (.cb true)), []⟩], false⟩,
      ⟨51, [], [⟨.one (.lit (.cb true)), []⟩], false⟩]
set_option maxRecDepth 100000 in
theorem path_en {a0 b0 : Bool} {xs0 ys0 : List Nat} {z0 u0 : Int} (hz0 : sg a0 (Proofs.YtckhcijknfkghaaGreatDoor.val 4294967296 (xs0.take 5)) = z0) (hu0 : sg b0 (Proofs.YtckhcijknfkghaaGreatDoor.val 4294967296 (ys0.take 5)) = u0) {a1 b1 : Bool} {xs1 ys1 : List Nat} {z1 u1 : Int} (hz1 : sg a1 (Proofs.YtckhcijknfkghaaGreatDoor.val 4294967296 (xs1.take 5)) = z1) (hu1 : sg b1 (Proofs.YtckhcijknfkghaaGreatDoor.val 4294967296 (ys1.take 5)) = u1) (hc : cmpQ (qOf z0 u0) (qOf z1 u1) = 0) (hq : qOf z1 u1 ≠ 0) : SiteOk (ph (phi_path_en a0 b0 xs0 ys0 z0 u0 a1 b1 xs1 ys1 z1 u1)) Tryz.prog ⟨8, [.fact 0, .fact 1], [⟨.one (.lit (.cb true)), []⟩], false⟩ :=
  fn_ok ins_path_en [⟨.one (.lit (.cb true)), []⟩] ss_path_en
    Tryz.func8 (by kernel_rfl)
    (all_cons (sOfQ 5 rfl (fun _ _ h => h) rfl rfl rfl rfl rfl rfl rfl (by omega) hz0 hu0)
      (all_cons (sOfQ 5 rfl (fun _ _ h => h) rfl rfl rfl rfl rfl rfl rfl (by omega) hz1 hu1)
      (all_cons (sCopyR 5 (fun _ _ h => h) rfl rfl rfl rfl (by omega) (by rw [List.length_take]; omega) (by rw [List.length_take]; omega) hz0 hu0)
      (all_cons (sCopyR 5 (fun _ _ h => h) rfl rfl rfl rfl (by omega) (by rw [List.length_take]; omega) (by rw [List.length_take]; omega) hz1 hu1)
      (all_cons (tAddR tS tS rfl rfl rfl (by omega) rfl)
      (all_cons (sRAdd vQ vQ rfl rfl rfl (by omega) rfl)
      (all_cons (sIs tS pP (by omega) rfl rfl)
      (all_cons (tSubR tS tS rfl rfl rfl (by omega) rfl)
      (all_cons (sRSub vQ vQ rfl rfl rfl (by omega) rfl)
      (all_cons (sIs tS pP (by omega) rfl rfl)
      (all_cons (tMulR tS tS rfl rfl rfl (by omega) rfl)
      (all_cons (sRMul vQ vQ rfl rfl rfl (by omega) rfl)
      (all_cons (sIs tS pP (by omega) rfl rfl)
      (all_cons (tNegR tS rfl rfl rfl rfl)
      (all_cons (sRNeg vQ rfl rfl rfl (by omega) rfl)
      (all_cons (sIs tS pP (by omega) rfl rfl)
      (all_cons (tHalf tS tS rfl rfl rfl (by omega) rfl)
      (all_cons (sRMid vQ vQ rfl rfl rfl (by omega) rfl)
      (all_cons (sIs tS pP (by omega) rfl rfl)
      (all_cons (sRCmp vQ vQ (by omega) hc)
      (all_cons (tCmpR tS tS (by omega) hc)
      (all_cons (sRQuo vQ vQ rfl rfl rfl (by omega) hq rfl)
      (all_cons (tZero dD (decide_eq_false (fun h => hq (Rat.num_eq_zero.1 h))))
      (all_cons (tQuoR tS tS rfl rfl rfl (by omega) hq rfl)
      (all_cons (sIs tS pP (by omega) rfl rfl)
      (all_cons (tDivMod dD dD rfl rfl (by omega) (den_ne _))
      (all_cons (sRFloor vQ rfl (by omega) rfl)
      (all_cons (tSame dD nN (by omega) (by rw [← floor_parts (den_pos _), Rat.num_divInt_den]) rfl)
      (all_cons (sSameRawQ (fun _ _ h => h) (fun _ _ h => h))
      (all_cons (sSameRawQ (fun _ _ h => h) (fun _ _ h => h))
      (all_cons (sWakes4)
      all_nil)))))))))))))))))))))))))))))))
    (ins_ok [.fact 0 qS, .fact 1 qS] ⟨fun _ _ h => RawQ.is h, fun _ _ h => RawQ.is h, trivial⟩) (fun _ _ _ h => h)

def phi_path_gz (a0 b0 : Bool) (xs0 ys0 : List Nat) (z0 u0 : Int) (a1 b1 : Bool) (xs1 ys1 : List Nat) (z1 u1 : Int) : List (World → Value → Prop) := [fun w v => RawQ w v a0 xs0 b0 ys0, fun w v => RawQ w v a1 xs1 b1 ys1, fun w v => RawQ w v a0 (xs0.take 5) b0 (ys0.take 5), fun w v => QV w v z0 u0 5, fun w v => IntV w v z0 5, fun w v => IntV w v u0 5, fun w v => DecQ w v (qOf z0 u0) (2 * 5 + 2), fun w v => DecI w v ((qOf z0 u0).num) (2 * 5 + 2), fun w v => DecI w v ((qOf z0 u0).den : Int) (2 * 5 + 2), fun w v => RawQ w v a1 (xs1.take 5) b1 (ys1.take 5), fun w v => QV w v z1 u1 5, fun w v => IntV w v z1 5, fun w v => IntV w v u1 5, fun w v => DecQ w v (qOf z1 u1) (2 * 5 + 2), fun w v => DecI w v ((qOf z1 u1).num) (2 * 5 + 2), fun w v => DecI w v ((qOf z1 u1).den : Int) (2 * 5 + 2), fun w v => RawQ w v a0 (xs0.take 5) b0 (ys0.take 5), fun w v => QV w v z0 u0 5, fun w v => IntV w v z0 5, fun w v => IntV w v u0 5, fun w v => RawQ w v a1 (xs1.take 5) b1 (ys1.take 5), fun w v => QV w v z1 u1 5, fun w v => IntV w v z1 5, fun w v => IntV w v u1 5, fun w v => DecQ w v ((qOf z0 u0) + (qOf z1 u1)) (3 * ((2 * 5 + 2) + (2 * 5 + 2)) + 3), fun w v => DecI w v (((qOf z0 u0) + (qOf z1 u1)).num) (3 * ((2 * 5 + 2) + (2 * 5 + 2)) + 3), fun w v => DecI w v (((qOf z0 u0) + (qOf z1 u1)).den : Int) (3 * ((2 * 5 + 2) + (2 * 5 + 2)) + 3), fun w v => NorQ w v ((qOf z0 u0) + (qOf z1 u1)) (2 * (5 + 5) + 9), fun w v => NorV w v (((qOf z0 u0) + (qOf z1 u1)).num) (2 * (5 + 5) + 9), fun w v => NorV w v (((qOf z0 u0) + (qOf z1 u1)).den : Int) (2 * (5 + 5) + 9), fun w v => DecQ w v ((qOf z0 u0) - (qOf z1 u1)) (3 * ((2 * 5 + 2) + (2 * 5 + 2)) + 3), fun w v => DecI w v (((qOf z0 u0) - (qOf z1 u1)).num) (3 * ((2 * 5 + 2) + (2 * 5 + 2)) + 3), fun w v => DecI w v (((qOf z0 u0) - (qOf z1 u1)).den : Int) (3 * ((2 * 5 + 2) + (2 * 5 + 2)) + 3), fun w v => NorQ w v ((qOf z0 u0) - (qOf z1 u1)) (2 * (5 + 5) + 9), fun w v => NorV w v (((qOf z0 u0) - (qOf z1 u1)).num) (2 * (5 + 5) + 9), fun w v => NorV w v (((qOf z0 u0) - (qOf z1 u1)).den : Int) (2 * (5 + 5) + 9), fun w v => DecQ w v ((qOf z0 u0) * (qOf z1 u1)) (2 * ((2 * 5 + 2) + (2 * 5 + 2)) + 2), fun w v => DecI w v (((qOf z0 u0) * (qOf z1 u1)).num) (2 * ((2 * 5 + 2) + (2 * 5 + 2)) + 2), fun w v => DecI w v (((qOf z0 u0) * (qOf z1 u1)).den : Int) (2 * ((2 * 5 + 2) + (2 * 5 + 2)) + 2), fun w v => NorQ w v ((qOf z0 u0) * (qOf z1 u1)) (5 + 5 + 4), fun w v => NorV w v (((qOf z0 u0) * (qOf z1 u1)).num) (5 + 5 + 4), fun w v => NorV w v (((qOf z0 u0) * (qOf z1 u1)).den : Int) (5 + 5 + 4), fun w v => DecQ w v (-(qOf z0 u0)) (2 * 5 + 2), fun w v => DecI w v ((-(qOf z0 u0)).num) (2 * 5 + 2), fun w v => DecI w v ((-(qOf z0 u0)).den : Int) (2 * 5 + 2), fun w v => NorQ w v (-(qOf z0 u0)) (5 + 2), fun w v => NorV w v ((-(qOf z0 u0)).num) (5 + 2), fun w v => NorV w v ((-(qOf z0 u0)).den : Int) (5 + 2), fun w v => DecQ w v (((qOf z0 u0) + (qOf z1 u1)) / 2) (6 * ((2 * 5 + 2) + (2 * 5 + 2)) + 20), fun w v => DecI w v ((((qOf z0 u0) + (qOf z1 u1)) / 2).num) (6 * ((2 * 5 + 2) + (2 * 5 + 2)) + 20), fun w v => DecI w v ((((qOf z0 u0) + (qOf z1 u1)) / 2).den : Int) (6 * ((2 * 5 + 2) + (2 * 5 + 2)) + 20), fun w v => NorQ w v (((qOf z0 u0) + (qOf z1 u1)) / 2) (6 * (5 + 5) + 28), fun w v => NorV w v ((((qOf z0 u0) + (qOf z1 u1)) / 2).num) (6 * (5 + 5) + 28), fun w v => NorV w v ((((qOf z0 u0) + (qOf z1 u1)) / 2).den : Int) (6 * (5 + 5) + 28), fun w v => DecI w v (((qOf z0 u0).num) / ((qOf z0 u0).den : Int)) ((2 * 5 + 2) + 3), fun w v => DecI w v (((qOf z0 u0).num) % ((qOf z0 u0).den : Int)) ((2 * 5 + 2) + (2 * 5 + 2) + 1), fun w v => NorV w v (Rat.floor (qOf z0 u0)) (5 + 4)]
def ins_path_gz : List Out := [⟨.agg [.b, .s, .b, .s], [(0, 0, 0)]⟩, ⟨.agg [.b, .s, .b, .s], [(0, 0, 1)]⟩]
def ss_path_gz : List Site := [⟨30, [.fact 0, .lit (.ci .i64 5)], [⟨.agg [.b, .s, .b, .s], [(0, 0, 2), (0, 0, 3), (0, 2, 4), (2, 2, 5)]⟩, ⟨.agg [.s, .b, .s, .b], [(0, 0, 6), (0, 2, 7), (2, 2, 8)]⟩], true⟩,
      ⟨30, [.fact 1, .lit (.ci .i64 5)], [⟨.agg [.b, .s, .b, .s], [(0, 0, 9), (0, 0, 10), (0, 2, 11), (2, 2, 12)]⟩, ⟨.agg [.s, .b, .s, .b], [(0, 0, 13), (0, 2, 14), (2, 2, 15)]⟩], true⟩,
      ⟨31, [.fact 2], [⟨.agg [.b, .s, .b, .s], [(0, 0, 16), (0, 0, 17), (0, 2, 18), (2, 2, 19)]⟩], false⟩,
      ⟨31, [.fact 9], [⟨.agg [.b, .s, .b, .s], [(0, 0, 20), (0, 0, 21), (0, 2, 22), (2, 2, 23)]⟩], false⟩,
      ⟨33, [.fact 6, .fact 13], [⟨.agg [.s, .b, .s, .b], [(0, 0, 24), (0, 2, 25), (2, 2, 26)]⟩], false⟩,
      ⟨34, [.fact 17, .fact 21], [⟨.agg [.b, .s, .b, .s], [(0, 0, 27), (0, 2, 28), (2, 2, 29)]⟩], false⟩,
      ⟨32, [.fact 24, .fact 27], [⟨.one (.lit (.cb true)), []⟩], false⟩,
      ⟨35, [.fact 6, .fact 13], [⟨.agg [.s, .b, .s, .b], [(0, 0, 30), (0, 2, 31), (2, 2, 32)]⟩], false⟩,
      ⟨36, [.fact 17, .fact 21], [⟨.agg [.b, .s, .b, .s], [(0, 0, 33), (0, 2, 34), (2, 2, 35)]⟩], false⟩,
      ⟨32, [.fact 30, .fact 33], [⟨.one (.lit (.cb true)), []⟩], false⟩,
      ⟨37, [.fact 6, .fact 13], [⟨.agg [.s, .b, .s, .b], [(0, 0, 36), (0, 2, 37), (2, 2, 38)]⟩], false⟩,
      ⟨38, [.fact 17, .fact 21], [⟨.agg [.b, .s, .b, .s], [(0, 0, 39), (0, 2, 40), (2, 2, 41)]⟩], false⟩,
      ⟨32, [.fact 36, .fact 39], [⟨.one (.lit (.cb true)), []⟩], false⟩,
      ⟨39, [.fact 6], [⟨.agg [.s, .b, .s, .b], [(0, 0, 42), (0, 2, 43), (2, 2, 44)]⟩], false⟩,
      ⟨40, [.fact 17], [⟨.agg [.b, .s, .b, .s], [(0, 0, 45), (0, 2, 46), (2, 2, 47)]⟩], false⟩,
      ⟨32, [.fact 42, .fact 45], [⟨.one (.lit (.cb true)), []⟩], false⟩,
      ⟨41, [.fact 6, .fact 13], [⟨.agg [.s, .b, .s, .b], [(0, 0, 48), (0, 2, 49), (2, 2, 50)]⟩], false⟩,
      ⟨42, [.fact 17, .fact 21], [⟨.agg [.b, .s, .b, .s], [(0, 0, 51), (0, 2, 52), (2, 2, 53)]⟩], false⟩,
      ⟨32, [.fact 48, .fact 51], [⟨.one (.lit (.cb true)), []⟩], false⟩,
      ⟨43, [.fact 17, .fact 21], [⟨.one (.lit (.ci .i64 1)), []⟩], false⟩,
      ⟨44, [.fact 6, .fact 13], [⟨.one (.lit (.ci .i64 1)), []⟩], false⟩,
      ⟨45, [.fact 17, .fact 21], [⟨.agg [.lit (.cb false), .lit (.nl), .lit (.cb false), .lit (.nl)], []⟩, ⟨.one (.lit (.ci .i64 2)), []⟩], true⟩,
      ⟨46, [.fact 14], [⟨.one (.lit (.cb true)), []⟩], false⟩,
      ⟨21, [.parts (.agg [.lit (.cb false), .lit .nl]) []], [⟨.one (.lit (.cb true)), []⟩], false⟩,
      ⟨48, [.fact 7, .fact 8], [⟨.agg [.s, .b], [(0, 0, 54)]⟩, ⟨.agg [.s, .b], [(0, 0, 55)]⟩], true⟩,
      ⟨49, [.fact 17], [⟨.agg [.b, .s], [(0, 0, 56)]⟩], false⟩,
      ⟨22, [.fact 54, .fact 56], [⟨.one (.lit (.cb true)), []⟩], false⟩,
      ⟨50, [.fact 16, .fact 2], [⟨.one (.lit (.cb true)), []⟩], false⟩,
      ⟨50, [.fact 20, .fact 9], [⟨.one (.lit (.cb true)), []⟩], false⟩,
      ⟨51, [], [⟨.one (.lit (.cb true)), []⟩], false⟩]
set_option maxRecDepth 100000 in
theorem path_gz {a0 b0 : Bool} {xs0 ys0 : List Nat} {z0 u0 : Int} (hz0 : sg a0 (Proofs.YtckhcijknfkghaaGreatDoor.val 4294967296 (xs0.take 5)) = z0) (hu0 : sg b0 (Proofs.YtckhcijknfkghaaGreatDoor.val 4294967296 (ys0.take 5)) = u0) {a1 b1 : Bool} {xs1 ys1 : List Nat} {z1 u1 : Int} (hz1 : sg a1 (Proofs.YtckhcijknfkghaaGreatDoor.val 4294967296 (xs1.take 5)) = z1) (hu1 : sg b1 (Proofs.YtckhcijknfkghaaGreatDoor.val 4294967296 (ys1.take 5)) = u1) (hc : cmpQ (qOf z0 u0) (qOf z1 u1) = 1) (hq : qOf z1 u1 = 0) : SiteOk (ph (phi_path_gz a0 b0 xs0 ys0 z0 u0 a1 b1 xs1 ys1 z1 u1)) Tryz.prog ⟨8, [.fact 0, .fact 1], [⟨.one (.lit (.cb true)), []⟩], false⟩ :=
  fn_ok ins_path_gz [⟨.one (.lit (.cb true)), []⟩] ss_path_gz
    Tryz.func8 (by kernel_rfl)
    (all_cons (sOfQ 5 rfl (fun _ _ h => h) rfl rfl rfl rfl rfl rfl rfl (by omega) hz0 hu0)
      (all_cons (sOfQ 5 rfl (fun _ _ h => h) rfl rfl rfl rfl rfl rfl rfl (by omega) hz1 hu1)
      (all_cons (sCopyR 5 (fun _ _ h => h) rfl rfl rfl rfl (by omega) (by rw [List.length_take]; omega) (by rw [List.length_take]; omega) hz0 hu0)
      (all_cons (sCopyR 5 (fun _ _ h => h) rfl rfl rfl rfl (by omega) (by rw [List.length_take]; omega) (by rw [List.length_take]; omega) hz1 hu1)
      (all_cons (tAddR tS tS rfl rfl rfl (by omega) rfl)
      (all_cons (sRAdd vQ vQ rfl rfl rfl (by omega) rfl)
      (all_cons (sIs tS pP (by omega) rfl rfl)
      (all_cons (tSubR tS tS rfl rfl rfl (by omega) rfl)
      (all_cons (sRSub vQ vQ rfl rfl rfl (by omega) rfl)
      (all_cons (sIs tS pP (by omega) rfl rfl)
      (all_cons (tMulR tS tS rfl rfl rfl (by omega) rfl)
      (all_cons (sRMul vQ vQ rfl rfl rfl (by omega) rfl)
      (all_cons (sIs tS pP (by omega) rfl rfl)
      (all_cons (tNegR tS rfl rfl rfl rfl)
      (all_cons (sRNeg vQ rfl rfl rfl (by omega) rfl)
      (all_cons (sIs tS pP (by omega) rfl rfl)
      (all_cons (tHalf tS tS rfl rfl rfl (by omega) rfl)
      (all_cons (sRMid vQ vQ rfl rfl rfl (by omega) rfl)
      (all_cons (sIs tS pP (by omega) rfl rfl)
      (all_cons (sRCmp vQ vQ (by omega) hc)
      (all_cons (tCmpR tS tS (by omega) hc)
      (all_cons (sRQuo0 vQ vQ (by omega) hq)
      (all_cons (tZero dD (decide_eq_true (by rw [hq]; rfl)))
      (all_cons (sIZero0)
      (all_cons (tDivMod dD dD rfl rfl (by omega) (den_ne _))
      (all_cons (sRFloor vQ rfl (by omega) rfl)
      (all_cons (tSame dD nN (by omega) (by rw [← floor_parts (den_pos _), Rat.num_divInt_den]) rfl)
      (all_cons (sSameRawQ (fun _ _ h => h) (fun _ _ h => h))
      (all_cons (sSameRawQ (fun _ _ h => h) (fun _ _ h => h))
      (all_cons (sWakes4)
      all_nil))))))))))))))))))))))))))))))
    (ins_ok [.fact 0 qS, .fact 1 qS] ⟨fun _ _ h => RawQ.is h, fun _ _ h => RawQ.is h, trivial⟩) (fun _ _ _ h => h)

def phi_path_gn (a0 b0 : Bool) (xs0 ys0 : List Nat) (z0 u0 : Int) (a1 b1 : Bool) (xs1 ys1 : List Nat) (z1 u1 : Int) : List (World → Value → Prop) := [fun w v => RawQ w v a0 xs0 b0 ys0, fun w v => RawQ w v a1 xs1 b1 ys1, fun w v => RawQ w v a0 (xs0.take 5) b0 (ys0.take 5), fun w v => QV w v z0 u0 5, fun w v => IntV w v z0 5, fun w v => IntV w v u0 5, fun w v => DecQ w v (qOf z0 u0) (2 * 5 + 2), fun w v => DecI w v ((qOf z0 u0).num) (2 * 5 + 2), fun w v => DecI w v ((qOf z0 u0).den : Int) (2 * 5 + 2), fun w v => RawQ w v a1 (xs1.take 5) b1 (ys1.take 5), fun w v => QV w v z1 u1 5, fun w v => IntV w v z1 5, fun w v => IntV w v u1 5, fun w v => DecQ w v (qOf z1 u1) (2 * 5 + 2), fun w v => DecI w v ((qOf z1 u1).num) (2 * 5 + 2), fun w v => DecI w v ((qOf z1 u1).den : Int) (2 * 5 + 2), fun w v => RawQ w v a0 (xs0.take 5) b0 (ys0.take 5), fun w v => QV w v z0 u0 5, fun w v => IntV w v z0 5, fun w v => IntV w v u0 5, fun w v => RawQ w v a1 (xs1.take 5) b1 (ys1.take 5), fun w v => QV w v z1 u1 5, fun w v => IntV w v z1 5, fun w v => IntV w v u1 5, fun w v => DecQ w v ((qOf z0 u0) + (qOf z1 u1)) (3 * ((2 * 5 + 2) + (2 * 5 + 2)) + 3), fun w v => DecI w v (((qOf z0 u0) + (qOf z1 u1)).num) (3 * ((2 * 5 + 2) + (2 * 5 + 2)) + 3), fun w v => DecI w v (((qOf z0 u0) + (qOf z1 u1)).den : Int) (3 * ((2 * 5 + 2) + (2 * 5 + 2)) + 3), fun w v => NorQ w v ((qOf z0 u0) + (qOf z1 u1)) (2 * (5 + 5) + 9), fun w v => NorV w v (((qOf z0 u0) + (qOf z1 u1)).num) (2 * (5 + 5) + 9), fun w v => NorV w v (((qOf z0 u0) + (qOf z1 u1)).den : Int) (2 * (5 + 5) + 9), fun w v => DecQ w v ((qOf z0 u0) - (qOf z1 u1)) (3 * ((2 * 5 + 2) + (2 * 5 + 2)) + 3), fun w v => DecI w v (((qOf z0 u0) - (qOf z1 u1)).num) (3 * ((2 * 5 + 2) + (2 * 5 + 2)) + 3), fun w v => DecI w v (((qOf z0 u0) - (qOf z1 u1)).den : Int) (3 * ((2 * 5 + 2) + (2 * 5 + 2)) + 3), fun w v => NorQ w v ((qOf z0 u0) - (qOf z1 u1)) (2 * (5 + 5) + 9), fun w v => NorV w v (((qOf z0 u0) - (qOf z1 u1)).num) (2 * (5 + 5) + 9), fun w v => NorV w v (((qOf z0 u0) - (qOf z1 u1)).den : Int) (2 * (5 + 5) + 9), fun w v => DecQ w v ((qOf z0 u0) * (qOf z1 u1)) (2 * ((2 * 5 + 2) + (2 * 5 + 2)) + 2), fun w v => DecI w v (((qOf z0 u0) * (qOf z1 u1)).num) (2 * ((2 * 5 + 2) + (2 * 5 + 2)) + 2), fun w v => DecI w v (((qOf z0 u0) * (qOf z1 u1)).den : Int) (2 * ((2 * 5 + 2) + (2 * 5 + 2)) + 2), fun w v => NorQ w v ((qOf z0 u0) * (qOf z1 u1)) (5 + 5 + 4), fun w v => NorV w v (((qOf z0 u0) * (qOf z1 u1)).num) (5 + 5 + 4), fun w v => NorV w v (((qOf z0 u0) * (qOf z1 u1)).den : Int) (5 + 5 + 4), fun w v => DecQ w v (-(qOf z0 u0)) (2 * 5 + 2), fun w v => DecI w v ((-(qOf z0 u0)).num) (2 * 5 + 2), fun w v => DecI w v ((-(qOf z0 u0)).den : Int) (2 * 5 + 2), fun w v => NorQ w v (-(qOf z0 u0)) (5 + 2), fun w v => NorV w v ((-(qOf z0 u0)).num) (5 + 2), fun w v => NorV w v ((-(qOf z0 u0)).den : Int) (5 + 2), fun w v => DecQ w v (((qOf z0 u0) + (qOf z1 u1)) / 2) (6 * ((2 * 5 + 2) + (2 * 5 + 2)) + 20), fun w v => DecI w v ((((qOf z0 u0) + (qOf z1 u1)) / 2).num) (6 * ((2 * 5 + 2) + (2 * 5 + 2)) + 20), fun w v => DecI w v ((((qOf z0 u0) + (qOf z1 u1)) / 2).den : Int) (6 * ((2 * 5 + 2) + (2 * 5 + 2)) + 20), fun w v => NorQ w v (((qOf z0 u0) + (qOf z1 u1)) / 2) (6 * (5 + 5) + 28), fun w v => NorV w v ((((qOf z0 u0) + (qOf z1 u1)) / 2).num) (6 * (5 + 5) + 28), fun w v => NorV w v ((((qOf z0 u0) + (qOf z1 u1)) / 2).den : Int) (6 * (5 + 5) + 28), fun w v => NorQ w v ((qOf z0 u0) / (qOf z1 u1)) (2 * (5 + 5) + 8), fun w v => NorV w v (((qOf z0 u0) / (qOf z1 u1)).num) (2 * (5 + 5) + 8), fun w v => NorV w v (((qOf z0 u0) / (qOf z1 u1)).den : Int) (2 * (5 + 5) + 8), fun w v => DecQ w v ((qOf z0 u0) / (qOf z1 u1)) (2 * ((2 * 5 + 2) + (2 * 5 + 2)) + 2), fun w v => DecI w v (((qOf z0 u0) / (qOf z1 u1)).num) (2 * ((2 * 5 + 2) + (2 * 5 + 2)) + 2), fun w v => DecI w v (((qOf z0 u0) / (qOf z1 u1)).den : Int) (2 * ((2 * 5 + 2) + (2 * 5 + 2)) + 2), fun w v => DecI w v (((qOf z0 u0).num) / ((qOf z0 u0).den : Int)) ((2 * 5 + 2) + 3), fun w v => DecI w v (((qOf z0 u0).num) % ((qOf z0 u0).den : Int)) ((2 * 5 + 2) + (2 * 5 + 2) + 1), fun w v => NorV w v (Rat.floor (qOf z0 u0)) (5 + 4)]
def ins_path_gn : List Out := [⟨.agg [.b, .s, .b, .s], [(0, 0, 0)]⟩, ⟨.agg [.b, .s, .b, .s], [(0, 0, 1)]⟩]
def ss_path_gn : List Site := [⟨30, [.fact 0, .lit (.ci .i64 5)], [⟨.agg [.b, .s, .b, .s], [(0, 0, 2), (0, 0, 3), (0, 2, 4), (2, 2, 5)]⟩, ⟨.agg [.s, .b, .s, .b], [(0, 0, 6), (0, 2, 7), (2, 2, 8)]⟩], true⟩,
      ⟨30, [.fact 1, .lit (.ci .i64 5)], [⟨.agg [.b, .s, .b, .s], [(0, 0, 9), (0, 0, 10), (0, 2, 11), (2, 2, 12)]⟩, ⟨.agg [.s, .b, .s, .b], [(0, 0, 13), (0, 2, 14), (2, 2, 15)]⟩], true⟩,
      ⟨31, [.fact 2], [⟨.agg [.b, .s, .b, .s], [(0, 0, 16), (0, 0, 17), (0, 2, 18), (2, 2, 19)]⟩], false⟩,
      ⟨31, [.fact 9], [⟨.agg [.b, .s, .b, .s], [(0, 0, 20), (0, 0, 21), (0, 2, 22), (2, 2, 23)]⟩], false⟩,
      ⟨33, [.fact 6, .fact 13], [⟨.agg [.s, .b, .s, .b], [(0, 0, 24), (0, 2, 25), (2, 2, 26)]⟩], false⟩,
      ⟨34, [.fact 17, .fact 21], [⟨.agg [.b, .s, .b, .s], [(0, 0, 27), (0, 2, 28), (2, 2, 29)]⟩], false⟩,
      ⟨32, [.fact 24, .fact 27], [⟨.one (.lit (.cb true)), []⟩], false⟩,
      ⟨35, [.fact 6, .fact 13], [⟨.agg [.s, .b, .s, .b], [(0, 0, 30), (0, 2, 31), (2, 2, 32)]⟩], false⟩,
      ⟨36, [.fact 17, .fact 21], [⟨.agg [.b, .s, .b, .s], [(0, 0, 33), (0, 2, 34), (2, 2, 35)]⟩], false⟩,
      ⟨32, [.fact 30, .fact 33], [⟨.one (.lit (.cb true)), []⟩], false⟩,
      ⟨37, [.fact 6, .fact 13], [⟨.agg [.s, .b, .s, .b], [(0, 0, 36), (0, 2, 37), (2, 2, 38)]⟩], false⟩,
      ⟨38, [.fact 17, .fact 21], [⟨.agg [.b, .s, .b, .s], [(0, 0, 39), (0, 2, 40), (2, 2, 41)]⟩], false⟩,
      ⟨32, [.fact 36, .fact 39], [⟨.one (.lit (.cb true)), []⟩], false⟩,
      ⟨39, [.fact 6], [⟨.agg [.s, .b, .s, .b], [(0, 0, 42), (0, 2, 43), (2, 2, 44)]⟩], false⟩,
      ⟨40, [.fact 17], [⟨.agg [.b, .s, .b, .s], [(0, 0, 45), (0, 2, 46), (2, 2, 47)]⟩], false⟩,
      ⟨32, [.fact 42, .fact 45], [⟨.one (.lit (.cb true)), []⟩], false⟩,
      ⟨41, [.fact 6, .fact 13], [⟨.agg [.s, .b, .s, .b], [(0, 0, 48), (0, 2, 49), (2, 2, 50)]⟩], false⟩,
      ⟨42, [.fact 17, .fact 21], [⟨.agg [.b, .s, .b, .s], [(0, 0, 51), (0, 2, 52), (2, 2, 53)]⟩], false⟩,
      ⟨32, [.fact 48, .fact 51], [⟨.one (.lit (.cb true)), []⟩], false⟩,
      ⟨43, [.fact 17, .fact 21], [⟨.one (.lit (.ci .i64 1)), []⟩], false⟩,
      ⟨44, [.fact 6, .fact 13], [⟨.one (.lit (.ci .i64 1)), []⟩], false⟩,
      ⟨45, [.fact 17, .fact 21], [⟨.agg [.b, .s, .b, .s], [(0, 0, 54), (0, 2, 55), (2, 2, 56)]⟩, ⟨.one (.lit (.ci .i64 0)), []⟩], true⟩,
      ⟨46, [.fact 14], [⟨.one (.lit (.cb false)), []⟩], false⟩,
      ⟨47, [.fact 6, .fact 13], [⟨.agg [.s, .b, .s, .b], [(0, 0, 57), (0, 2, 58), (2, 2, 59)]⟩], false⟩,
      ⟨32, [.fact 57, .fact 54], [⟨.one (.lit (.cb true)), []⟩], false⟩,
      ⟨48, [.fact 7, .fact 8], [⟨.agg [.s, .b], [(0, 0, 60)]⟩, ⟨.agg [.s, .b], [(0, 0, 61)]⟩], true⟩,
      ⟨49, [.fact 17], [⟨.agg [.b, .s], [(0, 0, 62)]⟩], false⟩,
      ⟨22, [.fact 60, .fact 62], [⟨.one (.lit (.cb true)), []⟩], false⟩,
      ⟨50, [.fact 16, .fact 2], [⟨.one (.lit (.cb true)), []⟩], false⟩,
      ⟨50, [.fact 20, .fact 9], [⟨.one (.lit (.cb true)), []⟩], false⟩,
      ⟨51, [], [⟨.one (.lit (.cb true)), []⟩], false⟩]
set_option maxRecDepth 100000 in
theorem path_gn {a0 b0 : Bool} {xs0 ys0 : List Nat} {z0 u0 : Int} (hz0 : sg a0 (Proofs.YtckhcijknfkghaaGreatDoor.val 4294967296 (xs0.take 5)) = z0) (hu0 : sg b0 (Proofs.YtckhcijknfkghaaGreatDoor.val 4294967296 (ys0.take 5)) = u0) {a1 b1 : Bool} {xs1 ys1 : List Nat} {z1 u1 : Int} (hz1 : sg a1 (Proofs.YtckhcijknfkghaaGreatDoor.val 4294967296 (xs1.take 5)) = z1) (hu1 : sg b1 (Proofs.YtckhcijknfkghaaGreatDoor.val 4294967296 (ys1.take 5)) = u1) (hc : cmpQ (qOf z0 u0) (qOf z1 u1) = 1) (hq : qOf z1 u1 ≠ 0) : SiteOk (ph (phi_path_gn a0 b0 xs0 ys0 z0 u0 a1 b1 xs1 ys1 z1 u1)) Tryz.prog ⟨8, [.fact 0, .fact 1], [⟨.one (.lit (.cb true)), []⟩], false⟩ :=
  fn_ok ins_path_gn [⟨.one (.lit (.cb true)), []⟩] ss_path_gn
    Tryz.func8 (by kernel_rfl)
    (all_cons (sOfQ 5 rfl (fun _ _ h => h) rfl rfl rfl rfl rfl rfl rfl (by omega) hz0 hu0)
      (all_cons (sOfQ 5 rfl (fun _ _ h => h) rfl rfl rfl rfl rfl rfl rfl (by omega) hz1 hu1)
      (all_cons (sCopyR 5 (fun _ _ h => h) rfl rfl rfl rfl (by omega) (by rw [List.length_take]; omega) (by rw [List.length_take]; omega) hz0 hu0)
      (all_cons (sCopyR 5 (fun _ _ h => h) rfl rfl rfl rfl (by omega) (by rw [List.length_take]; omega) (by rw [List.length_take]; omega) hz1 hu1)
      (all_cons (tAddR tS tS rfl rfl rfl (by omega) rfl)
      (all_cons (sRAdd vQ vQ rfl rfl rfl (by omega) rfl)
      (all_cons (sIs tS pP (by omega) rfl rfl)
      (all_cons (tSubR tS tS rfl rfl rfl (by omega) rfl)
      (all_cons (sRSub vQ vQ rfl rfl rfl (by omega) rfl)
      (all_cons (sIs tS pP (by omega) rfl rfl)
      (all_cons (tMulR tS tS rfl rfl rfl (by omega) rfl)
      (all_cons (sRMul vQ vQ rfl rfl rfl (by omega) rfl)
      (all_cons (sIs tS pP (by omega) rfl rfl)
      (all_cons (tNegR tS rfl rfl rfl rfl)
      (all_cons (sRNeg vQ rfl rfl rfl (by omega) rfl)
      (all_cons (sIs tS pP (by omega) rfl rfl)
      (all_cons (tHalf tS tS rfl rfl rfl (by omega) rfl)
      (all_cons (sRMid vQ vQ rfl rfl rfl (by omega) rfl)
      (all_cons (sIs tS pP (by omega) rfl rfl)
      (all_cons (sRCmp vQ vQ (by omega) hc)
      (all_cons (tCmpR tS tS (by omega) hc)
      (all_cons (sRQuo vQ vQ rfl rfl rfl (by omega) hq rfl)
      (all_cons (tZero dD (decide_eq_false (fun h => hq (Rat.num_eq_zero.1 h))))
      (all_cons (tQuoR tS tS rfl rfl rfl (by omega) hq rfl)
      (all_cons (sIs tS pP (by omega) rfl rfl)
      (all_cons (tDivMod dD dD rfl rfl (by omega) (den_ne _))
      (all_cons (sRFloor vQ rfl (by omega) rfl)
      (all_cons (tSame dD nN (by omega) (by rw [← floor_parts (den_pos _), Rat.num_divInt_den]) rfl)
      (all_cons (sSameRawQ (fun _ _ h => h) (fun _ _ h => h))
      (all_cons (sSameRawQ (fun _ _ h => h) (fun _ _ h => h))
      (all_cons (sWakes4)
      all_nil)))))))))))))))))))))))))))))))
    (ins_ok [.fact 0 qS, .fact 1 qS] ⟨fun _ _ h => RawQ.is h, fun _ _ h => RawQ.is h, trivial⟩) (fun _ _ _ h => h)

theorem walk {a0 b0 : Bool} {s0 t0 : Value} {xs0 ys0 : List Nat} {a1 b1 : Bool} {s1 t1 : Value} {xs1 ys1 : List Nat} {w : World} (hx0 : Sl w .u32 s0 xs0) (ax0 : All 4294967296 xs0) (hy0 : Sl w .u32 t0 ys0) (ay0 : All 4294967296 ys0) (hx1 : Sl w .u32 s1 xs1) (ax1 : All 4294967296 xs1) (hy1 : Sl w .u32 t1 ys1) (ay1 : All 4294967296 ys1) :
    Calls Tryz.prog 8 #[.agg #[.bool a0, s0, .bool b0, t0], .agg #[.bool a1, s1, .bool b1, t1]] w (Bool_ w true) := by
  obtain ⟨z0, hz0⟩ : ∃ z, sg a0 (Proofs.YtckhcijknfkghaaGreatDoor.val 4294967296 (xs0.take 5)) = z := ⟨_, rfl⟩
  obtain ⟨u0, hu0⟩ : ∃ u, sg b0 (Proofs.YtckhcijknfkghaaGreatDoor.val 4294967296 (ys0.take 5)) = u := ⟨_, rfl⟩
  obtain ⟨z1, hz1⟩ : ∃ z, sg a1 (Proofs.YtckhcijknfkghaaGreatDoor.val 4294967296 (xs1.take 5)) = z := ⟨_, rfl⟩
  obtain ⟨u1, hu1⟩ : ∃ u, sg b1 (Proofs.YtckhcijknfkghaaGreatDoor.val 4294967296 (ys1.take 5)) = u := ⟨_, rfl⟩
  have hd := cmpQ_bd (qOf z0 u0) (qOf z1 u1)
  by_cases hq : qOf z1 u1 = 0
  · rcases (show cmpQ (qOf z0 u0) (qOf z1 u1) = -1 ∨ cmpQ (qOf z0 u0) (qOf z1 u1) = 0 ∨ cmpQ (qOf z0 u0) (qOf z1 u1) = 1 by omega) with hc | hc | hc
    · exact law_true (path_lz hz0 hu0 hz1 hu1 hc hq) (vs := [.agg #[.bool a0, s0, .bool b0, t0], .agg #[.bool a1, s1, .bool b1, t1]]) ⟨arg_kp rfl (fun _ _ _ g h => RawQ.kp h g) ⟨_, _, rfl, hx0, ax0, hy0, ay0⟩, arg_kp rfl (fun _ _ _ g h => RawQ.kp h g) ⟨_, _, rfl, hx1, ax1, hy1, ay1⟩, trivial⟩
    · exact law_true (path_ez hz0 hu0 hz1 hu1 hc hq) (vs := [.agg #[.bool a0, s0, .bool b0, t0], .agg #[.bool a1, s1, .bool b1, t1]]) ⟨arg_kp rfl (fun _ _ _ g h => RawQ.kp h g) ⟨_, _, rfl, hx0, ax0, hy0, ay0⟩, arg_kp rfl (fun _ _ _ g h => RawQ.kp h g) ⟨_, _, rfl, hx1, ax1, hy1, ay1⟩, trivial⟩
    · exact law_true (path_gz hz0 hu0 hz1 hu1 hc hq) (vs := [.agg #[.bool a0, s0, .bool b0, t0], .agg #[.bool a1, s1, .bool b1, t1]]) ⟨arg_kp rfl (fun _ _ _ g h => RawQ.kp h g) ⟨_, _, rfl, hx0, ax0, hy0, ay0⟩, arg_kp rfl (fun _ _ _ g h => RawQ.kp h g) ⟨_, _, rfl, hx1, ax1, hy1, ay1⟩, trivial⟩
  · rcases (show cmpQ (qOf z0 u0) (qOf z1 u1) = -1 ∨ cmpQ (qOf z0 u0) (qOf z1 u1) = 0 ∨ cmpQ (qOf z0 u0) (qOf z1 u1) = 1 by omega) with hc | hc | hc
    · exact law_true (path_ln hz0 hu0 hz1 hu1 hc hq) (vs := [.agg #[.bool a0, s0, .bool b0, t0], .agg #[.bool a1, s1, .bool b1, t1]]) ⟨arg_kp rfl (fun _ _ _ g h => RawQ.kp h g) ⟨_, _, rfl, hx0, ax0, hy0, ay0⟩, arg_kp rfl (fun _ _ _ g h => RawQ.kp h g) ⟨_, _, rfl, hx1, ax1, hy1, ay1⟩, trivial⟩
    · exact law_true (path_en hz0 hu0 hz1 hu1 hc hq) (vs := [.agg #[.bool a0, s0, .bool b0, t0], .agg #[.bool a1, s1, .bool b1, t1]]) ⟨arg_kp rfl (fun _ _ _ g h => RawQ.kp h g) ⟨_, _, rfl, hx0, ax0, hy0, ay0⟩, arg_kp rfl (fun _ _ _ g h => RawQ.kp h g) ⟨_, _, rfl, hx1, ax1, hy1, ay1⟩, trivial⟩
    · exact law_true (path_gn hz0 hu0 hz1 hu1 hc hq) (vs := [.agg #[.bool a0, s0, .bool b0, t0], .agg #[.bool a1, s1, .bool b1, t1]]) ⟨arg_kp rfl (fun _ _ _ g h => RawQ.kp h g) ⟨_, _, rfl, hx0, ax0, hy0, ay0⟩, arg_kp rfl (fun _ _ _ g h => RawQ.kp h g) ⟨_, _, rfl, hx1, ax1, hy1, ay1⟩, trivial⟩

set_option maxRecDepth 100000 in
theorem lifted (os : Os) (started : os.Started) (H : Type) (enc : TypeId × Value → H) :
    ReturnsInHanded {} Tryz.checked os 8 .any (fun w args => (Rows.ratioSumsSpec.pre enc Tryz.prog Tryz.f8 [] false w args ∧ laidMetH Tryz.prog Rows.ratioSumsRow.laid w) ∧ sizedMet enc Tryz.prog Tryz.f8 (OpenSpec.ofChange Rows.ratioSumsSpec) false w args) (Rows.ratioSumsSpec.post enc Tryz.prog Tryz.f8 false true false false) := by
  refine returnsInHanded_of_change_and (C := Tryz.checked) (X := fun w _ => laidMetH Tryz.prog Rows.ratioSumsRow.laid w) (fun _ _ _ hh h => h.of_heap hh) Tryz.own started (by kernel_rfl) Tryz.func8
    (ChangeSpec.witness_at (enc := enc) (C := Tryz.checked) (os := os) (X := fun w _ => laidMetH Tryz.prog Rows.ratioSumsRow.laid w) false (World.laidAll Tryz.prog os Rows.ratioSumsRow.laid) #[.agg #[.bool false, .slice none 0 0, .bool false, .slice none 0 0], .agg #[.bool false, .slice none 0 0, .bool false, .slice none 0 0]] 8 (World.laidAll_os _ _ _) (by kernel_rfl) (by kernel_rfl) (by kernel_rfl) (by kernel_rfl) (by kernel_rfl)
      (by rw [MakeChecks.laidMetH_plain _ _ _ (by kernel_rfl)]; exact laidMet_laidAll _ (by kernel_rfl) (by kernel_rfl))) ?_
  intro W base args ds gs before hval0 hW _ _ _ _
  have hval : ∀ (j : Nat) t v, Tryz.f8.params[j]? = some t → args[j]? = some v → Value.okWide Tryz.prog W .any base t v := hval0
  obtain ⟨p, q, hA0, hV, rfl, _, _⟩ := id hW
  have hA : DataW.TrodAll enc Tryz.prog W 0 (fun _ => true) true Tryz.f8.params.toList args.toList ds p := hA0
  rw [Tryz.params8] at hA hval
  obtain ⟨v0, vs0, d0, ds0, p0, q0, hargs, rfl, rfl, h0, r0⟩ := trodAll_cons hA
  obtain ⟨v1, vs1, d1, ds1, p1, q1, rfl, rfl, rfl, h1, r1⟩ := trodAll_cons r0
  obtain ⟨rfl, rfl, rfl⟩ := trodAll_nil r1
  obtain rfl : args = #[v0, v1] := by cases args; simp_all
  obtain ⟨b0, w0, b0', w0', xs0, ys0, rfl, s0, a0, s0', a0'⟩ := rat_of_trod h0 (hval 0 46 v0 rfl rfl)
  obtain ⟨b1, w1, b1', w1', xs1, ys1, rfl, s1, a1, s1', a1'⟩ := rat_of_trod h1 (hval 1 46 v1 rfl rfl)
  refine (walk s0 a0 s0' a0' s1 a1 s1' a1').mono fun e W' ⟨he, hg⟩ => ?_
  subst he
  refine ⟨_, rfl, law_post Tryz.laidOut rfl (by kernel_rfl) Tryz.underlying4 ?_ ?_ hW hg⟩
  · rw [Tryz.params8]; decide +kernel
  · rw [Tryz.params8]
    intro ds h
    match ds, h with
    | [_, _], _ => rfl

theorem row_holds : Rows.RatioSumsSaid :=
  OpenClaim.holds_of_wide 8 Tryz.f8 rfl rfl rfl rfl rfl rfl rfl ⟨rfl, rfl, rfl, rfl, rfl⟩ rfl rfl rfl rfl rfl (by kernel_rfl) Tryz.func8 (by kernel_rfl)
    (of_decide_eq_true (by kernel_rfl)) (by unfold Func.isWrapper; first | (rw [if_pos (by decide +kernel)]; kernel_rfl) | (rw [if_neg (by decide +kernel)]; exact ⟨rfl, rfl⟩))
    (fun os started H enc _ => lifted os started H enc)
theorem holds : Rows.RatioSumsCardSaid :=
  Claim7.holds_tied_plain_at .later [] Rows.ratioSumsCard.laidKinds true Rows.ratioSumsCard.stood.harness true
    row_holds (fun _ h => by cases h) (by kernel_rfl) (fun _ h => by cases h) ratioSums_row_tie rfl ⟨rfl, rfl⟩ (by kernel_rfl) rfl
    (fun f fn hf hfn => by
      obtain rfl : f = 8 := Option.some.inj ((show Tryz.prog.funcNamed "orrery/orrerylaw04.RatioSums" = some 8 by kernel_rfl).symm.trans hf) |>.symm
      obtain rfl : fn = Tryz.f8 := (Option.some.inj (Tryz.func8.symm.trans hfn)).symm
      exact ⟨by kernel_rfl, fun j t ht => by rw [Tryz.params8] at ht; exact stand_no t (by rcases j with _ | _ | _ | _ | _ | j <;> simp at ht <;> simp [← ht])⟩)
    (by kernel_rfl)

end Go.Proofs.YtckhcijknfkghaaGreatDoor.ratiosums
