/- The walks of RatioOrders, one for each order of the three. -/
import Derived.Test.YtckhcijknfkghaaGreatDoorRatM
namespace Go.Proofs.YtckhcijknfkghaaGreatDoor.ratioorders
open Go.ChangeShapes Go.WideShapes Go.ChangeAt Go.RowKit

open Go.Proofs.YtckhcijknfkghaaGreatDoor.Sym hiding val run start
theorem cmpQ_sw {q r : Rat} {t s : Int} (h : cmpQ q r = t) (e : -t = s) : cmpQ r q = s := by rw [cmpQ_swap, h, e]
theorem cmpQ_add {q r s : Rat} {t : Int} (h : cmpQ q r = t) : cmpQ (q + s) (r + s) = t := h ▸ cmpQ_congr (by constructor <;> intro h <;> grind) (by constructor <;> intro h <;> grind)
theorem cmpQ_ng {q r : Rat} {t s : Int} (h : cmpQ q r = t) (e : -t = s) : cmpQ (-q) (-r) = s := by
  rw [← cmpQ_sw h e]; exact cmpQ_congr (by constructor <;> intro h <;> grind) (by constructor <;> intro h <;> grind)
theorem cmpQ_pos {q r : Rat} {t : Int} (h : cmpQ q r = t) (e : -t > 0) : cmpQ r q > 0 := by rw [cmpQ_swap, h]; exact e
theorem cmpQ_npos {q r : Rat} {t : Int} (h : cmpQ q r = t) (e : ¬ -t > 0) : ¬ cmpQ r q > 0 := by rw [cmpQ_swap, h]; exact e
theorem max3_tt {q r s : Rat} (h1 : cmpQ r q > 0) (h2 : cmpQ s r > 0) : max3 q r s = s := by rw [max3, if_pos h1, if_pos h2]
theorem max3_tf {q r s : Rat} (h1 : cmpQ r q > 0) (h2 : ¬ cmpQ s r > 0) : max3 q r s = r := by rw [max3, if_pos h1, if_neg h2]
theorem max3_ft {q r s : Rat} (h1 : ¬ cmpQ r q > 0) (h2 : cmpQ s q > 0) : max3 q r s = s := by rw [max3, if_neg h1, if_pos h2]
theorem max3_ff {q r s : Rat} (h1 : ¬ cmpQ r q > 0) (h2 : ¬ cmpQ s q > 0) : max3 q r s = q := by rw [max3, if_neg h1, if_neg h2]
theorem cmpI_subq {q r : Rat} {t : Int} (h : cmpQ q r = t) : cmpI (q - r).num 0 = t := by
  rw [← h]
  unfold cmpI cmpQ
  have e1 : (q - r).num < 0 ↔ q < r := by
    have := Rat.num_nonneg (q := q - r)
    constructor
    · intro h; have h2 : ¬ 0 ≤ q - r := fun h3 => by have := this.2 h3; omega
      grind
    · intro h; have h2 : ¬ 0 ≤ (q - r).num := fun h3 => by have := this.1 h3; grind
      omega
  have e2 : (q - r).num = 0 ↔ q = r := by
    rw [Rat.num_eq_zero]; constructor <;> intro h <;> grind
  simp only [e1, e2]
theorem cmp3 (q r s : Rat) : (cmpQ q r = (-1) ∧ cmpQ r s = (-1) ∧ cmpQ q s = (-1)) ∨ (cmpQ q r = (-1) ∧ cmpQ r s = 0 ∧ cmpQ q s = (-1)) ∨ (cmpQ q r = (-1) ∧ cmpQ r s = 1 ∧ cmpQ q s = (-1)) ∨ (cmpQ q r = (-1) ∧ cmpQ r s = 1 ∧ cmpQ q s = 0) ∨ (cmpQ q r = (-1) ∧ cmpQ r s = 1 ∧ cmpQ q s = 1) ∨ (cmpQ q r = 0 ∧ cmpQ r s = (-1) ∧ cmpQ q s = (-1)) ∨ (cmpQ q r = 0 ∧ cmpQ r s = 0 ∧ cmpQ q s = 0) ∨ (cmpQ q r = 0 ∧ cmpQ r s = 1 ∧ cmpQ q s = 1) ∨ (cmpQ q r = 1 ∧ cmpQ r s = (-1) ∧ cmpQ q s = (-1)) ∨ (cmpQ q r = 1 ∧ cmpQ r s = (-1) ∧ cmpQ q s = 0) ∨ (cmpQ q r = 1 ∧ cmpQ r s = (-1) ∧ cmpQ q s = 1) ∨ (cmpQ q r = 1 ∧ cmpQ r s = 0 ∧ cmpQ q s = 1) ∨ (cmpQ q r = 1 ∧ cmpQ r s = 1 ∧ cmpQ q s = 1) := by
  have t : ∀ q r : Rat, (q < r ∧ cmpQ q r = -1) ∨ (q = r ∧ cmpQ q r = 0) ∨ (r < q ∧ cmpQ q r = 1) := fun q r => by
    rcases (show q < r ∨ q = r ∨ r < q by grind) with h | h | h
    · exact .inl ⟨h, cmpQ_lt h⟩
    · exact .inr (.inl ⟨h, cmpQ_eq h⟩)
    · exact .inr (.inr ⟨h, cmpQ_gt h⟩)
  rcases t q r with ⟨h1, e1⟩ | ⟨h1, e1⟩ | ⟨h1, e1⟩ <;> rcases t r s with ⟨h2, e2⟩ | ⟨h2, e2⟩ | ⟨h2, e2⟩ <;> rcases t q s with ⟨h3, e3⟩ | ⟨h3, e3⟩ | ⟨h3, e3⟩ <;> rw [e1, e2, e3] <;>
    first
    | decide
    | (exfalso; clear e1 e2 e3 t; grind)
def phi_path_lll (a0 b0 : Bool) (xs0 ys0 : List Nat) (z0 u0 : Int) (a1 b1 : Bool) (xs1 ys1 : List Nat) (z1 u1 : Int) (a2 b2 : Bool) (xs2 ys2 : List Nat) (z2 u2 : Int) : List (World → Value → Prop) := [fun w v => RawQ w v a0 xs0 b0 ys0, fun w v => RawQ w v a1 xs1 b1 ys1, fun w v => RawQ w v a2 xs2 b2 ys2, fun w v => RawQ w v a0 (xs0.take 3) b0 (ys0.take 3), fun w v => QV w v z0 u0 3, fun w v => IntV w v z0 3, fun w v => IntV w v u0 3, fun w v => DecQ w v (qOf z0 u0) (2 * 3 + 2), fun w v => DecI w v ((qOf z0 u0).num) (2 * 3 + 2), fun w v => DecI w v ((qOf z0 u0).den : Int) (2 * 3 + 2), fun w v => RawQ w v a1 (xs1.take 3) b1 (ys1.take 3), fun w v => QV w v z1 u1 3, fun w v => IntV w v z1 3, fun w v => IntV w v u1 3, fun w v => DecQ w v (qOf z1 u1) (2 * 3 + 2), fun w v => DecI w v ((qOf z1 u1).num) (2 * 3 + 2), fun w v => DecI w v ((qOf z1 u1).den : Int) (2 * 3 + 2), fun w v => RawQ w v a2 (xs2.take 3) b2 (ys2.take 3), fun w v => QV w v z2 u2 3, fun w v => IntV w v z2 3, fun w v => IntV w v u2 3, fun w v => DecQ w v (qOf z2 u2) (2 * 3 + 2), fun w v => DecI w v ((qOf z2 u2).num) (2 * 3 + 2), fun w v => DecI w v ((qOf z2 u2).den : Int) (2 * 3 + 2), fun w v => NorQ w v ((qOf z0 u0) + (qOf z2 u2)) (2 * (3 + 3) + 9), fun w v => NorV w v (((qOf z0 u0) + (qOf z2 u2)).num) (2 * (3 + 3) + 9), fun w v => NorV w v (((qOf z0 u0) + (qOf z2 u2)).den : Int) (2 * (3 + 3) + 9), fun w v => NorQ w v ((qOf z1 u1) + (qOf z2 u2)) (2 * (3 + 3) + 9), fun w v => NorV w v (((qOf z1 u1) + (qOf z2 u2)).num) (2 * (3 + 3) + 9), fun w v => NorV w v (((qOf z1 u1) + (qOf z2 u2)).den : Int) (2 * (3 + 3) + 9), fun w v => NorQ w v (-(qOf z0 u0)) (3 + 2), fun w v => NorV w v ((-(qOf z0 u0)).num) (3 + 2), fun w v => NorV w v ((-(qOf z0 u0)).den : Int) (3 + 2), fun w v => NorQ w v (-(qOf z1 u1)) (3 + 2), fun w v => NorV w v ((-(qOf z1 u1)).num) (3 + 2), fun w v => NorV w v ((-(qOf z1 u1)).den : Int) (3 + 2), fun w v => NorQ w v (qOf z2 u2) (3 + 3 + 3 + 2), fun w v => NorV w v ((qOf z2 u2).num) (3 + 3 + 3 + 2), fun w v => NorV w v ((qOf z2 u2).den : Int) (3 + 3 + 3 + 2), fun w v => NorQ w v ((qOf z0 u0) - (qOf z1 u1)) (2 * (3 + 3) + 9), fun w v => NorV w v (((qOf z0 u0) - (qOf z1 u1)).num) (2 * (3 + 3) + 9), fun w v => NorV w v (((qOf z0 u0) - (qOf z1 u1)).den : Int) (2 * (3 + 3) + 9)]
def ins_path_lll : List Out := [⟨.agg [.b, .s, .b, .s], [(0, 0, 0)]⟩, ⟨.agg [.b, .s, .b, .s], [(0, 0, 1)]⟩, ⟨.agg [.b, .s, .b, .s], [(0, 0, 2)]⟩]
def ss_path_lll : List Site := [⟨30, [.fact 0, .lit (.ci .i64 3)], [⟨.agg [.b, .s, .b, .s], [(0, 0, 3), (0, 0, 4), (0, 2, 5), (2, 2, 6)]⟩, ⟨.agg [.s, .b, .s, .b], [(0, 0, 7), (0, 2, 8), (2, 2, 9)]⟩], true⟩,
      ⟨30, [.fact 1, .lit (.ci .i64 3)], [⟨.agg [.b, .s, .b, .s], [(0, 0, 10), (0, 0, 11), (0, 2, 12), (2, 2, 13)]⟩, ⟨.agg [.s, .b, .s, .b], [(0, 0, 14), (0, 2, 15), (2, 2, 16)]⟩], true⟩,
      ⟨30, [.fact 2, .lit (.ci .i64 3)], [⟨.agg [.b, .s, .b, .s], [(0, 0, 17), (0, 0, 18), (0, 2, 19), (2, 2, 20)]⟩, ⟨.agg [.s, .b, .s, .b], [(0, 0, 21), (0, 2, 22), (2, 2, 23)]⟩], true⟩,
      ⟨43, [.fact 4, .fact 11], [⟨.one (.lit (.ci .i64 (-1))), []⟩], false⟩,
      ⟨43, [.fact 11, .fact 18], [⟨.one (.lit (.ci .i64 (-1))), []⟩], false⟩,
      ⟨43, [.fact 4, .fact 18], [⟨.one (.lit (.ci .i64 (-1))), []⟩], false⟩,
      ⟨43, [.fact 11, .fact 4], [⟨.one (.lit (.ci .i64 1)), []⟩], false⟩,
      ⟨34, [.fact 4, .fact 18], [⟨.agg [.b, .s, .b, .s], [(0, 0, 24), (0, 2, 25), (2, 2, 26)]⟩], false⟩,
      ⟨34, [.fact 11, .fact 18], [⟨.agg [.b, .s, .b, .s], [(0, 0, 27), (0, 2, 28), (2, 2, 29)]⟩], false⟩,
      ⟨43, [.fact 24, .fact 27], [⟨.one (.lit (.ci .i64 (-1))), []⟩], false⟩,
      ⟨40, [.fact 4], [⟨.agg [.b, .s, .b, .s], [(0, 0, 30), (0, 2, 31), (2, 2, 32)]⟩], false⟩,
      ⟨40, [.fact 11], [⟨.agg [.b, .s, .b, .s], [(0, 0, 33), (0, 2, 34), (2, 2, 35)]⟩], false⟩,
      ⟨43, [.fact 30, .fact 33], [⟨.one (.lit (.ci .i64 1)), []⟩], false⟩,
      ⟨54, [.fact 4, .row 4 [11, 18]], [⟨.agg [.b, .s, .b, .s], [(0, 0, 36), (0, 2, 37), (2, 2, 38)]⟩], false⟩,
      ⟨43, [.fact 36, .fact 4], [⟨.one (.lit (.ci .i64 1)), []⟩], false⟩,
      ⟨43, [.fact 36, .fact 11], [⟨.one (.lit (.ci .i64 1)), []⟩], false⟩,
      ⟨43, [.fact 36, .fact 18], [⟨.one (.lit (.ci .i64 0)), []⟩], false⟩,
      ⟨43, [.fact 36, .fact 4], [⟨.one (.lit (.ci .i64 1)), []⟩], false⟩,
      ⟨43, [.fact 36, .fact 11], [⟨.one (.lit (.ci .i64 1)), []⟩], false⟩,
      ⟨43, [.fact 36, .fact 18], [⟨.one (.lit (.ci .i64 0)), []⟩], false⟩,
      ⟨36, [.fact 4, .fact 11], [⟨.agg [.b, .s, .b, .s], [(0, 0, 39), (0, 2, 40), (2, 2, 41)]⟩], false⟩,
      ⟨60, [.fact 40], [⟨.one (.lit (.ci .i64 (-1))), []⟩], false⟩,
      ⟨51, [], [⟨.one (.lit (.cb true)), []⟩], false⟩]
set_option maxRecDepth 100000 in
theorem path_lll {a0 b0 : Bool} {xs0 ys0 : List Nat} {z0 u0 : Int} (hz0 : sg a0 (Proofs.YtckhcijknfkghaaGreatDoor.val 4294967296 (xs0.take 3)) = z0) (hu0 : sg b0 (Proofs.YtckhcijknfkghaaGreatDoor.val 4294967296 (ys0.take 3)) = u0) {a1 b1 : Bool} {xs1 ys1 : List Nat} {z1 u1 : Int} (hz1 : sg a1 (Proofs.YtckhcijknfkghaaGreatDoor.val 4294967296 (xs1.take 3)) = z1) (hu1 : sg b1 (Proofs.YtckhcijknfkghaaGreatDoor.val 4294967296 (ys1.take 3)) = u1) {a2 b2 : Bool} {xs2 ys2 : List Nat} {z2 u2 : Int} (hz2 : sg a2 (Proofs.YtckhcijknfkghaaGreatDoor.val 4294967296 (xs2.take 3)) = z2) (hu2 : sg b2 (Proofs.YtckhcijknfkghaaGreatDoor.val 4294967296 (ys2.take 3)) = u2) (h1 : cmpQ (qOf z0 u0) (qOf z1 u1) = (-1)) (h2 : cmpQ (qOf z1 u1) (qOf z2 u2) = (-1)) (h3 : cmpQ (qOf z0 u0) (qOf z2 u2) = (-1)) : SiteOk (ph (phi_path_lll a0 b0 xs0 ys0 z0 u0 a1 b1 xs1 ys1 z1 u1 a2 b2 xs2 ys2 z2 u2)) Tryz.prog ⟨13, [.fact 0, .fact 1, .fact 2], [⟨.one (.lit (.cb true)), []⟩], false⟩ :=
  fn_ok ins_path_lll [⟨.one (.lit (.cb true)), []⟩] ss_path_lll
    Tryz.func13 (by kernel_rfl)
    (all_cons (sOfQ 3 rfl (fun _ _ h => h) rfl rfl rfl rfl rfl rfl rfl (by omega) hz0 hu0)
      (all_cons (sOfQ 3 rfl (fun _ _ h => h) rfl rfl rfl rfl rfl rfl rfl (by omega) hz1 hu1)
      (all_cons (sOfQ 3 rfl (fun _ _ h => h) rfl rfl rfl rfl rfl rfl rfl (by omega) hz2 hu2)
      (all_cons (sRCmp vQ vQ (by omega) h1)
      (all_cons (sRCmp vQ vQ (by omega) h2)
      (all_cons (sRCmp vQ vQ (by omega) h3)
      (all_cons (sRCmp vQ vQ (by omega) (cmpQ_sw h1 rfl))
      (all_cons (sRAdd vQ vQ rfl rfl rfl (by omega) rfl)
      (all_cons (sRAdd vQ vQ rfl rfl rfl (by omega) rfl)
      (all_cons (sRCmp pQ pQ (by omega) (cmpQ_add h1))
      (all_cons (sRNeg vQ rfl rfl rfl (by omega) rfl)
      (all_cons (sRNeg vQ rfl rfl rfl (by omega) rfl)
      (all_cons (sRCmp pQ pQ (by omega) (cmpQ_ng h1 rfl))
      (all_cons (sMax3 (fun _ _ h => h) (fun _ _ h => h) (fun _ _ h => h) rfl rfl rfl (by omega) (max3_tt (cmpQ_pos h1 (by decide)) (cmpQ_pos h2 (by decide))))
      (all_cons (sRCmp pQ vQ (by omega) (cmpQ_sw h3 rfl))
      (all_cons (sRCmp pQ vQ (by omega) (cmpQ_sw h2 rfl))
      (all_cons (sRCmp pQ vQ (by omega) (cmpQ_eq rfl))
      (all_cons (sRCmp pQ vQ (by omega) (cmpQ_sw h3 rfl))
      (all_cons (sRCmp pQ vQ (by omega) (cmpQ_sw h2 rfl))
      (all_cons (sRCmp pQ vQ (by omega) (cmpQ_eq rfl))
      (all_cons (sRSub vQ vQ rfl rfl rfl (by omega) rfl)
      (all_cons (sISign nN (cmpI_subq h1))
      (all_cons (sWakes4)
      all_nil)))))))))))))))))))))))
    (ins_ok [.fact 0 qS, .fact 1 qS, .fact 2 qS] ⟨fun _ _ h => RawQ.is h, fun _ _ h => RawQ.is h, fun _ _ h => RawQ.is h, trivial⟩) (fun _ _ _ h => h)

def phi_path_lel (a0 b0 : Bool) (xs0 ys0 : List Nat) (z0 u0 : Int) (a1 b1 : Bool) (xs1 ys1 : List Nat) (z1 u1 : Int) (a2 b2 : Bool) (xs2 ys2 : List Nat) (z2 u2 : Int) : List (World → Value → Prop) := [fun w v => RawQ w v a0 xs0 b0 ys0, fun w v => RawQ w v a1 xs1 b1 ys1, fun w v => RawQ w v a2 xs2 b2 ys2, fun w v => RawQ w v a0 (xs0.take 3) b0 (ys0.take 3), fun w v => QV w v z0 u0 3, fun w v => IntV w v z0 3, fun w v => IntV w v u0 3, fun w v => DecQ w v (qOf z0 u0) (2 * 3 + 2), fun w v => DecI w v ((qOf z0 u0).num) (2 * 3 + 2), fun w v => DecI w v ((qOf z0 u0).den : Int) (2 * 3 + 2), fun w v => RawQ w v a1 (xs1.take 3) b1 (ys1.take 3), fun w v => QV w v z1 u1 3, fun w v => IntV w v z1 3, fun w v => IntV w v u1 3, fun w v => DecQ w v (qOf z1 u1) (2 * 3 + 2), fun w v => DecI w v ((qOf z1 u1).num) (2 * 3 + 2), fun w v => DecI w v ((qOf z1 u1).den : Int) (2 * 3 + 2), fun w v => RawQ w v a2 (xs2.take 3) b2 (ys2.take 3), fun w v => QV w v z2 u2 3, fun w v => IntV w v z2 3, fun w v => IntV w v u2 3, fun w v => DecQ w v (qOf z2 u2) (2 * 3 + 2), fun w v => DecI w v ((qOf z2 u2).num) (2 * 3 + 2), fun w v => DecI w v ((qOf z2 u2).den : Int) (2 * 3 + 2), fun w v => NorQ w v ((qOf z0 u0) + (qOf z2 u2)) (2 * (3 + 3) + 9), fun w v => NorV w v (((qOf z0 u0) + (qOf z2 u2)).num) (2 * (3 + 3) + 9), fun w v => NorV w v (((qOf z0 u0) + (qOf z2 u2)).den : Int) (2 * (3 + 3) + 9), fun w v => NorQ w v ((qOf z1 u1) + (qOf z2 u2)) (2 * (3 + 3) + 9), fun w v => NorV w v (((qOf z1 u1) + (qOf z2 u2)).num) (2 * (3 + 3) + 9), fun w v => NorV w v (((qOf z1 u1) + (qOf z2 u2)).den : Int) (2 * (3 + 3) + 9), fun w v => NorQ w v (-(qOf z0 u0)) (3 + 2), fun w v => NorV w v ((-(qOf z0 u0)).num) (3 + 2), fun w v => NorV w v ((-(qOf z0 u0)).den : Int) (3 + 2), fun w v => NorQ w v (-(qOf z1 u1)) (3 + 2), fun w v => NorV w v ((-(qOf z1 u1)).num) (3 + 2), fun w v => NorV w v ((-(qOf z1 u1)).den : Int) (3 + 2), fun w v => NorQ w v (qOf z1 u1) (3 + 3 + 3 + 2), fun w v => NorV w v ((qOf z1 u1).num) (3 + 3 + 3 + 2), fun w v => NorV w v ((qOf z1 u1).den : Int) (3 + 3 + 3 + 2), fun w v => NorQ w v ((qOf z0 u0) - (qOf z1 u1)) (2 * (3 + 3) + 9), fun w v => NorV w v (((qOf z0 u0) - (qOf z1 u1)).num) (2 * (3 + 3) + 9), fun w v => NorV w v (((qOf z0 u0) - (qOf z1 u1)).den : Int) (2 * (3 + 3) + 9)]
def ins_path_lel : List Out := [⟨.agg [.b, .s, .b, .s], [(0, 0, 0)]⟩, ⟨.agg [.b, .s, .b, .s], [(0, 0, 1)]⟩, ⟨.agg [.b, .s, .b, .s], [(0, 0, 2)]⟩]
def ss_path_lel : List Site := [⟨30, [.fact 0, .lit (.ci .i64 3)], [⟨.agg [.b, .s, .b, .s], [(0, 0, 3), (0, 0, 4), (0, 2, 5), (2, 2, 6)]⟩, ⟨.agg [.s, .b, .s, .b], [(0, 0, 7), (0, 2, 8), (2, 2, 9)]⟩], true⟩,
      ⟨30, [.fact 1, .lit (.ci .i64 3)], [⟨.agg [.b, .s, .b, .s], [(0, 0, 10), (0, 0, 11), (0, 2, 12), (2, 2, 13)]⟩, ⟨.agg [.s, .b, .s, .b], [(0, 0, 14), (0, 2, 15), (2, 2, 16)]⟩], true⟩,
      ⟨30, [.fact 2, .lit (.ci .i64 3)], [⟨.agg [.b, .s, .b, .s], [(0, 0, 17), (0, 0, 18), (0, 2, 19), (2, 2, 20)]⟩, ⟨.agg [.s, .b, .s, .b], [(0, 0, 21), (0, 2, 22), (2, 2, 23)]⟩], true⟩,
      ⟨43, [.fact 4, .fact 11], [⟨.one (.lit (.ci .i64 (-1))), []⟩], false⟩,
      ⟨43, [.fact 11, .fact 18], [⟨.one (.lit (.ci .i64 0)), []⟩], false⟩,
      ⟨43, [.fact 4, .fact 18], [⟨.one (.lit (.ci .i64 (-1))), []⟩], false⟩,
      ⟨43, [.fact 11, .fact 4], [⟨.one (.lit (.ci .i64 1)), []⟩], false⟩,
      ⟨34, [.fact 4, .fact 18], [⟨.agg [.b, .s, .b, .s], [(0, 0, 24), (0, 2, 25), (2, 2, 26)]⟩], false⟩,
      ⟨34, [.fact 11, .fact 18], [⟨.agg [.b, .s, .b, .s], [(0, 0, 27), (0, 2, 28), (2, 2, 29)]⟩], false⟩,
      ⟨43, [.fact 24, .fact 27], [⟨.one (.lit (.ci .i64 (-1))), []⟩], false⟩,
      ⟨40, [.fact 4], [⟨.agg [.b, .s, .b, .s], [(0, 0, 30), (0, 2, 31), (2, 2, 32)]⟩], false⟩,
      ⟨40, [.fact 11], [⟨.agg [.b, .s, .b, .s], [(0, 0, 33), (0, 2, 34), (2, 2, 35)]⟩], false⟩,
      ⟨43, [.fact 30, .fact 33], [⟨.one (.lit (.ci .i64 1)), []⟩], false⟩,
      ⟨54, [.fact 4, .row 4 [11, 18]], [⟨.agg [.b, .s, .b, .s], [(0, 0, 36), (0, 2, 37), (2, 2, 38)]⟩], false⟩,
      ⟨43, [.fact 36, .fact 4], [⟨.one (.lit (.ci .i64 1)), []⟩], false⟩,
      ⟨43, [.fact 36, .fact 11], [⟨.one (.lit (.ci .i64 0)), []⟩], false⟩,
      ⟨43, [.fact 36, .fact 18], [⟨.one (.lit (.ci .i64 0)), []⟩], false⟩,
      ⟨43, [.fact 36, .fact 4], [⟨.one (.lit (.ci .i64 1)), []⟩], false⟩,
      ⟨43, [.fact 36, .fact 11], [⟨.one (.lit (.ci .i64 0)), []⟩], false⟩,
      ⟨36, [.fact 4, .fact 11], [⟨.agg [.b, .s, .b, .s], [(0, 0, 39), (0, 2, 40), (2, 2, 41)]⟩], false⟩,
      ⟨60, [.fact 40], [⟨.one (.lit (.ci .i64 (-1))), []⟩], false⟩,
      ⟨51, [], [⟨.one (.lit (.cb true)), []⟩], false⟩]
set_option maxRecDepth 100000 in
theorem path_lel {a0 b0 : Bool} {xs0 ys0 : List Nat} {z0 u0 : Int} (hz0 : sg a0 (Proofs.YtckhcijknfkghaaGreatDoor.val 4294967296 (xs0.take 3)) = z0) (hu0 : sg b0 (Proofs.YtckhcijknfkghaaGreatDoor.val 4294967296 (ys0.take 3)) = u0) {a1 b1 : Bool} {xs1 ys1 : List Nat} {z1 u1 : Int} (hz1 : sg a1 (Proofs.YtckhcijknfkghaaGreatDoor.val 4294967296 (xs1.take 3)) = z1) (hu1 : sg b1 (Proofs.YtckhcijknfkghaaGreatDoor.val 4294967296 (ys1.take 3)) = u1) {a2 b2 : Bool} {xs2 ys2 : List Nat} {z2 u2 : Int} (hz2 : sg a2 (Proofs.YtckhcijknfkghaaGreatDoor.val 4294967296 (xs2.take 3)) = z2) (hu2 : sg b2 (Proofs.YtckhcijknfkghaaGreatDoor.val 4294967296 (ys2.take 3)) = u2) (h1 : cmpQ (qOf z0 u0) (qOf z1 u1) = (-1)) (h2 : cmpQ (qOf z1 u1) (qOf z2 u2) = 0) (h3 : cmpQ (qOf z0 u0) (qOf z2 u2) = (-1)) : SiteOk (ph (phi_path_lel a0 b0 xs0 ys0 z0 u0 a1 b1 xs1 ys1 z1 u1 a2 b2 xs2 ys2 z2 u2)) Tryz.prog ⟨13, [.fact 0, .fact 1, .fact 2], [⟨.one (.lit (.cb true)), []⟩], false⟩ :=
  fn_ok ins_path_lel [⟨.one (.lit (.cb true)), []⟩] ss_path_lel
    Tryz.func13 (by kernel_rfl)
    (all_cons (sOfQ 3 rfl (fun _ _ h => h) rfl rfl rfl rfl rfl rfl rfl (by omega) hz0 hu0)
      (all_cons (sOfQ 3 rfl (fun _ _ h => h) rfl rfl rfl rfl rfl rfl rfl (by omega) hz1 hu1)
      (all_cons (sOfQ 3 rfl (fun _ _ h => h) rfl rfl rfl rfl rfl rfl rfl (by omega) hz2 hu2)
      (all_cons (sRCmp vQ vQ (by omega) h1)
      (all_cons (sRCmp vQ vQ (by omega) h2)
      (all_cons (sRCmp vQ vQ (by omega) h3)
      (all_cons (sRCmp vQ vQ (by omega) (cmpQ_sw h1 rfl))
      (all_cons (sRAdd vQ vQ rfl rfl rfl (by omega) rfl)
      (all_cons (sRAdd vQ vQ rfl rfl rfl (by omega) rfl)
      (all_cons (sRCmp pQ pQ (by omega) (cmpQ_add h1))
      (all_cons (sRNeg vQ rfl rfl rfl (by omega) rfl)
      (all_cons (sRNeg vQ rfl rfl rfl (by omega) rfl)
      (all_cons (sRCmp pQ pQ (by omega) (cmpQ_ng h1 rfl))
      (all_cons (sMax3 (fun _ _ h => h) (fun _ _ h => h) (fun _ _ h => h) rfl rfl rfl (by omega) (max3_tf (cmpQ_pos h1 (by decide)) (cmpQ_npos h2 (by decide))))
      (all_cons (sRCmp pQ vQ (by omega) (cmpQ_sw h1 rfl))
      (all_cons (sRCmp pQ vQ (by omega) (cmpQ_eq rfl))
      (all_cons (sRCmp pQ vQ (by omega) h2)
      (all_cons (sRCmp pQ vQ (by omega) (cmpQ_sw h1 rfl))
      (all_cons (sRCmp pQ vQ (by omega) (cmpQ_eq rfl))
      (all_cons (sRSub vQ vQ rfl rfl rfl (by omega) rfl)
      (all_cons (sISign nN (cmpI_subq h1))
      (all_cons (sWakes4)
      all_nil))))))))))))))))))))))
    (ins_ok [.fact 0 qS, .fact 1 qS, .fact 2 qS] ⟨fun _ _ h => RawQ.is h, fun _ _ h => RawQ.is h, fun _ _ h => RawQ.is h, trivial⟩) (fun _ _ _ h => h)

def phi_path_lgl (a0 b0 : Bool) (xs0 ys0 : List Nat) (z0 u0 : Int) (a1 b1 : Bool) (xs1 ys1 : List Nat) (z1 u1 : Int) (a2 b2 : Bool) (xs2 ys2 : List Nat) (z2 u2 : Int) : List (World → Value → Prop) := [fun w v => RawQ w v a0 xs0 b0 ys0, fun w v => RawQ w v a1 xs1 b1 ys1, fun w v => RawQ w v a2 xs2 b2 ys2, fun w v => RawQ w v a0 (xs0.take 3) b0 (ys0.take 3), fun w v => QV w v z0 u0 3, fun w v => IntV w v z0 3, fun w v => IntV w v u0 3, fun w v => DecQ w v (qOf z0 u0) (2 * 3 + 2), fun w v => DecI w v ((qOf z0 u0).num) (2 * 3 + 2), fun w v => DecI w v ((qOf z0 u0).den : Int) (2 * 3 + 2), fun w v => RawQ w v a1 (xs1.take 3) b1 (ys1.take 3), fun w v => QV w v z1 u1 3, fun w v => IntV w v z1 3, fun w v => IntV w v u1 3, fun w v => DecQ w v (qOf z1 u1) (2 * 3 + 2), fun w v => DecI w v ((qOf z1 u1).num) (2 * 3 + 2), fun w v => DecI w v ((qOf z1 u1).den : Int) (2 * 3 + 2), fun w v => RawQ w v a2 (xs2.take 3) b2 (ys2.take 3), fun w v => QV w v z2 u2 3, fun w v => IntV w v z2 3, fun w v => IntV w v u2 3, fun w v => DecQ w v (qOf z2 u2) (2 * 3 + 2), fun w v => DecI w v ((qOf z2 u2).num) (2 * 3 + 2), fun w v => DecI w v ((qOf z2 u2).den : Int) (2 * 3 + 2), fun w v => NorQ w v ((qOf z0 u0) + (qOf z2 u2)) (2 * (3 + 3) + 9), fun w v => NorV w v (((qOf z0 u0) + (qOf z2 u2)).num) (2 * (3 + 3) + 9), fun w v => NorV w v (((qOf z0 u0) + (qOf z2 u2)).den : Int) (2 * (3 + 3) + 9), fun w v => NorQ w v ((qOf z1 u1) + (qOf z2 u2)) (2 * (3 + 3) + 9), fun w v => NorV w v (((qOf z1 u1) + (qOf z2 u2)).num) (2 * (3 + 3) + 9), fun w v => NorV w v (((qOf z1 u1) + (qOf z2 u2)).den : Int) (2 * (3 + 3) + 9), fun w v => NorQ w v (-(qOf z0 u0)) (3 + 2), fun w v => NorV w v ((-(qOf z0 u0)).num) (3 + 2), fun w v => NorV w v ((-(qOf z0 u0)).den : Int) (3 + 2), fun w v => NorQ w v (-(qOf z1 u1)) (3 + 2), fun w v => NorV w v ((-(qOf z1 u1)).num) (3 + 2), fun w v => NorV w v ((-(qOf z1 u1)).den : Int) (3 + 2), fun w v => NorQ w v (qOf z1 u1) (3 + 3 + 3 + 2), fun w v => NorV w v ((qOf z1 u1).num) (3 + 3 + 3 + 2), fun w v => NorV w v ((qOf z1 u1).den : Int) (3 + 3 + 3 + 2), fun w v => NorQ w v ((qOf z0 u0) - (qOf z1 u1)) (2 * (3 + 3) + 9), fun w v => NorV w v (((qOf z0 u0) - (qOf z1 u1)).num) (2 * (3 + 3) + 9), fun w v => NorV w v (((qOf z0 u0) - (qOf z1 u1)).den : Int) (2 * (3 + 3) + 9)]
def ins_path_lgl : List Out := [⟨.agg [.b, .s, .b, .s], [(0, 0, 0)]⟩, ⟨.agg [.b, .s, .b, .s], [(0, 0, 1)]⟩, ⟨.agg [.b, .s, .b, .s], [(0, 0, 2)]⟩]
def ss_path_lgl : List Site := [⟨30, [.fact 0, .lit (.ci .i64 3)], [⟨.agg [.b, .s, .b, .s], [(0, 0, 3), (0, 0, 4), (0, 2, 5), (2, 2, 6)]⟩, ⟨.agg [.s, .b, .s, .b], [(0, 0, 7), (0, 2, 8), (2, 2, 9)]⟩], true⟩,
      ⟨30, [.fact 1, .lit (.ci .i64 3)], [⟨.agg [.b, .s, .b, .s], [(0, 0, 10), (0, 0, 11), (0, 2, 12), (2, 2, 13)]⟩, ⟨.agg [.s, .b, .s, .b], [(0, 0, 14), (0, 2, 15), (2, 2, 16)]⟩], true⟩,
      ⟨30, [.fact 2, .lit (.ci .i64 3)], [⟨.agg [.b, .s, .b, .s], [(0, 0, 17), (0, 0, 18), (0, 2, 19), (2, 2, 20)]⟩, ⟨.agg [.s, .b, .s, .b], [(0, 0, 21), (0, 2, 22), (2, 2, 23)]⟩], true⟩,
      ⟨43, [.fact 4, .fact 11], [⟨.one (.lit (.ci .i64 (-1))), []⟩], false⟩,
      ⟨43, [.fact 11, .fact 18], [⟨.one (.lit (.ci .i64 1)), []⟩], false⟩,
      ⟨43, [.fact 4, .fact 18], [⟨.one (.lit (.ci .i64 (-1))), []⟩], false⟩,
      ⟨43, [.fact 11, .fact 4], [⟨.one (.lit (.ci .i64 1)), []⟩], false⟩,
      ⟨34, [.fact 4, .fact 18], [⟨.agg [.b, .s, .b, .s], [(0, 0, 24), (0, 2, 25), (2, 2, 26)]⟩], false⟩,
      ⟨34, [.fact 11, .fact 18], [⟨.agg [.b, .s, .b, .s], [(0, 0, 27), (0, 2, 28), (2, 2, 29)]⟩], false⟩,
      ⟨43, [.fact 24, .fact 27], [⟨.one (.lit (.ci .i64 (-1))), []⟩], false⟩,
      ⟨40, [.fact 4], [⟨.agg [.b, .s, .b, .s], [(0, 0, 30), (0, 2, 31), (2, 2, 32)]⟩], false⟩,
      ⟨40, [.fact 11], [⟨.agg [.b, .s, .b, .s], [(0, 0, 33), (0, 2, 34), (2, 2, 35)]⟩], false⟩,
      ⟨43, [.fact 30, .fact 33], [⟨.one (.lit (.ci .i64 1)), []⟩], false⟩,
      ⟨54, [.fact 4, .row 4 [11, 18]], [⟨.agg [.b, .s, .b, .s], [(0, 0, 36), (0, 2, 37), (2, 2, 38)]⟩], false⟩,
      ⟨43, [.fact 36, .fact 4], [⟨.one (.lit (.ci .i64 1)), []⟩], false⟩,
      ⟨43, [.fact 36, .fact 11], [⟨.one (.lit (.ci .i64 0)), []⟩], false⟩,
      ⟨43, [.fact 36, .fact 18], [⟨.one (.lit (.ci .i64 1)), []⟩], false⟩,
      ⟨43, [.fact 36, .fact 4], [⟨.one (.lit (.ci .i64 1)), []⟩], false⟩,
      ⟨43, [.fact 36, .fact 11], [⟨.one (.lit (.ci .i64 0)), []⟩], false⟩,
      ⟨36, [.fact 4, .fact 11], [⟨.agg [.b, .s, .b, .s], [(0, 0, 39), (0, 2, 40), (2, 2, 41)]⟩], false⟩,
      ⟨60, [.fact 40], [⟨.one (.lit (.ci .i64 (-1))), []⟩], false⟩,
      ⟨51, [], [⟨.one (.lit (.cb true)), []⟩], false⟩]
set_option maxRecDepth 100000 in
theorem path_lgl {a0 b0 : Bool} {xs0 ys0 : List Nat} {z0 u0 : Int} (hz0 : sg a0 (Proofs.YtckhcijknfkghaaGreatDoor.val 4294967296 (xs0.take 3)) = z0) (hu0 : sg b0 (Proofs.YtckhcijknfkghaaGreatDoor.val 4294967296 (ys0.take 3)) = u0) {a1 b1 : Bool} {xs1 ys1 : List Nat} {z1 u1 : Int} (hz1 : sg a1 (Proofs.YtckhcijknfkghaaGreatDoor.val 4294967296 (xs1.take 3)) = z1) (hu1 : sg b1 (Proofs.YtckhcijknfkghaaGreatDoor.val 4294967296 (ys1.take 3)) = u1) {a2 b2 : Bool} {xs2 ys2 : List Nat} {z2 u2 : Int} (hz2 : sg a2 (Proofs.YtckhcijknfkghaaGreatDoor.val 4294967296 (xs2.take 3)) = z2) (hu2 : sg b2 (Proofs.YtckhcijknfkghaaGreatDoor.val 4294967296 (ys2.take 3)) = u2) (h1 : cmpQ (qOf z0 u0) (qOf z1 u1) = (-1)) (h2 : cmpQ (qOf z1 u1) (qOf z2 u2) = 1) (h3 : cmpQ (qOf z0 u0) (qOf z2 u2) = (-1)) : SiteOk (ph (phi_path_lgl a0 b0 xs0 ys0 z0 u0 a1 b1 xs1 ys1 z1 u1 a2 b2 xs2 ys2 z2 u2)) Tryz.prog ⟨13, [.fact 0, .fact 1, .fact 2], [⟨.one (.lit (.cb true)), []⟩], false⟩ :=
  fn_ok ins_path_lgl [⟨.one (.lit (.cb true)), []⟩] ss_path_lgl
    Tryz.func13 (by kernel_rfl)
    (all_cons (sOfQ 3 rfl (fun _ _ h => h) rfl rfl rfl rfl rfl rfl rfl (by omega) hz0 hu0)
      (all_cons (sOfQ 3 rfl (fun _ _ h => h) rfl rfl rfl rfl rfl rfl rfl (by omega) hz1 hu1)
      (all_cons (sOfQ 3 rfl (fun _ _ h => h) rfl rfl rfl rfl rfl rfl rfl (by omega) hz2 hu2)
      (all_cons (sRCmp vQ vQ (by omega) h1)
      (all_cons (sRCmp vQ vQ (by omega) h2)
      (all_cons (sRCmp vQ vQ (by omega) h3)
      (all_cons (sRCmp vQ vQ (by omega) (cmpQ_sw h1 rfl))
      (all_cons (sRAdd vQ vQ rfl rfl rfl (by omega) rfl)
      (all_cons (sRAdd vQ vQ rfl rfl rfl (by omega) rfl)
      (all_cons (sRCmp pQ pQ (by omega) (cmpQ_add h1))
      (all_cons (sRNeg vQ rfl rfl rfl (by omega) rfl)
      (all_cons (sRNeg vQ rfl rfl rfl (by omega) rfl)
      (all_cons (sRCmp pQ pQ (by omega) (cmpQ_ng h1 rfl))
      (all_cons (sMax3 (fun _ _ h => h) (fun _ _ h => h) (fun _ _ h => h) rfl rfl rfl (by omega) (max3_tf (cmpQ_pos h1 (by decide)) (cmpQ_npos h2 (by decide))))
      (all_cons (sRCmp pQ vQ (by omega) (cmpQ_sw h1 rfl))
      (all_cons (sRCmp pQ vQ (by omega) (cmpQ_eq rfl))
      (all_cons (sRCmp pQ vQ (by omega) h2)
      (all_cons (sRCmp pQ vQ (by omega) (cmpQ_sw h1 rfl))
      (all_cons (sRCmp pQ vQ (by omega) (cmpQ_eq rfl))
      (all_cons (sRSub vQ vQ rfl rfl rfl (by omega) rfl)
      (all_cons (sISign nN (cmpI_subq h1))
      (all_cons (sWakes4)
      all_nil))))))))))))))))))))))
    (ins_ok [.fact 0 qS, .fact 1 qS, .fact 2 qS] ⟨fun _ _ h => RawQ.is h, fun _ _ h => RawQ.is h, fun _ _ h => RawQ.is h, trivial⟩) (fun _ _ _ h => h)

def phi_path_lge (a0 b0 : Bool) (xs0 ys0 : List Nat) (z0 u0 : Int) (a1 b1 : Bool) (xs1 ys1 : List Nat) (z1 u1 : Int) (a2 b2 : Bool) (xs2 ys2 : List Nat) (z2 u2 : Int) : List (World → Value → Prop) := [fun w v => RawQ w v a0 xs0 b0 ys0, fun w v => RawQ w v a1 xs1 b1 ys1, fun w v => RawQ w v a2 xs2 b2 ys2, fun w v => RawQ w v a0 (xs0.take 3) b0 (ys0.take 3), fun w v => QV w v z0 u0 3, fun w v => IntV w v z0 3, fun w v => IntV w v u0 3, fun w v => DecQ w v (qOf z0 u0) (2 * 3 + 2), fun w v => DecI w v ((qOf z0 u0).num) (2 * 3 + 2), fun w v => DecI w v ((qOf z0 u0).den : Int) (2 * 3 + 2), fun w v => RawQ w v a1 (xs1.take 3) b1 (ys1.take 3), fun w v => QV w v z1 u1 3, fun w v => IntV w v z1 3, fun w v => IntV w v u1 3, fun w v => DecQ w v (qOf z1 u1) (2 * 3 + 2), fun w v => DecI w v ((qOf z1 u1).num) (2 * 3 + 2), fun w v => DecI w v ((qOf z1 u1).den : Int) (2 * 3 + 2), fun w v => RawQ w v a2 (xs2.take 3) b2 (ys2.take 3), fun w v => QV w v z2 u2 3, fun w v => IntV w v z2 3, fun w v => IntV w v u2 3, fun w v => DecQ w v (qOf z2 u2) (2 * 3 + 2), fun w v => DecI w v ((qOf z2 u2).num) (2 * 3 + 2), fun w v => DecI w v ((qOf z2 u2).den : Int) (2 * 3 + 2), fun w v => NorQ w v ((qOf z0 u0) + (qOf z2 u2)) (2 * (3 + 3) + 9), fun w v => NorV w v (((qOf z0 u0) + (qOf z2 u2)).num) (2 * (3 + 3) + 9), fun w v => NorV w v (((qOf z0 u0) + (qOf z2 u2)).den : Int) (2 * (3 + 3) + 9), fun w v => NorQ w v ((qOf z1 u1) + (qOf z2 u2)) (2 * (3 + 3) + 9), fun w v => NorV w v (((qOf z1 u1) + (qOf z2 u2)).num) (2 * (3 + 3) + 9), fun w v => NorV w v (((qOf z1 u1) + (qOf z2 u2)).den : Int) (2 * (3 + 3) + 9), fun w v => NorQ w v (-(qOf z0 u0)) (3 + 2), fun w v => NorV w v ((-(qOf z0 u0)).num) (3 + 2), fun w v => NorV w v ((-(qOf z0 u0)).den : Int) (3 + 2), fun w v => NorQ w v (-(qOf z1 u1)) (3 + 2), fun w v => NorV w v ((-(qOf z1 u1)).num) (3 + 2), fun w v => NorV w v ((-(qOf z1 u1)).den : Int) (3 + 2), fun w v => NorQ w v (qOf z1 u1) (3 + 3 + 3 + 2), fun w v => NorV w v ((qOf z1 u1).num) (3 + 3 + 3 + 2), fun w v => NorV w v ((qOf z1 u1).den : Int) (3 + 3 + 3 + 2), fun w v => NorQ w v ((qOf z0 u0) - (qOf z1 u1)) (2 * (3 + 3) + 9), fun w v => NorV w v (((qOf z0 u0) - (qOf z1 u1)).num) (2 * (3 + 3) + 9), fun w v => NorV w v (((qOf z0 u0) - (qOf z1 u1)).den : Int) (2 * (3 + 3) + 9)]
def ins_path_lge : List Out := [⟨.agg [.b, .s, .b, .s], [(0, 0, 0)]⟩, ⟨.agg [.b, .s, .b, .s], [(0, 0, 1)]⟩, ⟨.agg [.b, .s, .b, .s], [(0, 0, 2)]⟩]
def ss_path_lge : List Site := [⟨30, [.fact 0, .lit (.ci .i64 3)], [⟨.agg [.b, .s, .b, .s], [(0, 0, 3), (0, 0, 4), (0, 2, 5), (2, 2, 6)]⟩, ⟨.agg [.s, .b, .s, .b], [(0, 0, 7), (0, 2, 8), (2, 2, 9)]⟩], true⟩,
      ⟨30, [.fact 1, .lit (.ci .i64 3)], [⟨.agg [.b, .s, .b, .s], [(0, 0, 10), (0, 0, 11), (0, 2, 12), (2, 2, 13)]⟩, ⟨.agg [.s, .b, .s, .b], [(0, 0, 14), (0, 2, 15), (2, 2, 16)]⟩], true⟩,
      ⟨30, [.fact 2, .lit (.ci .i64 3)], [⟨.agg [.b, .s, .b, .s], [(0, 0, 17), (0, 0, 18), (0, 2, 19), (2, 2, 20)]⟩, ⟨.agg [.s, .b, .s, .b], [(0, 0, 21), (0, 2, 22), (2, 2, 23)]⟩], true⟩,
      ⟨43, [.fact 4, .fact 11], [⟨.one (.lit (.ci .i64 (-1))), []⟩], false⟩,
      ⟨43, [.fact 11, .fact 18], [⟨.one (.lit (.ci .i64 1)), []⟩], false⟩,
      ⟨43, [.fact 4, .fact 18], [⟨.one (.lit (.ci .i64 0)), []⟩], false⟩,
      ⟨43, [.fact 11, .fact 4], [⟨.one (.lit (.ci .i64 1)), []⟩], false⟩,
      ⟨34, [.fact 4, .fact 18], [⟨.agg [.b, .s, .b, .s], [(0, 0, 24), (0, 2, 25), (2, 2, 26)]⟩], false⟩,
      ⟨34, [.fact 11, .fact 18], [⟨.agg [.b, .s, .b, .s], [(0, 0, 27), (0, 2, 28), (2, 2, 29)]⟩], false⟩,
      ⟨43, [.fact 24, .fact 27], [⟨.one (.lit (.ci .i64 (-1))), []⟩], false⟩,
      ⟨40, [.fact 4], [⟨.agg [.b, .s, .b, .s], [(0, 0, 30), (0, 2, 31), (2, 2, 32)]⟩], false⟩,
      ⟨40, [.fact 11], [⟨.agg [.b, .s, .b, .s], [(0, 0, 33), (0, 2, 34), (2, 2, 35)]⟩], false⟩,
      ⟨43, [.fact 30, .fact 33], [⟨.one (.lit (.ci .i64 1)), []⟩], false⟩,
      ⟨54, [.fact 4, .row 4 [11, 18]], [⟨.agg [.b, .s, .b, .s], [(0, 0, 36), (0, 2, 37), (2, 2, 38)]⟩], false⟩,
      ⟨43, [.fact 36, .fact 4], [⟨.one (.lit (.ci .i64 1)), []⟩], false⟩,
      ⟨43, [.fact 36, .fact 11], [⟨.one (.lit (.ci .i64 0)), []⟩], false⟩,
      ⟨43, [.fact 36, .fact 18], [⟨.one (.lit (.ci .i64 1)), []⟩], false⟩,
      ⟨43, [.fact 36, .fact 4], [⟨.one (.lit (.ci .i64 1)), []⟩], false⟩,
      ⟨43, [.fact 36, .fact 11], [⟨.one (.lit (.ci .i64 0)), []⟩], false⟩,
      ⟨36, [.fact 4, .fact 11], [⟨.agg [.b, .s, .b, .s], [(0, 0, 39), (0, 2, 40), (2, 2, 41)]⟩], false⟩,
      ⟨60, [.fact 40], [⟨.one (.lit (.ci .i64 (-1))), []⟩], false⟩,
      ⟨51, [], [⟨.one (.lit (.cb true)), []⟩], false⟩]
set_option maxRecDepth 100000 in
theorem path_lge {a0 b0 : Bool} {xs0 ys0 : List Nat} {z0 u0 : Int} (hz0 : sg a0 (Proofs.YtckhcijknfkghaaGreatDoor.val 4294967296 (xs0.take 3)) = z0) (hu0 : sg b0 (Proofs.YtckhcijknfkghaaGreatDoor.val 4294967296 (ys0.take 3)) = u0) {a1 b1 : Bool} {xs1 ys1 : List Nat} {z1 u1 : Int} (hz1 : sg a1 (Proofs.YtckhcijknfkghaaGreatDoor.val 4294967296 (xs1.take 3)) = z1) (hu1 : sg b1 (Proofs.YtckhcijknfkghaaGreatDoor.val 4294967296 (ys1.take 3)) = u1) {a2 b2 : Bool} {xs2 ys2 : List Nat} {z2 u2 : Int} (hz2 : sg a2 (Proofs.YtckhcijknfkghaaGreatDoor.val 4294967296 (xs2.take 3)) = z2) (hu2 : sg b2 (Proofs.YtckhcijknfkghaaGreatDoor.val 4294967296 (ys2.take 3)) = u2) (h1 : cmpQ (qOf z0 u0) (qOf z1 u1) = (-1)) (h2 : cmpQ (qOf z1 u1) (qOf z2 u2) = 1) (h3 : cmpQ (qOf z0 u0) (qOf z2 u2) = 0) : SiteOk (ph (phi_path_lge a0 b0 xs0 ys0 z0 u0 a1 b1 xs1 ys1 z1 u1 a2 b2 xs2 ys2 z2 u2)) Tryz.prog ⟨13, [.fact 0, .fact 1, .fact 2], [⟨.one (.lit (.cb true)), []⟩], false⟩ :=
  fn_ok ins_path_lge [⟨.one (.lit (.cb true)), []⟩] ss_path_lge
    Tryz.func13 (by kernel_rfl)
    (all_cons (sOfQ 3 rfl (fun _ _ h => h) rfl rfl rfl rfl rfl rfl rfl (by omega) hz0 hu0)
      (all_cons (sOfQ 3 rfl (fun _ _ h => h) rfl rfl rfl rfl rfl rfl rfl (by omega) hz1 hu1)
      (all_cons (sOfQ 3 rfl (fun _ _ h => h) rfl rfl rfl rfl rfl rfl rfl (by omega) hz2 hu2)
      (all_cons (sRCmp vQ vQ (by omega) h1)
      (all_cons (sRCmp vQ vQ (by omega) h2)
      (all_cons (sRCmp vQ vQ (by omega) h3)
      (all_cons (sRCmp vQ vQ (by omega) (cmpQ_sw h1 rfl))
      (all_cons (sRAdd vQ vQ rfl rfl rfl (by omega) rfl)
      (all_cons (sRAdd vQ vQ rfl rfl rfl (by omega) rfl)
      (all_cons (sRCmp pQ pQ (by omega) (cmpQ_add h1))
      (all_cons (sRNeg vQ rfl rfl rfl (by omega) rfl)
      (all_cons (sRNeg vQ rfl rfl rfl (by omega) rfl)
      (all_cons (sRCmp pQ pQ (by omega) (cmpQ_ng h1 rfl))
      (all_cons (sMax3 (fun _ _ h => h) (fun _ _ h => h) (fun _ _ h => h) rfl rfl rfl (by omega) (max3_tf (cmpQ_pos h1 (by decide)) (cmpQ_npos h2 (by decide))))
      (all_cons (sRCmp pQ vQ (by omega) (cmpQ_sw h1 rfl))
      (all_cons (sRCmp pQ vQ (by omega) (cmpQ_eq rfl))
      (all_cons (sRCmp pQ vQ (by omega) h2)
      (all_cons (sRCmp pQ vQ (by omega) (cmpQ_sw h1 rfl))
      (all_cons (sRCmp pQ vQ (by omega) (cmpQ_eq rfl))
      (all_cons (sRSub vQ vQ rfl rfl rfl (by omega) rfl)
      (all_cons (sISign nN (cmpI_subq h1))
      (all_cons (sWakes4)
      all_nil))))))))))))))))))))))
    (ins_ok [.fact 0 qS, .fact 1 qS, .fact 2 qS] ⟨fun _ _ h => RawQ.is h, fun _ _ h => RawQ.is h, fun _ _ h => RawQ.is h, trivial⟩) (fun _ _ _ h => h)

def phi_path_lgg (a0 b0 : Bool) (xs0 ys0 : List Nat) (z0 u0 : Int) (a1 b1 : Bool) (xs1 ys1 : List Nat) (z1 u1 : Int) (a2 b2 : Bool) (xs2 ys2 : List Nat) (z2 u2 : Int) : List (World → Value → Prop) := [fun w v => RawQ w v a0 xs0 b0 ys0, fun w v => RawQ w v a1 xs1 b1 ys1, fun w v => RawQ w v a2 xs2 b2 ys2, fun w v => RawQ w v a0 (xs0.take 3) b0 (ys0.take 3), fun w v => QV w v z0 u0 3, fun w v => IntV w v z0 3, fun w v => IntV w v u0 3, fun w v => DecQ w v (qOf z0 u0) (2 * 3 + 2), fun w v => DecI w v ((qOf z0 u0).num) (2 * 3 + 2), fun w v => DecI w v ((qOf z0 u0).den : Int) (2 * 3 + 2), fun w v => RawQ w v a1 (xs1.take 3) b1 (ys1.take 3), fun w v => QV w v z1 u1 3, fun w v => IntV w v z1 3, fun w v => IntV w v u1 3, fun w v => DecQ w v (qOf z1 u1) (2 * 3 + 2), fun w v => DecI w v ((qOf z1 u1).num) (2 * 3 + 2), fun w v => DecI w v ((qOf z1 u1).den : Int) (2 * 3 + 2), fun w v => RawQ w v a2 (xs2.take 3) b2 (ys2.take 3), fun w v => QV w v z2 u2 3, fun w v => IntV w v z2 3, fun w v => IntV w v u2 3, fun w v => DecQ w v (qOf z2 u2) (2 * 3 + 2), fun w v => DecI w v ((qOf z2 u2).num) (2 * 3 + 2), fun w v => DecI w v ((qOf z2 u2).den : Int) (2 * 3 + 2), fun w v => NorQ w v ((qOf z0 u0) + (qOf z2 u2)) (2 * (3 + 3) + 9), fun w v => NorV w v (((qOf z0 u0) + (qOf z2 u2)).num) (2 * (3 + 3) + 9), fun w v => NorV w v (((qOf z0 u0) + (qOf z2 u2)).den : Int) (2 * (3 + 3) + 9), fun w v => NorQ w v ((qOf z1 u1) + (qOf z2 u2)) (2 * (3 + 3) + 9), fun w v => NorV w v (((qOf z1 u1) + (qOf z2 u2)).num) (2 * (3 + 3) + 9), fun w v => NorV w v (((qOf z1 u1) + (qOf z2 u2)).den : Int) (2 * (3 + 3) + 9), fun w v => NorQ w v (-(qOf z0 u0)) (3 + 2), fun w v => NorV w v ((-(qOf z0 u0)).num) (3 + 2), fun w v => NorV w v ((-(qOf z0 u0)).den : Int) (3 + 2), fun w v => NorQ w v (-(qOf z1 u1)) (3 + 2), fun w v => NorV w v ((-(qOf z1 u1)).num) (3 + 2), fun w v => NorV w v ((-(qOf z1 u1)).den : Int) (3 + 2), fun w v => NorQ w v (qOf z1 u1) (3 + 3 + 3 + 2), fun w v => NorV w v ((qOf z1 u1).num) (3 + 3 + 3 + 2), fun w v => NorV w v ((qOf z1 u1).den : Int) (3 + 3 + 3 + 2), fun w v => NorQ w v ((qOf z0 u0) - (qOf z1 u1)) (2 * (3 + 3) + 9), fun w v => NorV w v (((qOf z0 u0) - (qOf z1 u1)).num) (2 * (3 + 3) + 9), fun w v => NorV w v (((qOf z0 u0) - (qOf z1 u1)).den : Int) (2 * (3 + 3) + 9)]
def ins_path_lgg : List Out := [⟨.agg [.b, .s, .b, .s], [(0, 0, 0)]⟩, ⟨.agg [.b, .s, .b, .s], [(0, 0, 1)]⟩, ⟨.agg [.b, .s, .b, .s], [(0, 0, 2)]⟩]
def ss_path_lgg : List Site := [⟨30, [.fact 0, .lit (.ci .i64 3)], [⟨.agg [.b, .s, .b, .s], [(0, 0, 3), (0, 0, 4), (0, 2, 5), (2, 2, 6)]⟩, ⟨.agg [.s, .b, .s, .b], [(0, 0, 7), (0, 2, 8), (2, 2, 9)]⟩], true⟩,
      ⟨30, [.fact 1, .lit (.ci .i64 3)], [⟨.agg [.b, .s, .b, .s], [(0, 0, 10), (0, 0, 11), (0, 2, 12), (2, 2, 13)]⟩, ⟨.agg [.s, .b, .s, .b], [(0, 0, 14), (0, 2, 15), (2, 2, 16)]⟩], true⟩,
      ⟨30, [.fact 2, .lit (.ci .i64 3)], [⟨.agg [.b, .s, .b, .s], [(0, 0, 17), (0, 0, 18), (0, 2, 19), (2, 2, 20)]⟩, ⟨.agg [.s, .b, .s, .b], [(0, 0, 21), (0, 2, 22), (2, 2, 23)]⟩], true⟩,
      ⟨43, [.fact 4, .fact 11], [⟨.one (.lit (.ci .i64 (-1))), []⟩], false⟩,
      ⟨43, [.fact 11, .fact 18], [⟨.one (.lit (.ci .i64 1)), []⟩], false⟩,
      ⟨43, [.fact 4, .fact 18], [⟨.one (.lit (.ci .i64 1)), []⟩], false⟩,
      ⟨43, [.fact 11, .fact 4], [⟨.one (.lit (.ci .i64 1)), []⟩], false⟩,
      ⟨34, [.fact 4, .fact 18], [⟨.agg [.b, .s, .b, .s], [(0, 0, 24), (0, 2, 25), (2, 2, 26)]⟩], false⟩,
      ⟨34, [.fact 11, .fact 18], [⟨.agg [.b, .s, .b, .s], [(0, 0, 27), (0, 2, 28), (2, 2, 29)]⟩], false⟩,
      ⟨43, [.fact 24, .fact 27], [⟨.one (.lit (.ci .i64 (-1))), []⟩], false⟩,
      ⟨40, [.fact 4], [⟨.agg [.b, .s, .b, .s], [(0, 0, 30), (0, 2, 31), (2, 2, 32)]⟩], false⟩,
      ⟨40, [.fact 11], [⟨.agg [.b, .s, .b, .s], [(0, 0, 33), (0, 2, 34), (2, 2, 35)]⟩], false⟩,
      ⟨43, [.fact 30, .fact 33], [⟨.one (.lit (.ci .i64 1)), []⟩], false⟩,
      ⟨54, [.fact 4, .row 4 [11, 18]], [⟨.agg [.b, .s, .b, .s], [(0, 0, 36), (0, 2, 37), (2, 2, 38)]⟩], false⟩,
      ⟨43, [.fact 36, .fact 4], [⟨.one (.lit (.ci .i64 1)), []⟩], false⟩,
      ⟨43, [.fact 36, .fact 11], [⟨.one (.lit (.ci .i64 0)), []⟩], false⟩,
      ⟨43, [.fact 36, .fact 18], [⟨.one (.lit (.ci .i64 1)), []⟩], false⟩,
      ⟨43, [.fact 36, .fact 4], [⟨.one (.lit (.ci .i64 1)), []⟩], false⟩,
      ⟨43, [.fact 36, .fact 11], [⟨.one (.lit (.ci .i64 0)), []⟩], false⟩,
      ⟨36, [.fact 4, .fact 11], [⟨.agg [.b, .s, .b, .s], [(0, 0, 39), (0, 2, 40), (2, 2, 41)]⟩], false⟩,
      ⟨60, [.fact 40], [⟨.one (.lit (.ci .i64 (-1))), []⟩], false⟩,
      ⟨51, [], [⟨.one (.lit (.cb true)), []⟩], false⟩]
set_option maxRecDepth 100000 in
theorem path_lgg {a0 b0 : Bool} {xs0 ys0 : List Nat} {z0 u0 : Int} (hz0 : sg a0 (Proofs.YtckhcijknfkghaaGreatDoor.val 4294967296 (xs0.take 3)) = z0) (hu0 : sg b0 (Proofs.YtckhcijknfkghaaGreatDoor.val 4294967296 (ys0.take 3)) = u0) {a1 b1 : Bool} {xs1 ys1 : List Nat} {z1 u1 : Int} (hz1 : sg a1 (Proofs.YtckhcijknfkghaaGreatDoor.val 4294967296 (xs1.take 3)) = z1) (hu1 : sg b1 (Proofs.YtckhcijknfkghaaGreatDoor.val 4294967296 (ys1.take 3)) = u1) {a2 b2 : Bool} {xs2 ys2 : List Nat} {z2 u2 : Int} (hz2 : sg a2 (Proofs.YtckhcijknfkghaaGreatDoor.val 4294967296 (xs2.take 3)) = z2) (hu2 : sg b2 (Proofs.YtckhcijknfkghaaGreatDoor.val 4294967296 (ys2.take 3)) = u2) (h1 : cmpQ (qOf z0 u0) (qOf z1 u1) = (-1)) (h2 : cmpQ (qOf z1 u1) (qOf z2 u2) = 1) (h3 : cmpQ (qOf z0 u0) (qOf z2 u2) = 1) : SiteOk (ph (phi_path_lgg a0 b0 xs0 ys0 z0 u0 a1 b1 xs1 ys1 z1 u1 a2 b2 xs2 ys2 z2 u2)) Tryz.prog ⟨13, [.fact 0, .fact 1, .fact 2], [⟨.one (.lit (.cb true)), []⟩], false⟩ :=
  fn_ok ins_path_lgg [⟨.one (.lit (.cb true)), []⟩] ss_path_lgg
    Tryz.func13 (by kernel_rfl)
    (all_cons (sOfQ 3 rfl (fun _ _ h => h) rfl rfl rfl rfl rfl rfl rfl (by omega) hz0 hu0)
      (all_cons (sOfQ 3 rfl (fun _ _ h => h) rfl rfl rfl rfl rfl rfl rfl (by omega) hz1 hu1)
      (all_cons (sOfQ 3 rfl (fun _ _ h => h) rfl rfl rfl rfl rfl rfl rfl (by omega) hz2 hu2)
      (all_cons (sRCmp vQ vQ (by omega) h1)
      (all_cons (sRCmp vQ vQ (by omega) h2)
      (all_cons (sRCmp vQ vQ (by omega) h3)
      (all_cons (sRCmp vQ vQ (by omega) (cmpQ_sw h1 rfl))
      (all_cons (sRAdd vQ vQ rfl rfl rfl (by omega) rfl)
      (all_cons (sRAdd vQ vQ rfl rfl rfl (by omega) rfl)
      (all_cons (sRCmp pQ pQ (by omega) (cmpQ_add h1))
      (all_cons (sRNeg vQ rfl rfl rfl (by omega) rfl)
      (all_cons (sRNeg vQ rfl rfl rfl (by omega) rfl)
      (all_cons (sRCmp pQ pQ (by omega) (cmpQ_ng h1 rfl))
      (all_cons (sMax3 (fun _ _ h => h) (fun _ _ h => h) (fun _ _ h => h) rfl rfl rfl (by omega) (max3_tf (cmpQ_pos h1 (by decide)) (cmpQ_npos h2 (by decide))))
      (all_cons (sRCmp pQ vQ (by omega) (cmpQ_sw h1 rfl))
      (all_cons (sRCmp pQ vQ (by omega) (cmpQ_eq rfl))
      (all_cons (sRCmp pQ vQ (by omega) h2)
      (all_cons (sRCmp pQ vQ (by omega) (cmpQ_sw h1 rfl))
      (all_cons (sRCmp pQ vQ (by omega) (cmpQ_eq rfl))
      (all_cons (sRSub vQ vQ rfl rfl rfl (by omega) rfl)
      (all_cons (sISign nN (cmpI_subq h1))
      (all_cons (sWakes4)
      all_nil))))))))))))))))))))))
    (ins_ok [.fact 0 qS, .fact 1 qS, .fact 2 qS] ⟨fun _ _ h => RawQ.is h, fun _ _ h => RawQ.is h, fun _ _ h => RawQ.is h, trivial⟩) (fun _ _ _ h => h)

def phi_path_ell (a0 b0 : Bool) (xs0 ys0 : List Nat) (z0 u0 : Int) (a1 b1 : Bool) (xs1 ys1 : List Nat) (z1 u1 : Int) (a2 b2 : Bool) (xs2 ys2 : List Nat) (z2 u2 : Int) : List (World → Value → Prop) := [fun w v => RawQ w v a0 xs0 b0 ys0, fun w v => RawQ w v a1 xs1 b1 ys1, fun w v => RawQ w v a2 xs2 b2 ys2, fun w v => RawQ w v a0 (xs0.take 3) b0 (ys0.take 3), fun w v => QV w v z0 u0 3, fun w v => IntV w v z0 3, fun w v => IntV w v u0 3, fun w v => DecQ w v (qOf z0 u0) (2 * 3 + 2), fun w v => DecI w v ((qOf z0 u0).num) (2 * 3 + 2), fun w v => DecI w v ((qOf z0 u0).den : Int) (2 * 3 + 2), fun w v => RawQ w v a1 (xs1.take 3) b1 (ys1.take 3), fun w v => QV w v z1 u1 3, fun w v => IntV w v z1 3, fun w v => IntV w v u1 3, fun w v => DecQ w v (qOf z1 u1) (2 * 3 + 2), fun w v => DecI w v ((qOf z1 u1).num) (2 * 3 + 2), fun w v => DecI w v ((qOf z1 u1).den : Int) (2 * 3 + 2), fun w v => RawQ w v a2 (xs2.take 3) b2 (ys2.take 3), fun w v => QV w v z2 u2 3, fun w v => IntV w v z2 3, fun w v => IntV w v u2 3, fun w v => DecQ w v (qOf z2 u2) (2 * 3 + 2), fun w v => DecI w v ((qOf z2 u2).num) (2 * 3 + 2), fun w v => DecI w v ((qOf z2 u2).den : Int) (2 * 3 + 2), fun w v => NorQ w v ((qOf z0 u0) + (qOf z2 u2)) (2 * (3 + 3) + 9), fun w v => NorV w v (((qOf z0 u0) + (qOf z2 u2)).num) (2 * (3 + 3) + 9), fun w v => NorV w v (((qOf z0 u0) + (qOf z2 u2)).den : Int) (2 * (3 + 3) + 9), fun w v => NorQ w v ((qOf z1 u1) + (qOf z2 u2)) (2 * (3 + 3) + 9), fun w v => NorV w v (((qOf z1 u1) + (qOf z2 u2)).num) (2 * (3 + 3) + 9), fun w v => NorV w v (((qOf z1 u1) + (qOf z2 u2)).den : Int) (2 * (3 + 3) + 9), fun w v => NorQ w v (-(qOf z0 u0)) (3 + 2), fun w v => NorV w v ((-(qOf z0 u0)).num) (3 + 2), fun w v => NorV w v ((-(qOf z0 u0)).den : Int) (3 + 2), fun w v => NorQ w v (-(qOf z1 u1)) (3 + 2), fun w v => NorV w v ((-(qOf z1 u1)).num) (3 + 2), fun w v => NorV w v ((-(qOf z1 u1)).den : Int) (3 + 2), fun w v => NorQ w v (qOf z2 u2) (3 + 3 + 3 + 2), fun w v => NorV w v ((qOf z2 u2).num) (3 + 3 + 3 + 2), fun w v => NorV w v ((qOf z2 u2).den : Int) (3 + 3 + 3 + 2), fun w v => NorQ w v ((qOf z0 u0) - (qOf z1 u1)) (2 * (3 + 3) + 9), fun w v => NorV w v (((qOf z0 u0) - (qOf z1 u1)).num) (2 * (3 + 3) + 9), fun w v => NorV w v (((qOf z0 u0) - (qOf z1 u1)).den : Int) (2 * (3 + 3) + 9)]
def ins_path_ell : List Out := [⟨.agg [.b, .s, .b, .s], [(0, 0, 0)]⟩, ⟨.agg [.b, .s, .b, .s], [(0, 0, 1)]⟩, ⟨.agg [.b, .s, .b, .s], [(0, 0, 2)]⟩]
def ss_path_ell : List Site := [⟨30, [.fact 0, .lit (.ci .i64 3)], [⟨.agg [.b, .s, .b, .s], [(0, 0, 3), (0, 0, 4), (0, 2, 5), (2, 2, 6)]⟩, ⟨.agg [.s, .b, .s, .b], [(0, 0, 7), (0, 2, 8), (2, 2, 9)]⟩], true⟩,
      ⟨30, [.fact 1, .lit (.ci .i64 3)], [⟨.agg [.b, .s, .b, .s], [(0, 0, 10), (0, 0, 11), (0, 2, 12), (2, 2, 13)]⟩, ⟨.agg [.s, .b, .s, .b], [(0, 0, 14), (0, 2, 15), (2, 2, 16)]⟩], true⟩,
      ⟨30, [.fact 2, .lit (.ci .i64 3)], [⟨.agg [.b, .s, .b, .s], [(0, 0, 17), (0, 0, 18), (0, 2, 19), (2, 2, 20)]⟩, ⟨.agg [.s, .b, .s, .b], [(0, 0, 21), (0, 2, 22), (2, 2, 23)]⟩], true⟩,
      ⟨43, [.fact 4, .fact 11], [⟨.one (.lit (.ci .i64 0)), []⟩], false⟩,
      ⟨43, [.fact 11, .fact 18], [⟨.one (.lit (.ci .i64 (-1))), []⟩], false⟩,
      ⟨43, [.fact 4, .fact 18], [⟨.one (.lit (.ci .i64 (-1))), []⟩], false⟩,
      ⟨43, [.fact 11, .fact 4], [⟨.one (.lit (.ci .i64 0)), []⟩], false⟩,
      ⟨34, [.fact 4, .fact 18], [⟨.agg [.b, .s, .b, .s], [(0, 0, 24), (0, 2, 25), (2, 2, 26)]⟩], false⟩,
      ⟨34, [.fact 11, .fact 18], [⟨.agg [.b, .s, .b, .s], [(0, 0, 27), (0, 2, 28), (2, 2, 29)]⟩], false⟩,
      ⟨43, [.fact 24, .fact 27], [⟨.one (.lit (.ci .i64 0)), []⟩], false⟩,
      ⟨40, [.fact 4], [⟨.agg [.b, .s, .b, .s], [(0, 0, 30), (0, 2, 31), (2, 2, 32)]⟩], false⟩,
      ⟨40, [.fact 11], [⟨.agg [.b, .s, .b, .s], [(0, 0, 33), (0, 2, 34), (2, 2, 35)]⟩], false⟩,
      ⟨43, [.fact 30, .fact 33], [⟨.one (.lit (.ci .i64 0)), []⟩], false⟩,
      ⟨54, [.fact 4, .row 4 [11, 18]], [⟨.agg [.b, .s, .b, .s], [(0, 0, 36), (0, 2, 37), (2, 2, 38)]⟩], false⟩,
      ⟨43, [.fact 36, .fact 4], [⟨.one (.lit (.ci .i64 1)), []⟩], false⟩,
      ⟨43, [.fact 36, .fact 11], [⟨.one (.lit (.ci .i64 1)), []⟩], false⟩,
      ⟨43, [.fact 36, .fact 18], [⟨.one (.lit (.ci .i64 0)), []⟩], false⟩,
      ⟨43, [.fact 36, .fact 4], [⟨.one (.lit (.ci .i64 1)), []⟩], false⟩,
      ⟨43, [.fact 36, .fact 11], [⟨.one (.lit (.ci .i64 1)), []⟩], false⟩,
      ⟨43, [.fact 36, .fact 18], [⟨.one (.lit (.ci .i64 0)), []⟩], false⟩,
      ⟨36, [.fact 4, .fact 11], [⟨.agg [.b, .s, .b, .s], [(0, 0, 39), (0, 2, 40), (2, 2, 41)]⟩], false⟩,
      ⟨60, [.fact 40], [⟨.one (.lit (.ci .i64 0)), []⟩], false⟩,
      ⟨51, [], [⟨.one (.lit (.cb true)), []⟩], false⟩]
set_option maxRecDepth 100000 in
theorem path_ell {a0 b0 : Bool} {xs0 ys0 : List Nat} {z0 u0 : Int} (hz0 : sg a0 (Proofs.YtckhcijknfkghaaGreatDoor.val 4294967296 (xs0.take 3)) = z0) (hu0 : sg b0 (Proofs.YtckhcijknfkghaaGreatDoor.val 4294967296 (ys0.take 3)) = u0) {a1 b1 : Bool} {xs1 ys1 : List Nat} {z1 u1 : Int} (hz1 : sg a1 (Proofs.YtckhcijknfkghaaGreatDoor.val 4294967296 (xs1.take 3)) = z1) (hu1 : sg b1 (Proofs.YtckhcijknfkghaaGreatDoor.val 4294967296 (ys1.take 3)) = u1) {a2 b2 : Bool} {xs2 ys2 : List Nat} {z2 u2 : Int} (hz2 : sg a2 (Proofs.YtckhcijknfkghaaGreatDoor.val 4294967296 (xs2.take 3)) = z2) (hu2 : sg b2 (Proofs.YtckhcijknfkghaaGreatDoor.val 4294967296 (ys2.take 3)) = u2) (h1 : cmpQ (qOf z0 u0) (qOf z1 u1) = 0) (h2 : cmpQ (qOf z1 u1) (qOf z2 u2) = (-1)) (h3 : cmpQ (qOf z0 u0) (qOf z2 u2) = (-1)) : SiteOk (ph (phi_path_ell a0 b0 xs0 ys0 z0 u0 a1 b1 xs1 ys1 z1 u1 a2 b2 xs2 ys2 z2 u2)) Tryz.prog ⟨13, [.fact 0, .fact 1, .fact 2], [⟨.one (.lit (.cb true)), []⟩], false⟩ :=
  fn_ok ins_path_ell [⟨.one (.lit (.cb true)), []⟩] ss_path_ell
    Tryz.func13 (by kernel_rfl)
    (all_cons (sOfQ 3 rfl (fun _ _ h => h) rfl rfl rfl rfl rfl rfl rfl (by omega) hz0 hu0)
      (all_cons (sOfQ 3 rfl (fun _ _ h => h) rfl rfl rfl rfl rfl rfl rfl (by omega) hz1 hu1)
      (all_cons (sOfQ 3 rfl (fun _ _ h => h) rfl rfl rfl rfl rfl rfl rfl (by omega) hz2 hu2)
      (all_cons (sRCmp vQ vQ (by omega) h1)
      (all_cons (sRCmp vQ vQ (by omega) h2)
      (all_cons (sRCmp vQ vQ (by omega) h3)
      (all_cons (sRCmp vQ vQ (by omega) (cmpQ_sw h1 rfl))
      (all_cons (sRAdd vQ vQ rfl rfl rfl (by omega) rfl)
      (all_cons (sRAdd vQ vQ rfl rfl rfl (by omega) rfl)
      (all_cons (sRCmp pQ pQ (by omega) (cmpQ_add h1))
      (all_cons (sRNeg vQ rfl rfl rfl (by omega) rfl)
      (all_cons (sRNeg vQ rfl rfl rfl (by omega) rfl)
      (all_cons (sRCmp pQ pQ (by omega) (cmpQ_ng h1 rfl))
      (all_cons (sMax3 (fun _ _ h => h) (fun _ _ h => h) (fun _ _ h => h) rfl rfl rfl (by omega) (max3_ft (cmpQ_npos h1 (by decide)) (cmpQ_pos h3 (by decide))))
      (all_cons (sRCmp pQ vQ (by omega) (cmpQ_sw h3 rfl))
      (all_cons (sRCmp pQ vQ (by omega) (cmpQ_sw h2 rfl))
      (all_cons (sRCmp pQ vQ (by omega) (cmpQ_eq rfl))
      (all_cons (sRCmp pQ vQ (by omega) (cmpQ_sw h3 rfl))
      (all_cons (sRCmp pQ vQ (by omega) (cmpQ_sw h2 rfl))
      (all_cons (sRCmp pQ vQ (by omega) (cmpQ_eq rfl))
      (all_cons (sRSub vQ vQ rfl rfl rfl (by omega) rfl)
      (all_cons (sISign nN (cmpI_subq h1))
      (all_cons (sWakes4)
      all_nil)))))))))))))))))))))))
    (ins_ok [.fact 0 qS, .fact 1 qS, .fact 2 qS] ⟨fun _ _ h => RawQ.is h, fun _ _ h => RawQ.is h, fun _ _ h => RawQ.is h, trivial⟩) (fun _ _ _ h => h)

def phi_path_eee (a0 b0 : Bool) (xs0 ys0 : List Nat) (z0 u0 : Int) (a1 b1 : Bool) (xs1 ys1 : List Nat) (z1 u1 : Int) (a2 b2 : Bool) (xs2 ys2 : List Nat) (z2 u2 : Int) : List (World → Value → Prop) := [fun w v => RawQ w v a0 xs0 b0 ys0, fun w v => RawQ w v a1 xs1 b1 ys1, fun w v => RawQ w v a2 xs2 b2 ys2, fun w v => RawQ w v a0 (xs0.take 3) b0 (ys0.take 3), fun w v => QV w v z0 u0 3, fun w v => IntV w v z0 3, fun w v => IntV w v u0 3, fun w v => DecQ w v (qOf z0 u0) (2 * 3 + 2), fun w v => DecI w v ((qOf z0 u0).num) (2 * 3 + 2), fun w v => DecI w v ((qOf z0 u0).den : Int) (2 * 3 + 2), fun w v => RawQ w v a1 (xs1.take 3) b1 (ys1.take 3), fun w v => QV w v z1 u1 3, fun w v => IntV w v z1 3, fun w v => IntV w v u1 3, fun w v => DecQ w v (qOf z1 u1) (2 * 3 + 2), fun w v => DecI w v ((qOf z1 u1).num) (2 * 3 + 2), fun w v => DecI w v ((qOf z1 u1).den : Int) (2 * 3 + 2), fun w v => RawQ w v a2 (xs2.take 3) b2 (ys2.take 3), fun w v => QV w v z2 u2 3, fun w v => IntV w v z2 3, fun w v => IntV w v u2 3, fun w v => DecQ w v (qOf z2 u2) (2 * 3 + 2), fun w v => DecI w v ((qOf z2 u2).num) (2 * 3 + 2), fun w v => DecI w v ((qOf z2 u2).den : Int) (2 * 3 + 2), fun w v => NorQ w v ((qOf z0 u0) + (qOf z2 u2)) (2 * (3 + 3) + 9), fun w v => NorV w v (((qOf z0 u0) + (qOf z2 u2)).num) (2 * (3 + 3) + 9), fun w v => NorV w v (((qOf z0 u0) + (qOf z2 u2)).den : Int) (2 * (3 + 3) + 9), fun w v => NorQ w v ((qOf z1 u1) + (qOf z2 u2)) (2 * (3 + 3) + 9), fun w v => NorV w v (((qOf z1 u1) + (qOf z2 u2)).num) (2 * (3 + 3) + 9), fun w v => NorV w v (((qOf z1 u1) + (qOf z2 u2)).den : Int) (2 * (3 + 3) + 9), fun w v => NorQ w v (-(qOf z0 u0)) (3 + 2), fun w v => NorV w v ((-(qOf z0 u0)).num) (3 + 2), fun w v => NorV w v ((-(qOf z0 u0)).den : Int) (3 + 2), fun w v => NorQ w v (-(qOf z1 u1)) (3 + 2), fun w v => NorV w v ((-(qOf z1 u1)).num) (3 + 2), fun w v => NorV w v ((-(qOf z1 u1)).den : Int) (3 + 2), fun w v => NorQ w v (qOf z0 u0) (3 + 3 + 3 + 2), fun w v => NorV w v ((qOf z0 u0).num) (3 + 3 + 3 + 2), fun w v => NorV w v ((qOf z0 u0).den : Int) (3 + 3 + 3 + 2), fun w v => NorQ w v ((qOf z0 u0) - (qOf z1 u1)) (2 * (3 + 3) + 9), fun w v => NorV w v (((qOf z0 u0) - (qOf z1 u1)).num) (2 * (3 + 3) + 9), fun w v => NorV w v (((qOf z0 u0) - (qOf z1 u1)).den : Int) (2 * (3 + 3) + 9)]
def ins_path_eee : List Out := [⟨.agg [.b, .s, .b, .s], [(0, 0, 0)]⟩, ⟨.agg [.b, .s, .b, .s], [(0, 0, 1)]⟩, ⟨.agg [.b, .s, .b, .s], [(0, 0, 2)]⟩]
def ss_path_eee : List Site := [⟨30, [.fact 0, .lit (.ci .i64 3)], [⟨.agg [.b, .s, .b, .s], [(0, 0, 3), (0, 0, 4), (0, 2, 5), (2, 2, 6)]⟩, ⟨.agg [.s, .b, .s, .b], [(0, 0, 7), (0, 2, 8), (2, 2, 9)]⟩], true⟩,
      ⟨30, [.fact 1, .lit (.ci .i64 3)], [⟨.agg [.b, .s, .b, .s], [(0, 0, 10), (0, 0, 11), (0, 2, 12), (2, 2, 13)]⟩, ⟨.agg [.s, .b, .s, .b], [(0, 0, 14), (0, 2, 15), (2, 2, 16)]⟩], true⟩,
      ⟨30, [.fact 2, .lit (.ci .i64 3)], [⟨.agg [.b, .s, .b, .s], [(0, 0, 17), (0, 0, 18), (0, 2, 19), (2, 2, 20)]⟩, ⟨.agg [.s, .b, .s, .b], [(0, 0, 21), (0, 2, 22), (2, 2, 23)]⟩], true⟩,
      ⟨43, [.fact 4, .fact 11], [⟨.one (.lit (.ci .i64 0)), []⟩], false⟩,
      ⟨43, [.fact 11, .fact 18], [⟨.one (.lit (.ci .i64 0)), []⟩], false⟩,
      ⟨43, [.fact 4, .fact 18], [⟨.one (.lit (.ci .i64 0)), []⟩], false⟩,
      ⟨43, [.fact 11, .fact 4], [⟨.one (.lit (.ci .i64 0)), []⟩], false⟩,
      ⟨34, [.fact 4, .fact 18], [⟨.agg [.b, .s, .b, .s], [(0, 0, 24), (0, 2, 25), (2, 2, 26)]⟩], false⟩,
      ⟨34, [.fact 11, .fact 18], [⟨.agg [.b, .s, .b, .s], [(0, 0, 27), (0, 2, 28), (2, 2, 29)]⟩], false⟩,
      ⟨43, [.fact 24, .fact 27], [⟨.one (.lit (.ci .i64 0)), []⟩], false⟩,
      ⟨40, [.fact 4], [⟨.agg [.b, .s, .b, .s], [(0, 0, 30), (0, 2, 31), (2, 2, 32)]⟩], false⟩,
      ⟨40, [.fact 11], [⟨.agg [.b, .s, .b, .s], [(0, 0, 33), (0, 2, 34), (2, 2, 35)]⟩], false⟩,
      ⟨43, [.fact 30, .fact 33], [⟨.one (.lit (.ci .i64 0)), []⟩], false⟩,
      ⟨54, [.fact 4, .row 4 [11, 18]], [⟨.agg [.b, .s, .b, .s], [(0, 0, 36), (0, 2, 37), (2, 2, 38)]⟩], false⟩,
      ⟨43, [.fact 36, .fact 4], [⟨.one (.lit (.ci .i64 0)), []⟩], false⟩,
      ⟨43, [.fact 36, .fact 11], [⟨.one (.lit (.ci .i64 0)), []⟩], false⟩,
      ⟨43, [.fact 36, .fact 18], [⟨.one (.lit (.ci .i64 0)), []⟩], false⟩,
      ⟨43, [.fact 36, .fact 4], [⟨.one (.lit (.ci .i64 0)), []⟩], false⟩,
      ⟨36, [.fact 4, .fact 11], [⟨.agg [.b, .s, .b, .s], [(0, 0, 39), (0, 2, 40), (2, 2, 41)]⟩], false⟩,
      ⟨60, [.fact 40], [⟨.one (.lit (.ci .i64 0)), []⟩], false⟩,
      ⟨51, [], [⟨.one (.lit (.cb true)), []⟩], false⟩]
set_option maxRecDepth 100000 in
theorem path_eee {a0 b0 : Bool} {xs0 ys0 : List Nat} {z0 u0 : Int} (hz0 : sg a0 (Proofs.YtckhcijknfkghaaGreatDoor.val 4294967296 (xs0.take 3)) = z0) (hu0 : sg b0 (Proofs.YtckhcijknfkghaaGreatDoor.val 4294967296 (ys0.take 3)) = u0) {a1 b1 : Bool} {xs1 ys1 : List Nat} {z1 u1 : Int} (hz1 : sg a1 (Proofs.YtckhcijknfkghaaGreatDoor.val 4294967296 (xs1.take 3)) = z1) (hu1 : sg b1 (Proofs.YtckhcijknfkghaaGreatDoor.val 4294967296 (ys1.take 3)) = u1) {a2 b2 : Bool} {xs2 ys2 : List Nat} {z2 u2 : Int} (hz2 : sg a2 (Proofs.YtckhcijknfkghaaGreatDoor.val 4294967296 (xs2.take 3)) = z2) (hu2 : sg b2 (Proofs.YtckhcijknfkghaaGreatDoor.val 4294967296 (ys2.take 3)) = u2) (h1 : cmpQ (qOf z0 u0) (qOf z1 u1) = 0) (h2 : cmpQ (qOf z1 u1) (qOf z2 u2) = 0) (h3 : cmpQ (qOf z0 u0) (qOf z2 u2) = 0) : SiteOk (ph (phi_path_eee a0 b0 xs0 ys0 z0 u0 a1 b1 xs1 ys1 z1 u1 a2 b2 xs2 ys2 z2 u2)) Tryz.prog ⟨13, [.fact 0, .fact 1, .fact 2], [⟨.one (.lit (.cb true)), []⟩], false⟩ :=
  fn_ok ins_path_eee [⟨.one (.lit (.cb true)), []⟩] ss_path_eee
    Tryz.func13 (by kernel_rfl)
    (all_cons (sOfQ 3 rfl (fun _ _ h => h) rfl rfl rfl rfl rfl rfl rfl (by omega) hz0 hu0)
      (all_cons (sOfQ 3 rfl (fun _ _ h => h) rfl rfl rfl rfl rfl rfl rfl (by omega) hz1 hu1)
      (all_cons (sOfQ 3 rfl (fun _ _ h => h) rfl rfl rfl rfl rfl rfl rfl (by omega) hz2 hu2)
      (all_cons (sRCmp vQ vQ (by omega) h1)
      (all_cons (sRCmp vQ vQ (by omega) h2)
      (all_cons (sRCmp vQ vQ (by omega) h3)
      (all_cons (sRCmp vQ vQ (by omega) (cmpQ_sw h1 rfl))
      (all_cons (sRAdd vQ vQ rfl rfl rfl (by omega) rfl)
      (all_cons (sRAdd vQ vQ rfl rfl rfl (by omega) rfl)
      (all_cons (sRCmp pQ pQ (by omega) (cmpQ_add h1))
      (all_cons (sRNeg vQ rfl rfl rfl (by omega) rfl)
      (all_cons (sRNeg vQ rfl rfl rfl (by omega) rfl)
      (all_cons (sRCmp pQ pQ (by omega) (cmpQ_ng h1 rfl))
      (all_cons (sMax3 (fun _ _ h => h) (fun _ _ h => h) (fun _ _ h => h) rfl rfl rfl (by omega) (max3_ff (cmpQ_npos h1 (by decide)) (cmpQ_npos h3 (by decide))))
      (all_cons (sRCmp pQ vQ (by omega) (cmpQ_eq rfl))
      (all_cons (sRCmp pQ vQ (by omega) h1)
      (all_cons (sRCmp pQ vQ (by omega) h3)
      (all_cons (sRCmp pQ vQ (by omega) (cmpQ_eq rfl))
      (all_cons (sRSub vQ vQ rfl rfl rfl (by omega) rfl)
      (all_cons (sISign nN (cmpI_subq h1))
      (all_cons (sWakes4)
      all_nil)))))))))))))))))))))
    (ins_ok [.fact 0 qS, .fact 1 qS, .fact 2 qS] ⟨fun _ _ h => RawQ.is h, fun _ _ h => RawQ.is h, fun _ _ h => RawQ.is h, trivial⟩) (fun _ _ _ h => h)

def phi_path_egg (a0 b0 : Bool) (xs0 ys0 : List Nat) (z0 u0 : Int) (a1 b1 : Bool) (xs1 ys1 : List Nat) (z1 u1 : Int) (a2 b2 : Bool) (xs2 ys2 : List Nat) (z2 u2 : Int) : List (World → Value → Prop) := [fun w v => RawQ w v a0 xs0 b0 ys0, fun w v => RawQ w v a1 xs1 b1 ys1, fun w v => RawQ w v a2 xs2 b2 ys2, fun w v => RawQ w v a0 (xs0.take 3) b0 (ys0.take 3), fun w v => QV w v z0 u0 3, fun w v => IntV w v z0 3, fun w v => IntV w v u0 3, fun w v => DecQ w v (qOf z0 u0) (2 * 3 + 2), fun w v => DecI w v ((qOf z0 u0).num) (2 * 3 + 2), fun w v => DecI w v ((qOf z0 u0).den : Int) (2 * 3 + 2), fun w v => RawQ w v a1 (xs1.take 3) b1 (ys1.take 3), fun w v => QV w v z1 u1 3, fun w v => IntV w v z1 3, fun w v => IntV w v u1 3, fun w v => DecQ w v (qOf z1 u1) (2 * 3 + 2), fun w v => DecI w v ((qOf z1 u1).num) (2 * 3 + 2), fun w v => DecI w v ((qOf z1 u1).den : Int) (2 * 3 + 2), fun w v => RawQ w v a2 (xs2.take 3) b2 (ys2.take 3), fun w v => QV w v z2 u2 3, fun w v => IntV w v z2 3, fun w v => IntV w v u2 3, fun w v => DecQ w v (qOf z2 u2) (2 * 3 + 2), fun w v => DecI w v ((qOf z2 u2).num) (2 * 3 + 2), fun w v => DecI w v ((qOf z2 u2).den : Int) (2 * 3 + 2), fun w v => NorQ w v ((qOf z0 u0) + (qOf z2 u2)) (2 * (3 + 3) + 9), fun w v => NorV w v (((qOf z0 u0) + (qOf z2 u2)).num) (2 * (3 + 3) + 9), fun w v => NorV w v (((qOf z0 u0) + (qOf z2 u2)).den : Int) (2 * (3 + 3) + 9), fun w v => NorQ w v ((qOf z1 u1) + (qOf z2 u2)) (2 * (3 + 3) + 9), fun w v => NorV w v (((qOf z1 u1) + (qOf z2 u2)).num) (2 * (3 + 3) + 9), fun w v => NorV w v (((qOf z1 u1) + (qOf z2 u2)).den : Int) (2 * (3 + 3) + 9), fun w v => NorQ w v (-(qOf z0 u0)) (3 + 2), fun w v => NorV w v ((-(qOf z0 u0)).num) (3 + 2), fun w v => NorV w v ((-(qOf z0 u0)).den : Int) (3 + 2), fun w v => NorQ w v (-(qOf z1 u1)) (3 + 2), fun w v => NorV w v ((-(qOf z1 u1)).num) (3 + 2), fun w v => NorV w v ((-(qOf z1 u1)).den : Int) (3 + 2), fun w v => NorQ w v (qOf z0 u0) (3 + 3 + 3 + 2), fun w v => NorV w v ((qOf z0 u0).num) (3 + 3 + 3 + 2), fun w v => NorV w v ((qOf z0 u0).den : Int) (3 + 3 + 3 + 2), fun w v => NorQ w v ((qOf z0 u0) - (qOf z1 u1)) (2 * (3 + 3) + 9), fun w v => NorV w v (((qOf z0 u0) - (qOf z1 u1)).num) (2 * (3 + 3) + 9), fun w v => NorV w v (((qOf z0 u0) - (qOf z1 u1)).den : Int) (2 * (3 + 3) + 9)]
def ins_path_egg : List Out := [⟨.agg [.b, .s, .b, .s], [(0, 0, 0)]⟩, ⟨.agg [.b, .s, .b, .s], [(0, 0, 1)]⟩, ⟨.agg [.b, .s, .b, .s], [(0, 0, 2)]⟩]
def ss_path_egg : List Site := [⟨30, [.fact 0, .lit (.ci .i64 3)], [⟨.agg [.b, .s, .b, .s], [(0, 0, 3), (0, 0, 4), (0, 2, 5), (2, 2, 6)]⟩, ⟨.agg [.s, .b, .s, .b], [(0, 0, 7), (0, 2, 8), (2, 2, 9)]⟩], true⟩,
      ⟨30, [.fact 1, .lit (.ci .i64 3)], [⟨.agg [.b, .s, .b, .s], [(0, 0, 10), (0, 0, 11), (0, 2, 12), (2, 2, 13)]⟩, ⟨.agg [.s, .b, .s, .b], [(0, 0, 14), (0, 2, 15), (2, 2, 16)]⟩], true⟩,
      ⟨30, [.fact 2, .lit (.ci .i64 3)], [⟨.agg [.b, .s, .b, .s], [(0, 0, 17), (0, 0, 18), (0, 2, 19), (2, 2, 20)]⟩, ⟨.agg [.s, .b, .s, .b], [(0, 0, 21), (0, 2, 22), (2, 2, 23)]⟩], true⟩,
      ⟨43, [.fact 4, .fact 11], [⟨.one (.lit (.ci .i64 0)), []⟩], false⟩,
      ⟨43, [.fact 11, .fact 18], [⟨.one (.lit (.ci .i64 1)), []⟩], false⟩,
      ⟨43, [.fact 4, .fact 18], [⟨.one (.lit (.ci .i64 1)), []⟩], false⟩,
      ⟨43, [.fact 11, .fact 4], [⟨.one (.lit (.ci .i64 0)), []⟩], false⟩,
      ⟨34, [.fact 4, .fact 18], [⟨.agg [.b, .s, .b, .s], [(0, 0, 24), (0, 2, 25), (2, 2, 26)]⟩], false⟩,
      ⟨34, [.fact 11, .fact 18], [⟨.agg [.b, .s, .b, .s], [(0, 0, 27), (0, 2, 28), (2, 2, 29)]⟩], false⟩,
      ⟨43, [.fact 24, .fact 27], [⟨.one (.lit (.ci .i64 0)), []⟩], false⟩,
      ⟨40, [.fact 4], [⟨.agg [.b, .s, .b, .s], [(0, 0, 30), (0, 2, 31), (2, 2, 32)]⟩], false⟩,
      ⟨40, [.fact 11], [⟨.agg [.b, .s, .b, .s], [(0, 0, 33), (0, 2, 34), (2, 2, 35)]⟩], false⟩,
      ⟨43, [.fact 30, .fact 33], [⟨.one (.lit (.ci .i64 0)), []⟩], false⟩,
      ⟨54, [.fact 4, .row 4 [11, 18]], [⟨.agg [.b, .s, .b, .s], [(0, 0, 36), (0, 2, 37), (2, 2, 38)]⟩], false⟩,
      ⟨43, [.fact 36, .fact 4], [⟨.one (.lit (.ci .i64 0)), []⟩], false⟩,
      ⟨43, [.fact 36, .fact 11], [⟨.one (.lit (.ci .i64 0)), []⟩], false⟩,
      ⟨43, [.fact 36, .fact 18], [⟨.one (.lit (.ci .i64 1)), []⟩], false⟩,
      ⟨43, [.fact 36, .fact 4], [⟨.one (.lit (.ci .i64 0)), []⟩], false⟩,
      ⟨36, [.fact 4, .fact 11], [⟨.agg [.b, .s, .b, .s], [(0, 0, 39), (0, 2, 40), (2, 2, 41)]⟩], false⟩,
      ⟨60, [.fact 40], [⟨.one (.lit (.ci .i64 0)), []⟩], false⟩,
      ⟨51, [], [⟨.one (.lit (.cb true)), []⟩], false⟩]
set_option maxRecDepth 100000 in
theorem path_egg {a0 b0 : Bool} {xs0 ys0 : List Nat} {z0 u0 : Int} (hz0 : sg a0 (Proofs.YtckhcijknfkghaaGreatDoor.val 4294967296 (xs0.take 3)) = z0) (hu0 : sg b0 (Proofs.YtckhcijknfkghaaGreatDoor.val 4294967296 (ys0.take 3)) = u0) {a1 b1 : Bool} {xs1 ys1 : List Nat} {z1 u1 : Int} (hz1 : sg a1 (Proofs.YtckhcijknfkghaaGreatDoor.val 4294967296 (xs1.take 3)) = z1) (hu1 : sg b1 (Proofs.YtckhcijknfkghaaGreatDoor.val 4294967296 (ys1.take 3)) = u1) {a2 b2 : Bool} {xs2 ys2 : List Nat} {z2 u2 : Int} (hz2 : sg a2 (Proofs.YtckhcijknfkghaaGreatDoor.val 4294967296 (xs2.take 3)) = z2) (hu2 : sg b2 (Proofs.YtckhcijknfkghaaGreatDoor.val 4294967296 (ys2.take 3)) = u2) (h1 : cmpQ (qOf z0 u0) (qOf z1 u1) = 0) (h2 : cmpQ (qOf z1 u1) (qOf z2 u2) = 1) (h3 : cmpQ (qOf z0 u0) (qOf z2 u2) = 1) : SiteOk (ph (phi_path_egg a0 b0 xs0 ys0 z0 u0 a1 b1 xs1 ys1 z1 u1 a2 b2 xs2 ys2 z2 u2)) Tryz.prog ⟨13, [.fact 0, .fact 1, .fact 2], [⟨.one (.lit (.cb true)), []⟩], false⟩ :=
  fn_ok ins_path_egg [⟨.one (.lit (.cb true)), []⟩] ss_path_egg
    Tryz.func13 (by kernel_rfl)
    (all_cons (sOfQ 3 rfl (fun _ _ h => h) rfl rfl rfl rfl rfl rfl rfl (by omega) hz0 hu0)
      (all_cons (sOfQ 3 rfl (fun _ _ h => h) rfl rfl rfl rfl rfl rfl rfl (by omega) hz1 hu1)
      (all_cons (sOfQ 3 rfl (fun _ _ h => h) rfl rfl rfl rfl rfl rfl rfl (by omega) hz2 hu2)
      (all_cons (sRCmp vQ vQ (by omega) h1)
      (all_cons (sRCmp vQ vQ (by omega) h2)
      (all_cons (sRCmp vQ vQ (by omega) h3)
      (all_cons (sRCmp vQ vQ (by omega) (cmpQ_sw h1 rfl))
      (all_cons (sRAdd vQ vQ rfl rfl rfl (by omega) rfl)
      (all_cons (sRAdd vQ vQ rfl rfl rfl (by omega) rfl)
      (all_cons (sRCmp pQ pQ (by omega) (cmpQ_add h1))
      (all_cons (sRNeg vQ rfl rfl rfl (by omega) rfl)
      (all_cons (sRNeg vQ rfl rfl rfl (by omega) rfl)
      (all_cons (sRCmp pQ pQ (by omega) (cmpQ_ng h1 rfl))
      (all_cons (sMax3 (fun _ _ h => h) (fun _ _ h => h) (fun _ _ h => h) rfl rfl rfl (by omega) (max3_ff (cmpQ_npos h1 (by decide)) (cmpQ_npos h3 (by decide))))
      (all_cons (sRCmp pQ vQ (by omega) (cmpQ_eq rfl))
      (all_cons (sRCmp pQ vQ (by omega) h1)
      (all_cons (sRCmp pQ vQ (by omega) h3)
      (all_cons (sRCmp pQ vQ (by omega) (cmpQ_eq rfl))
      (all_cons (sRSub vQ vQ rfl rfl rfl (by omega) rfl)
      (all_cons (sISign nN (cmpI_subq h1))
      (all_cons (sWakes4)
      all_nil)))))))))))))))))))))
    (ins_ok [.fact 0 qS, .fact 1 qS, .fact 2 qS] ⟨fun _ _ h => RawQ.is h, fun _ _ h => RawQ.is h, fun _ _ h => RawQ.is h, trivial⟩) (fun _ _ _ h => h)

def phi_path_gll (a0 b0 : Bool) (xs0 ys0 : List Nat) (z0 u0 : Int) (a1 b1 : Bool) (xs1 ys1 : List Nat) (z1 u1 : Int) (a2 b2 : Bool) (xs2 ys2 : List Nat) (z2 u2 : Int) : List (World → Value → Prop) := [fun w v => RawQ w v a0 xs0 b0 ys0, fun w v => RawQ w v a1 xs1 b1 ys1, fun w v => RawQ w v a2 xs2 b2 ys2, fun w v => RawQ w v a0 (xs0.take 3) b0 (ys0.take 3), fun w v => QV w v z0 u0 3, fun w v => IntV w v z0 3, fun w v => IntV w v u0 3, fun w v => DecQ w v (qOf z0 u0) (2 * 3 + 2), fun w v => DecI w v ((qOf z0 u0).num) (2 * 3 + 2), fun w v => DecI w v ((qOf z0 u0).den : Int) (2 * 3 + 2), fun w v => RawQ w v a1 (xs1.take 3) b1 (ys1.take 3), fun w v => QV w v z1 u1 3, fun w v => IntV w v z1 3, fun w v => IntV w v u1 3, fun w v => DecQ w v (qOf z1 u1) (2 * 3 + 2), fun w v => DecI w v ((qOf z1 u1).num) (2 * 3 + 2), fun w v => DecI w v ((qOf z1 u1).den : Int) (2 * 3 + 2), fun w v => RawQ w v a2 (xs2.take 3) b2 (ys2.take 3), fun w v => QV w v z2 u2 3, fun w v => IntV w v z2 3, fun w v => IntV w v u2 3, fun w v => DecQ w v (qOf z2 u2) (2 * 3 + 2), fun w v => DecI w v ((qOf z2 u2).num) (2 * 3 + 2), fun w v => DecI w v ((qOf z2 u2).den : Int) (2 * 3 + 2), fun w v => NorQ w v ((qOf z0 u0) + (qOf z2 u2)) (2 * (3 + 3) + 9), fun w v => NorV w v (((qOf z0 u0) + (qOf z2 u2)).num) (2 * (3 + 3) + 9), fun w v => NorV w v (((qOf z0 u0) + (qOf z2 u2)).den : Int) (2 * (3 + 3) + 9), fun w v => NorQ w v ((qOf z1 u1) + (qOf z2 u2)) (2 * (3 + 3) + 9), fun w v => NorV w v (((qOf z1 u1) + (qOf z2 u2)).num) (2 * (3 + 3) + 9), fun w v => NorV w v (((qOf z1 u1) + (qOf z2 u2)).den : Int) (2 * (3 + 3) + 9), fun w v => NorQ w v (-(qOf z0 u0)) (3 + 2), fun w v => NorV w v ((-(qOf z0 u0)).num) (3 + 2), fun w v => NorV w v ((-(qOf z0 u0)).den : Int) (3 + 2), fun w v => NorQ w v (-(qOf z1 u1)) (3 + 2), fun w v => NorV w v ((-(qOf z1 u1)).num) (3 + 2), fun w v => NorV w v ((-(qOf z1 u1)).den : Int) (3 + 2), fun w v => NorQ w v (qOf z2 u2) (3 + 3 + 3 + 2), fun w v => NorV w v ((qOf z2 u2).num) (3 + 3 + 3 + 2), fun w v => NorV w v ((qOf z2 u2).den : Int) (3 + 3 + 3 + 2), fun w v => NorQ w v ((qOf z0 u0) - (qOf z1 u1)) (2 * (3 + 3) + 9), fun w v => NorV w v (((qOf z0 u0) - (qOf z1 u1)).num) (2 * (3 + 3) + 9), fun w v => NorV w v (((qOf z0 u0) - (qOf z1 u1)).den : Int) (2 * (3 + 3) + 9)]
def ins_path_gll : List Out := [⟨.agg [.b, .s, .b, .s], [(0, 0, 0)]⟩, ⟨.agg [.b, .s, .b, .s], [(0, 0, 1)]⟩, ⟨.agg [.b, .s, .b, .s], [(0, 0, 2)]⟩]
def ss_path_gll : List Site := [⟨30, [.fact 0, .lit (.ci .i64 3)], [⟨.agg [.b, .s, .b, .s], [(0, 0, 3), (0, 0, 4), (0, 2, 5), (2, 2, 6)]⟩, ⟨.agg [.s, .b, .s, .b], [(0, 0, 7), (0, 2, 8), (2, 2, 9)]⟩], true⟩,
      ⟨30, [.fact 1, .lit (.ci .i64 3)], [⟨.agg [.b, .s, .b, .s], [(0, 0, 10), (0, 0, 11), (0, 2, 12), (2, 2, 13)]⟩, ⟨.agg [.s, .b, .s, .b], [(0, 0, 14), (0, 2, 15), (2, 2, 16)]⟩], true⟩,
      ⟨30, [.fact 2, .lit (.ci .i64 3)], [⟨.agg [.b, .s, .b, .s], [(0, 0, 17), (0, 0, 18), (0, 2, 19), (2, 2, 20)]⟩, ⟨.agg [.s, .b, .s, .b], [(0, 0, 21), (0, 2, 22), (2, 2, 23)]⟩], true⟩,
      ⟨43, [.fact 4, .fact 11], [⟨.one (.lit (.ci .i64 1)), []⟩], false⟩,
      ⟨43, [.fact 11, .fact 18], [⟨.one (.lit (.ci .i64 (-1))), []⟩], false⟩,
      ⟨43, [.fact 4, .fact 18], [⟨.one (.lit (.ci .i64 (-1))), []⟩], false⟩,
      ⟨43, [.fact 11, .fact 4], [⟨.one (.lit (.ci .i64 (-1))), []⟩], false⟩,
      ⟨34, [.fact 4, .fact 18], [⟨.agg [.b, .s, .b, .s], [(0, 0, 24), (0, 2, 25), (2, 2, 26)]⟩], false⟩,
      ⟨34, [.fact 11, .fact 18], [⟨.agg [.b, .s, .b, .s], [(0, 0, 27), (0, 2, 28), (2, 2, 29)]⟩], false⟩,
      ⟨43, [.fact 24, .fact 27], [⟨.one (.lit (.ci .i64 1)), []⟩], false⟩,
      ⟨40, [.fact 4], [⟨.agg [.b, .s, .b, .s], [(0, 0, 30), (0, 2, 31), (2, 2, 32)]⟩], false⟩,
      ⟨40, [.fact 11], [⟨.agg [.b, .s, .b, .s], [(0, 0, 33), (0, 2, 34), (2, 2, 35)]⟩], false⟩,
      ⟨43, [.fact 30, .fact 33], [⟨.one (.lit (.ci .i64 (-1))), []⟩], false⟩,
      ⟨54, [.fact 4, .row 4 [11, 18]], [⟨.agg [.b, .s, .b, .s], [(0, 0, 36), (0, 2, 37), (2, 2, 38)]⟩], false⟩,
      ⟨43, [.fact 36, .fact 4], [⟨.one (.lit (.ci .i64 1)), []⟩], false⟩,
      ⟨43, [.fact 36, .fact 11], [⟨.one (.lit (.ci .i64 1)), []⟩], false⟩,
      ⟨43, [.fact 36, .fact 18], [⟨.one (.lit (.ci .i64 0)), []⟩], false⟩,
      ⟨43, [.fact 36, .fact 4], [⟨.one (.lit (.ci .i64 1)), []⟩], false⟩,
      ⟨43, [.fact 36, .fact 11], [⟨.one (.lit (.ci .i64 1)), []⟩], false⟩,
      ⟨43, [.fact 36, .fact 18], [⟨.one (.lit (.ci .i64 0)), []⟩], false⟩,
      ⟨36, [.fact 4, .fact 11], [⟨.agg [.b, .s, .b, .s], [(0, 0, 39), (0, 2, 40), (2, 2, 41)]⟩], false⟩,
      ⟨60, [.fact 40], [⟨.one (.lit (.ci .i64 1)), []⟩], false⟩,
      ⟨51, [], [⟨.one (.lit (.cb true)), []⟩], false⟩]
set_option maxRecDepth 100000 in
theorem path_gll {a0 b0 : Bool} {xs0 ys0 : List Nat} {z0 u0 : Int} (hz0 : sg a0 (Proofs.YtckhcijknfkghaaGreatDoor.val 4294967296 (xs0.take 3)) = z0) (hu0 : sg b0 (Proofs.YtckhcijknfkghaaGreatDoor.val 4294967296 (ys0.take 3)) = u0) {a1 b1 : Bool} {xs1 ys1 : List Nat} {z1 u1 : Int} (hz1 : sg a1 (Proofs.YtckhcijknfkghaaGreatDoor.val 4294967296 (xs1.take 3)) = z1) (hu1 : sg b1 (Proofs.YtckhcijknfkghaaGreatDoor.val 4294967296 (ys1.take 3)) = u1) {a2 b2 : Bool} {xs2 ys2 : List Nat} {z2 u2 : Int} (hz2 : sg a2 (Proofs.YtckhcijknfkghaaGreatDoor.val 4294967296 (xs2.take 3)) = z2) (hu2 : sg b2 (Proofs.YtckhcijknfkghaaGreatDoor.val 4294967296 (ys2.take 3)) = u2) (h1 : cmpQ (qOf z0 u0) (qOf z1 u1) = 1) (h2 : cmpQ (qOf z1 u1) (qOf z2 u2) = (-1)) (h3 : cmpQ (qOf z0 u0) (qOf z2 u2) = (-1)) : SiteOk (ph (phi_path_gll a0 b0 xs0 ys0 z0 u0 a1 b1 xs1 ys1 z1 u1 a2 b2 xs2 ys2 z2 u2)) Tryz.prog ⟨13, [.fact 0, .fact 1, .fact 2], [⟨.one (.lit (.cb true)), []⟩], false⟩ :=
  fn_ok ins_path_gll [⟨.one (.lit (.cb true)), []⟩] ss_path_gll
    Tryz.func13 (by kernel_rfl)
    (all_cons (sOfQ 3 rfl (fun _ _ h => h) rfl rfl rfl rfl rfl rfl rfl (by omega) hz0 hu0)
      (all_cons (sOfQ 3 rfl (fun _ _ h => h) rfl rfl rfl rfl rfl rfl rfl (by omega) hz1 hu1)
      (all_cons (sOfQ 3 rfl (fun _ _ h => h) rfl rfl rfl rfl rfl rfl rfl (by omega) hz2 hu2)
      (all_cons (sRCmp vQ vQ (by omega) h1)
      (all_cons (sRCmp vQ vQ (by omega) h2)
      (all_cons (sRCmp vQ vQ (by omega) h3)
      (all_cons (sRCmp vQ vQ (by omega) (cmpQ_sw h1 rfl))
      (all_cons (sRAdd vQ vQ rfl rfl rfl (by omega) rfl)
      (all_cons (sRAdd vQ vQ rfl rfl rfl (by omega) rfl)
      (all_cons (sRCmp pQ pQ (by omega) (cmpQ_add h1))
      (all_cons (sRNeg vQ rfl rfl rfl (by omega) rfl)
      (all_cons (sRNeg vQ rfl rfl rfl (by omega) rfl)
      (all_cons (sRCmp pQ pQ (by omega) (cmpQ_ng h1 rfl))
      (all_cons (sMax3 (fun _ _ h => h) (fun _ _ h => h) (fun _ _ h => h) rfl rfl rfl (by omega) (max3_ft (cmpQ_npos h1 (by decide)) (cmpQ_pos h3 (by decide))))
      (all_cons (sRCmp pQ vQ (by omega) (cmpQ_sw h3 rfl))
      (all_cons (sRCmp pQ vQ (by omega) (cmpQ_sw h2 rfl))
      (all_cons (sRCmp pQ vQ (by omega) (cmpQ_eq rfl))
      (all_cons (sRCmp pQ vQ (by omega) (cmpQ_sw h3 rfl))
      (all_cons (sRCmp pQ vQ (by omega) (cmpQ_sw h2 rfl))
      (all_cons (sRCmp pQ vQ (by omega) (cmpQ_eq rfl))
      (all_cons (sRSub vQ vQ rfl rfl rfl (by omega) rfl)
      (all_cons (sISign nN (cmpI_subq h1))
      (all_cons (sWakes4)
      all_nil)))))))))))))))))))))))
    (ins_ok [.fact 0 qS, .fact 1 qS, .fact 2 qS] ⟨fun _ _ h => RawQ.is h, fun _ _ h => RawQ.is h, fun _ _ h => RawQ.is h, trivial⟩) (fun _ _ _ h => h)

def phi_path_gle (a0 b0 : Bool) (xs0 ys0 : List Nat) (z0 u0 : Int) (a1 b1 : Bool) (xs1 ys1 : List Nat) (z1 u1 : Int) (a2 b2 : Bool) (xs2 ys2 : List Nat) (z2 u2 : Int) : List (World → Value → Prop) := [fun w v => RawQ w v a0 xs0 b0 ys0, fun w v => RawQ w v a1 xs1 b1 ys1, fun w v => RawQ w v a2 xs2 b2 ys2, fun w v => RawQ w v a0 (xs0.take 3) b0 (ys0.take 3), fun w v => QV w v z0 u0 3, fun w v => IntV w v z0 3, fun w v => IntV w v u0 3, fun w v => DecQ w v (qOf z0 u0) (2 * 3 + 2), fun w v => DecI w v ((qOf z0 u0).num) (2 * 3 + 2), fun w v => DecI w v ((qOf z0 u0).den : Int) (2 * 3 + 2), fun w v => RawQ w v a1 (xs1.take 3) b1 (ys1.take 3), fun w v => QV w v z1 u1 3, fun w v => IntV w v z1 3, fun w v => IntV w v u1 3, fun w v => DecQ w v (qOf z1 u1) (2 * 3 + 2), fun w v => DecI w v ((qOf z1 u1).num) (2 * 3 + 2), fun w v => DecI w v ((qOf z1 u1).den : Int) (2 * 3 + 2), fun w v => RawQ w v a2 (xs2.take 3) b2 (ys2.take 3), fun w v => QV w v z2 u2 3, fun w v => IntV w v z2 3, fun w v => IntV w v u2 3, fun w v => DecQ w v (qOf z2 u2) (2 * 3 + 2), fun w v => DecI w v ((qOf z2 u2).num) (2 * 3 + 2), fun w v => DecI w v ((qOf z2 u2).den : Int) (2 * 3 + 2), fun w v => NorQ w v ((qOf z0 u0) + (qOf z2 u2)) (2 * (3 + 3) + 9), fun w v => NorV w v (((qOf z0 u0) + (qOf z2 u2)).num) (2 * (3 + 3) + 9), fun w v => NorV w v (((qOf z0 u0) + (qOf z2 u2)).den : Int) (2 * (3 + 3) + 9), fun w v => NorQ w v ((qOf z1 u1) + (qOf z2 u2)) (2 * (3 + 3) + 9), fun w v => NorV w v (((qOf z1 u1) + (qOf z2 u2)).num) (2 * (3 + 3) + 9), fun w v => NorV w v (((qOf z1 u1) + (qOf z2 u2)).den : Int) (2 * (3 + 3) + 9), fun w v => NorQ w v (-(qOf z0 u0)) (3 + 2), fun w v => NorV w v ((-(qOf z0 u0)).num) (3 + 2), fun w v => NorV w v ((-(qOf z0 u0)).den : Int) (3 + 2), fun w v => NorQ w v (-(qOf z1 u1)) (3 + 2), fun w v => NorV w v ((-(qOf z1 u1)).num) (3 + 2), fun w v => NorV w v ((-(qOf z1 u1)).den : Int) (3 + 2), fun w v => NorQ w v (qOf z0 u0) (3 + 3 + 3 + 2), fun w v => NorV w v ((qOf z0 u0).num) (3 + 3 + 3 + 2), fun w v => NorV w v ((qOf z0 u0).den : Int) (3 + 3 + 3 + 2), fun w v => NorQ w v ((qOf z0 u0) - (qOf z1 u1)) (2 * (3 + 3) + 9), fun w v => NorV w v (((qOf z0 u0) - (qOf z1 u1)).num) (2 * (3 + 3) + 9), fun w v => NorV w v (((qOf z0 u0) - (qOf z1 u1)).den : Int) (2 * (3 + 3) + 9)]
def ins_path_gle : List Out := [⟨.agg [.b, .s, .b, .s], [(0, 0, 0)]⟩, ⟨.agg [.b, .s, .b, .s], [(0, 0, 1)]⟩, ⟨.agg [.b, .s, .b, .s], [(0, 0, 2)]⟩]
def ss_path_gle : List Site := [⟨30, [.fact 0, .lit (.ci .i64 3)], [⟨.agg [.b, .s, .b, .s], [(0, 0, 3), (0, 0, 4), (0, 2, 5), (2, 2, 6)]⟩, ⟨.agg [.s, .b, .s, .b], [(0, 0, 7), (0, 2, 8), (2, 2, 9)]⟩], true⟩,
      ⟨30, [.fact 1, .lit (.ci .i64 3)], [⟨.agg [.b, .s, .b, .s], [(0, 0, 10), (0, 0, 11), (0, 2, 12), (2, 2, 13)]⟩, ⟨.agg [.s, .b, .s, .b], [(0, 0, 14), (0, 2, 15), (2, 2, 16)]⟩], true⟩,
      ⟨30, [.fact 2, .lit (.ci .i64 3)], [⟨.agg [.b, .s, .b, .s], [(0, 0, 17), (0, 0, 18), (0, 2, 19), (2, 2, 20)]⟩, ⟨.agg [.s, .b, .s, .b], [(0, 0, 21), (0, 2, 22), (2, 2, 23)]⟩], true⟩,
      ⟨43, [.fact 4, .fact 11], [⟨.one (.lit (.ci .i64 1)), []⟩], false⟩,
      ⟨43, [.fact 11, .fact 18], [⟨.one (.lit (.ci .i64 (-1))), []⟩], false⟩,
      ⟨43, [.fact 4, .fact 18], [⟨.one (.lit (.ci .i64 0)), []⟩], false⟩,
      ⟨43, [.fact 11, .fact 4], [⟨.one (.lit (.ci .i64 (-1))), []⟩], false⟩,
      ⟨34, [.fact 4, .fact 18], [⟨.agg [.b, .s, .b, .s], [(0, 0, 24), (0, 2, 25), (2, 2, 26)]⟩], false⟩,
      ⟨34, [.fact 11, .fact 18], [⟨.agg [.b, .s, .b, .s], [(0, 0, 27), (0, 2, 28), (2, 2, 29)]⟩], false⟩,
      ⟨43, [.fact 24, .fact 27], [⟨.one (.lit (.ci .i64 1)), []⟩], false⟩,
      ⟨40, [.fact 4], [⟨.agg [.b, .s, .b, .s], [(0, 0, 30), (0, 2, 31), (2, 2, 32)]⟩], false⟩,
      ⟨40, [.fact 11], [⟨.agg [.b, .s, .b, .s], [(0, 0, 33), (0, 2, 34), (2, 2, 35)]⟩], false⟩,
      ⟨43, [.fact 30, .fact 33], [⟨.one (.lit (.ci .i64 (-1))), []⟩], false⟩,
      ⟨54, [.fact 4, .row 4 [11, 18]], [⟨.agg [.b, .s, .b, .s], [(0, 0, 36), (0, 2, 37), (2, 2, 38)]⟩], false⟩,
      ⟨43, [.fact 36, .fact 4], [⟨.one (.lit (.ci .i64 0)), []⟩], false⟩,
      ⟨43, [.fact 36, .fact 11], [⟨.one (.lit (.ci .i64 1)), []⟩], false⟩,
      ⟨43, [.fact 36, .fact 18], [⟨.one (.lit (.ci .i64 0)), []⟩], false⟩,
      ⟨43, [.fact 36, .fact 4], [⟨.one (.lit (.ci .i64 0)), []⟩], false⟩,
      ⟨36, [.fact 4, .fact 11], [⟨.agg [.b, .s, .b, .s], [(0, 0, 39), (0, 2, 40), (2, 2, 41)]⟩], false⟩,
      ⟨60, [.fact 40], [⟨.one (.lit (.ci .i64 1)), []⟩], false⟩,
      ⟨51, [], [⟨.one (.lit (.cb true)), []⟩], false⟩]
set_option maxRecDepth 100000 in
theorem path_gle {a0 b0 : Bool} {xs0 ys0 : List Nat} {z0 u0 : Int} (hz0 : sg a0 (Proofs.YtckhcijknfkghaaGreatDoor.val 4294967296 (xs0.take 3)) = z0) (hu0 : sg b0 (Proofs.YtckhcijknfkghaaGreatDoor.val 4294967296 (ys0.take 3)) = u0) {a1 b1 : Bool} {xs1 ys1 : List Nat} {z1 u1 : Int} (hz1 : sg a1 (Proofs.YtckhcijknfkghaaGreatDoor.val 4294967296 (xs1.take 3)) = z1) (hu1 : sg b1 (Proofs.YtckhcijknfkghaaGreatDoor.val 4294967296 (ys1.take 3)) = u1) {a2 b2 : Bool} {xs2 ys2 : List Nat} {z2 u2 : Int} (hz2 : sg a2 (Proofs.YtckhcijknfkghaaGreatDoor.val 4294967296 (xs2.take 3)) = z2) (hu2 : sg b2 (Proofs.YtckhcijknfkghaaGreatDoor.val 4294967296 (ys2.take 3)) = u2) (h1 : cmpQ (qOf z0 u0) (qOf z1 u1) = 1) (h2 : cmpQ (qOf z1 u1) (qOf z2 u2) = (-1)) (h3 : cmpQ (qOf z0 u0) (qOf z2 u2) = 0) : SiteOk (ph (phi_path_gle a0 b0 xs0 ys0 z0 u0 a1 b1 xs1 ys1 z1 u1 a2 b2 xs2 ys2 z2 u2)) Tryz.prog ⟨13, [.fact 0, .fact 1, .fact 2], [⟨.one (.lit (.cb true)), []⟩], false⟩ :=
  fn_ok ins_path_gle [⟨.one (.lit (.cb true)), []⟩] ss_path_gle
    Tryz.func13 (by kernel_rfl)
    (all_cons (sOfQ 3 rfl (fun _ _ h => h) rfl rfl rfl rfl rfl rfl rfl (by omega) hz0 hu0)
      (all_cons (sOfQ 3 rfl (fun _ _ h => h) rfl rfl rfl rfl rfl rfl rfl (by omega) hz1 hu1)
      (all_cons (sOfQ 3 rfl (fun _ _ h => h) rfl rfl rfl rfl rfl rfl rfl (by omega) hz2 hu2)
      (all_cons (sRCmp vQ vQ (by omega) h1)
      (all_cons (sRCmp vQ vQ (by omega) h2)
      (all_cons (sRCmp vQ vQ (by omega) h3)
      (all_cons (sRCmp vQ vQ (by omega) (cmpQ_sw h1 rfl))
      (all_cons (sRAdd vQ vQ rfl rfl rfl (by omega) rfl)
      (all_cons (sRAdd vQ vQ rfl rfl rfl (by omega) rfl)
      (all_cons (sRCmp pQ pQ (by omega) (cmpQ_add h1))
      (all_cons (sRNeg vQ rfl rfl rfl (by omega) rfl)
      (all_cons (sRNeg vQ rfl rfl rfl (by omega) rfl)
      (all_cons (sRCmp pQ pQ (by omega) (cmpQ_ng h1 rfl))
      (all_cons (sMax3 (fun _ _ h => h) (fun _ _ h => h) (fun _ _ h => h) rfl rfl rfl (by omega) (max3_ff (cmpQ_npos h1 (by decide)) (cmpQ_npos h3 (by decide))))
      (all_cons (sRCmp pQ vQ (by omega) (cmpQ_eq rfl))
      (all_cons (sRCmp pQ vQ (by omega) h1)
      (all_cons (sRCmp pQ vQ (by omega) h3)
      (all_cons (sRCmp pQ vQ (by omega) (cmpQ_eq rfl))
      (all_cons (sRSub vQ vQ rfl rfl rfl (by omega) rfl)
      (all_cons (sISign nN (cmpI_subq h1))
      (all_cons (sWakes4)
      all_nil)))))))))))))))))))))
    (ins_ok [.fact 0 qS, .fact 1 qS, .fact 2 qS] ⟨fun _ _ h => RawQ.is h, fun _ _ h => RawQ.is h, fun _ _ h => RawQ.is h, trivial⟩) (fun _ _ _ h => h)

def phi_path_glg (a0 b0 : Bool) (xs0 ys0 : List Nat) (z0 u0 : Int) (a1 b1 : Bool) (xs1 ys1 : List Nat) (z1 u1 : Int) (a2 b2 : Bool) (xs2 ys2 : List Nat) (z2 u2 : Int) : List (World → Value → Prop) := [fun w v => RawQ w v a0 xs0 b0 ys0, fun w v => RawQ w v a1 xs1 b1 ys1, fun w v => RawQ w v a2 xs2 b2 ys2, fun w v => RawQ w v a0 (xs0.take 3) b0 (ys0.take 3), fun w v => QV w v z0 u0 3, fun w v => IntV w v z0 3, fun w v => IntV w v u0 3, fun w v => DecQ w v (qOf z0 u0) (2 * 3 + 2), fun w v => DecI w v ((qOf z0 u0).num) (2 * 3 + 2), fun w v => DecI w v ((qOf z0 u0).den : Int) (2 * 3 + 2), fun w v => RawQ w v a1 (xs1.take 3) b1 (ys1.take 3), fun w v => QV w v z1 u1 3, fun w v => IntV w v z1 3, fun w v => IntV w v u1 3, fun w v => DecQ w v (qOf z1 u1) (2 * 3 + 2), fun w v => DecI w v ((qOf z1 u1).num) (2 * 3 + 2), fun w v => DecI w v ((qOf z1 u1).den : Int) (2 * 3 + 2), fun w v => RawQ w v a2 (xs2.take 3) b2 (ys2.take 3), fun w v => QV w v z2 u2 3, fun w v => IntV w v z2 3, fun w v => IntV w v u2 3, fun w v => DecQ w v (qOf z2 u2) (2 * 3 + 2), fun w v => DecI w v ((qOf z2 u2).num) (2 * 3 + 2), fun w v => DecI w v ((qOf z2 u2).den : Int) (2 * 3 + 2), fun w v => NorQ w v ((qOf z0 u0) + (qOf z2 u2)) (2 * (3 + 3) + 9), fun w v => NorV w v (((qOf z0 u0) + (qOf z2 u2)).num) (2 * (3 + 3) + 9), fun w v => NorV w v (((qOf z0 u0) + (qOf z2 u2)).den : Int) (2 * (3 + 3) + 9), fun w v => NorQ w v ((qOf z1 u1) + (qOf z2 u2)) (2 * (3 + 3) + 9), fun w v => NorV w v (((qOf z1 u1) + (qOf z2 u2)).num) (2 * (3 + 3) + 9), fun w v => NorV w v (((qOf z1 u1) + (qOf z2 u2)).den : Int) (2 * (3 + 3) + 9), fun w v => NorQ w v (-(qOf z0 u0)) (3 + 2), fun w v => NorV w v ((-(qOf z0 u0)).num) (3 + 2), fun w v => NorV w v ((-(qOf z0 u0)).den : Int) (3 + 2), fun w v => NorQ w v (-(qOf z1 u1)) (3 + 2), fun w v => NorV w v ((-(qOf z1 u1)).num) (3 + 2), fun w v => NorV w v ((-(qOf z1 u1)).den : Int) (3 + 2), fun w v => NorQ w v (qOf z0 u0) (3 + 3 + 3 + 2), fun w v => NorV w v ((qOf z0 u0).num) (3 + 3 + 3 + 2), fun w v => NorV w v ((qOf z0 u0).den : Int) (3 + 3 + 3 + 2), fun w v => NorQ w v ((qOf z0 u0) - (qOf z1 u1)) (2 * (3 + 3) + 9), fun w v => NorV w v (((qOf z0 u0) - (qOf z1 u1)).num) (2 * (3 + 3) + 9), fun w v => NorV w v (((qOf z0 u0) - (qOf z1 u1)).den : Int) (2 * (3 + 3) + 9)]
def ins_path_glg : List Out := [⟨.agg [.b, .s, .b, .s], [(0, 0, 0)]⟩, ⟨.agg [.b, .s, .b, .s], [(0, 0, 1)]⟩, ⟨.agg [.b, .s, .b, .s], [(0, 0, 2)]⟩]
def ss_path_glg : List Site := [⟨30, [.fact 0, .lit (.ci .i64 3)], [⟨.agg [.b, .s, .b, .s], [(0, 0, 3), (0, 0, 4), (0, 2, 5), (2, 2, 6)]⟩, ⟨.agg [.s, .b, .s, .b], [(0, 0, 7), (0, 2, 8), (2, 2, 9)]⟩], true⟩,
      ⟨30, [.fact 1, .lit (.ci .i64 3)], [⟨.agg [.b, .s, .b, .s], [(0, 0, 10), (0, 0, 11), (0, 2, 12), (2, 2, 13)]⟩, ⟨.agg [.s, .b, .s, .b], [(0, 0, 14), (0, 2, 15), (2, 2, 16)]⟩], true⟩,
      ⟨30, [.fact 2, .lit (.ci .i64 3)], [⟨.agg [.b, .s, .b, .s], [(0, 0, 17), (0, 0, 18), (0, 2, 19), (2, 2, 20)]⟩, ⟨.agg [.s, .b, .s, .b], [(0, 0, 21), (0, 2, 22), (2, 2, 23)]⟩], true⟩,
      ⟨43, [.fact 4, .fact 11], [⟨.one (.lit (.ci .i64 1)), []⟩], false⟩,
      ⟨43, [.fact 11, .fact 18], [⟨.one (.lit (.ci .i64 (-1))), []⟩], false⟩,
      ⟨43, [.fact 4, .fact 18], [⟨.one (.lit (.ci .i64 1)), []⟩], false⟩,
      ⟨43, [.fact 11, .fact 4], [⟨.one (.lit (.ci .i64 (-1))), []⟩], false⟩,
      ⟨34, [.fact 4, .fact 18], [⟨.agg [.b, .s, .b, .s], [(0, 0, 24), (0, 2, 25), (2, 2, 26)]⟩], false⟩,
      ⟨34, [.fact 11, .fact 18], [⟨.agg [.b, .s, .b, .s], [(0, 0, 27), (0, 2, 28), (2, 2, 29)]⟩], false⟩,
      ⟨43, [.fact 24, .fact 27], [⟨.one (.lit (.ci .i64 1)), []⟩], false⟩,
      ⟨40, [.fact 4], [⟨.agg [.b, .s, .b, .s], [(0, 0, 30), (0, 2, 31), (2, 2, 32)]⟩], false⟩,
      ⟨40, [.fact 11], [⟨.agg [.b, .s, .b, .s], [(0, 0, 33), (0, 2, 34), (2, 2, 35)]⟩], false⟩,
      ⟨43, [.fact 30, .fact 33], [⟨.one (.lit (.ci .i64 (-1))), []⟩], false⟩,
      ⟨54, [.fact 4, .row 4 [11, 18]], [⟨.agg [.b, .s, .b, .s], [(0, 0, 36), (0, 2, 37), (2, 2, 38)]⟩], false⟩,
      ⟨43, [.fact 36, .fact 4], [⟨.one (.lit (.ci .i64 0)), []⟩], false⟩,
      ⟨43, [.fact 36, .fact 11], [⟨.one (.lit (.ci .i64 1)), []⟩], false⟩,
      ⟨43, [.fact 36, .fact 18], [⟨.one (.lit (.ci .i64 1)), []⟩], false⟩,
      ⟨43, [.fact 36, .fact 4], [⟨.one (.lit (.ci .i64 0)), []⟩], false⟩,
      ⟨36, [.fact 4, .fact 11], [⟨.agg [.b, .s, .b, .s], [(0, 0, 39), (0, 2, 40), (2, 2, 41)]⟩], false⟩,
      ⟨60, [.fact 40], [⟨.one (.lit (.ci .i64 1)), []⟩], false⟩,
      ⟨51, [], [⟨.one (.lit (.cb true)), []⟩], false⟩]
set_option maxRecDepth 100000 in
theorem path_glg {a0 b0 : Bool} {xs0 ys0 : List Nat} {z0 u0 : Int} (hz0 : sg a0 (Proofs.YtckhcijknfkghaaGreatDoor.val 4294967296 (xs0.take 3)) = z0) (hu0 : sg b0 (Proofs.YtckhcijknfkghaaGreatDoor.val 4294967296 (ys0.take 3)) = u0) {a1 b1 : Bool} {xs1 ys1 : List Nat} {z1 u1 : Int} (hz1 : sg a1 (Proofs.YtckhcijknfkghaaGreatDoor.val 4294967296 (xs1.take 3)) = z1) (hu1 : sg b1 (Proofs.YtckhcijknfkghaaGreatDoor.val 4294967296 (ys1.take 3)) = u1) {a2 b2 : Bool} {xs2 ys2 : List Nat} {z2 u2 : Int} (hz2 : sg a2 (Proofs.YtckhcijknfkghaaGreatDoor.val 4294967296 (xs2.take 3)) = z2) (hu2 : sg b2 (Proofs.YtckhcijknfkghaaGreatDoor.val 4294967296 (ys2.take 3)) = u2) (h1 : cmpQ (qOf z0 u0) (qOf z1 u1) = 1) (h2 : cmpQ (qOf z1 u1) (qOf z2 u2) = (-1)) (h3 : cmpQ (qOf z0 u0) (qOf z2 u2) = 1) : SiteOk (ph (phi_path_glg a0 b0 xs0 ys0 z0 u0 a1 b1 xs1 ys1 z1 u1 a2 b2 xs2 ys2 z2 u2)) Tryz.prog ⟨13, [.fact 0, .fact 1, .fact 2], [⟨.one (.lit (.cb true)), []⟩], false⟩ :=
  fn_ok ins_path_glg [⟨.one (.lit (.cb true)), []⟩] ss_path_glg
    Tryz.func13 (by kernel_rfl)
    (all_cons (sOfQ 3 rfl (fun _ _ h => h) rfl rfl rfl rfl rfl rfl rfl (by omega) hz0 hu0)
      (all_cons (sOfQ 3 rfl (fun _ _ h => h) rfl rfl rfl rfl rfl rfl rfl (by omega) hz1 hu1)
      (all_cons (sOfQ 3 rfl (fun _ _ h => h) rfl rfl rfl rfl rfl rfl rfl (by omega) hz2 hu2)
      (all_cons (sRCmp vQ vQ (by omega) h1)
      (all_cons (sRCmp vQ vQ (by omega) h2)
      (all_cons (sRCmp vQ vQ (by omega) h3)
      (all_cons (sRCmp vQ vQ (by omega) (cmpQ_sw h1 rfl))
      (all_cons (sRAdd vQ vQ rfl rfl rfl (by omega) rfl)
      (all_cons (sRAdd vQ vQ rfl rfl rfl (by omega) rfl)
      (all_cons (sRCmp pQ pQ (by omega) (cmpQ_add h1))
      (all_cons (sRNeg vQ rfl rfl rfl (by omega) rfl)
      (all_cons (sRNeg vQ rfl rfl rfl (by omega) rfl)
      (all_cons (sRCmp pQ pQ (by omega) (cmpQ_ng h1 rfl))
      (all_cons (sMax3 (fun _ _ h => h) (fun _ _ h => h) (fun _ _ h => h) rfl rfl rfl (by omega) (max3_ff (cmpQ_npos h1 (by decide)) (cmpQ_npos h3 (by decide))))
      (all_cons (sRCmp pQ vQ (by omega) (cmpQ_eq rfl))
      (all_cons (sRCmp pQ vQ (by omega) h1)
      (all_cons (sRCmp pQ vQ (by omega) h3)
      (all_cons (sRCmp pQ vQ (by omega) (cmpQ_eq rfl))
      (all_cons (sRSub vQ vQ rfl rfl rfl (by omega) rfl)
      (all_cons (sISign nN (cmpI_subq h1))
      (all_cons (sWakes4)
      all_nil)))))))))))))))))))))
    (ins_ok [.fact 0 qS, .fact 1 qS, .fact 2 qS] ⟨fun _ _ h => RawQ.is h, fun _ _ h => RawQ.is h, fun _ _ h => RawQ.is h, trivial⟩) (fun _ _ _ h => h)

def phi_path_geg (a0 b0 : Bool) (xs0 ys0 : List Nat) (z0 u0 : Int) (a1 b1 : Bool) (xs1 ys1 : List Nat) (z1 u1 : Int) (a2 b2 : Bool) (xs2 ys2 : List Nat) (z2 u2 : Int) : List (World → Value → Prop) := [fun w v => RawQ w v a0 xs0 b0 ys0, fun w v => RawQ w v a1 xs1 b1 ys1, fun w v => RawQ w v a2 xs2 b2 ys2, fun w v => RawQ w v a0 (xs0.take 3) b0 (ys0.take 3), fun w v => QV w v z0 u0 3, fun w v => IntV w v z0 3, fun w v => IntV w v u0 3, fun w v => DecQ w v (qOf z0 u0) (2 * 3 + 2), fun w v => DecI w v ((qOf z0 u0).num) (2 * 3 + 2), fun w v => DecI w v ((qOf z0 u0).den : Int) (2 * 3 + 2), fun w v => RawQ w v a1 (xs1.take 3) b1 (ys1.take 3), fun w v => QV w v z1 u1 3, fun w v => IntV w v z1 3, fun w v => IntV w v u1 3, fun w v => DecQ w v (qOf z1 u1) (2 * 3 + 2), fun w v => DecI w v ((qOf z1 u1).num) (2 * 3 + 2), fun w v => DecI w v ((qOf z1 u1).den : Int) (2 * 3 + 2), fun w v => RawQ w v a2 (xs2.take 3) b2 (ys2.take 3), fun w v => QV w v z2 u2 3, fun w v => IntV w v z2 3, fun w v => IntV w v u2 3, fun w v => DecQ w v (qOf z2 u2) (2 * 3 + 2), fun w v => DecI w v ((qOf z2 u2).num) (2 * 3 + 2), fun w v => DecI w v ((qOf z2 u2).den : Int) (2 * 3 + 2), fun w v => NorQ w v ((qOf z0 u0) + (qOf z2 u2)) (2 * (3 + 3) + 9), fun w v => NorV w v (((qOf z0 u0) + (qOf z2 u2)).num) (2 * (3 + 3) + 9), fun w v => NorV w v (((qOf z0 u0) + (qOf z2 u2)).den : Int) (2 * (3 + 3) + 9), fun w v => NorQ w v ((qOf z1 u1) + (qOf z2 u2)) (2 * (3 + 3) + 9), fun w v => NorV w v (((qOf z1 u1) + (qOf z2 u2)).num) (2 * (3 + 3) + 9), fun w v => NorV w v (((qOf z1 u1) + (qOf z2 u2)).den : Int) (2 * (3 + 3) + 9), fun w v => NorQ w v (-(qOf z0 u0)) (3 + 2), fun w v => NorV w v ((-(qOf z0 u0)).num) (3 + 2), fun w v => NorV w v ((-(qOf z0 u0)).den : Int) (3 + 2), fun w v => NorQ w v (-(qOf z1 u1)) (3 + 2), fun w v => NorV w v ((-(qOf z1 u1)).num) (3 + 2), fun w v => NorV w v ((-(qOf z1 u1)).den : Int) (3 + 2), fun w v => NorQ w v (qOf z0 u0) (3 + 3 + 3 + 2), fun w v => NorV w v ((qOf z0 u0).num) (3 + 3 + 3 + 2), fun w v => NorV w v ((qOf z0 u0).den : Int) (3 + 3 + 3 + 2), fun w v => NorQ w v ((qOf z0 u0) - (qOf z1 u1)) (2 * (3 + 3) + 9), fun w v => NorV w v (((qOf z0 u0) - (qOf z1 u1)).num) (2 * (3 + 3) + 9), fun w v => NorV w v (((qOf z0 u0) - (qOf z1 u1)).den : Int) (2 * (3 + 3) + 9)]
def ins_path_geg : List Out := [⟨.agg [.b, .s, .b, .s], [(0, 0, 0)]⟩, ⟨.agg [.b, .s, .b, .s], [(0, 0, 1)]⟩, ⟨.agg [.b, .s, .b, .s], [(0, 0, 2)]⟩]
def ss_path_geg : List Site := [⟨30, [.fact 0, .lit (.ci .i64 3)], [⟨.agg [.b, .s, .b, .s], [(0, 0, 3), (0, 0, 4), (0, 2, 5), (2, 2, 6)]⟩, ⟨.agg [.s, .b, .s, .b], [(0, 0, 7), (0, 2, 8), (2, 2, 9)]⟩], true⟩,
      ⟨30, [.fact 1, .lit (.ci .i64 3)], [⟨.agg [.b, .s, .b, .s], [(0, 0, 10), (0, 0, 11), (0, 2, 12), (2, 2, 13)]⟩, ⟨.agg [.s, .b, .s, .b], [(0, 0, 14), (0, 2, 15), (2, 2, 16)]⟩], true⟩,
      ⟨30, [.fact 2, .lit (.ci .i64 3)], [⟨.agg [.b, .s, .b, .s], [(0, 0, 17), (0, 0, 18), (0, 2, 19), (2, 2, 20)]⟩, ⟨.agg [.s, .b, .s, .b], [(0, 0, 21), (0, 2, 22), (2, 2, 23)]⟩], true⟩,
      ⟨43, [.fact 4, .fact 11], [⟨.one (.lit (.ci .i64 1)), []⟩], false⟩,
      ⟨43, [.fact 11, .fact 18], [⟨.one (.lit (.ci .i64 0)), []⟩], false⟩,
      ⟨43, [.fact 4, .fact 18], [⟨.one (.lit (.ci .i64 1)), []⟩], false⟩,
      ⟨43, [.fact 11, .fact 4], [⟨.one (.lit (.ci .i64 (-1))), []⟩], false⟩,
      ⟨34, [.fact 4, .fact 18], [⟨.agg [.b, .s, .b, .s], [(0, 0, 24), (0, 2, 25), (2, 2, 26)]⟩], false⟩,
      ⟨34, [.fact 11, .fact 18], [⟨.agg [.b, .s, .b, .s], [(0, 0, 27), (0, 2, 28), (2, 2, 29)]⟩], false⟩,
      ⟨43, [.fact 24, .fact 27], [⟨.one (.lit (.ci .i64 1)), []⟩], false⟩,
      ⟨40, [.fact 4], [⟨.agg [.b, .s, .b, .s], [(0, 0, 30), (0, 2, 31), (2, 2, 32)]⟩], false⟩,
      ⟨40, [.fact 11], [⟨.agg [.b, .s, .b, .s], [(0, 0, 33), (0, 2, 34), (2, 2, 35)]⟩], false⟩,
      ⟨43, [.fact 30, .fact 33], [⟨.one (.lit (.ci .i64 (-1))), []⟩], false⟩,
      ⟨54, [.fact 4, .row 4 [11, 18]], [⟨.agg [.b, .s, .b, .s], [(0, 0, 36), (0, 2, 37), (2, 2, 38)]⟩], false⟩,
      ⟨43, [.fact 36, .fact 4], [⟨.one (.lit (.ci .i64 0)), []⟩], false⟩,
      ⟨43, [.fact 36, .fact 11], [⟨.one (.lit (.ci .i64 1)), []⟩], false⟩,
      ⟨43, [.fact 36, .fact 18], [⟨.one (.lit (.ci .i64 1)), []⟩], false⟩,
      ⟨43, [.fact 36, .fact 4], [⟨.one (.lit (.ci .i64 0)), []⟩], false⟩,
      ⟨36, [.fact 4, .fact 11], [⟨.agg [.b, .s, .b, .s], [(0, 0, 39), (0, 2, 40), (2, 2, 41)]⟩], false⟩,
      ⟨60, [.fact 40], [⟨.one (.lit (.ci .i64 1)), []⟩], false⟩,
      ⟨51, [], [⟨.one (.lit (.cb true)), []⟩], false⟩]
set_option maxRecDepth 100000 in
theorem path_geg {a0 b0 : Bool} {xs0 ys0 : List Nat} {z0 u0 : Int} (hz0 : sg a0 (Proofs.YtckhcijknfkghaaGreatDoor.val 4294967296 (xs0.take 3)) = z0) (hu0 : sg b0 (Proofs.YtckhcijknfkghaaGreatDoor.val 4294967296 (ys0.take 3)) = u0) {a1 b1 : Bool} {xs1 ys1 : List Nat} {z1 u1 : Int} (hz1 : sg a1 (Proofs.YtckhcijknfkghaaGreatDoor.val 4294967296 (xs1.take 3)) = z1) (hu1 : sg b1 (Proofs.YtckhcijknfkghaaGreatDoor.val 4294967296 (ys1.take 3)) = u1) {a2 b2 : Bool} {xs2 ys2 : List Nat} {z2 u2 : Int} (hz2 : sg a2 (Proofs.YtckhcijknfkghaaGreatDoor.val 4294967296 (xs2.take 3)) = z2) (hu2 : sg b2 (Proofs.YtckhcijknfkghaaGreatDoor.val 4294967296 (ys2.take 3)) = u2) (h1 : cmpQ (qOf z0 u0) (qOf z1 u1) = 1) (h2 : cmpQ (qOf z1 u1) (qOf z2 u2) = 0) (h3 : cmpQ (qOf z0 u0) (qOf z2 u2) = 1) : SiteOk (ph (phi_path_geg a0 b0 xs0 ys0 z0 u0 a1 b1 xs1 ys1 z1 u1 a2 b2 xs2 ys2 z2 u2)) Tryz.prog ⟨13, [.fact 0, .fact 1, .fact 2], [⟨.one (.lit (.cb true)), []⟩], false⟩ :=
  fn_ok ins_path_geg [⟨.one (.lit (.cb true)), []⟩] ss_path_geg
    Tryz.func13 (by kernel_rfl)
    (all_cons (sOfQ 3 rfl (fun _ _ h => h) rfl rfl rfl rfl rfl rfl rfl (by omega) hz0 hu0)
      (all_cons (sOfQ 3 rfl (fun _ _ h => h) rfl rfl rfl rfl rfl rfl rfl (by omega) hz1 hu1)
      (all_cons (sOfQ 3 rfl (fun _ _ h => h) rfl rfl rfl rfl rfl rfl rfl (by omega) hz2 hu2)
      (all_cons (sRCmp vQ vQ (by omega) h1)
      (all_cons (sRCmp vQ vQ (by omega) h2)
      (all_cons (sRCmp vQ vQ (by omega) h3)
      (all_cons (sRCmp vQ vQ (by omega) (cmpQ_sw h1 rfl))
      (all_cons (sRAdd vQ vQ rfl rfl rfl (by omega) rfl)
      (all_cons (sRAdd vQ vQ rfl rfl rfl (by omega) rfl)
      (all_cons (sRCmp pQ pQ (by omega) (cmpQ_add h1))
      (all_cons (sRNeg vQ rfl rfl rfl (by omega) rfl)
      (all_cons (sRNeg vQ rfl rfl rfl (by omega) rfl)
      (all_cons (sRCmp pQ pQ (by omega) (cmpQ_ng h1 rfl))
      (all_cons (sMax3 (fun _ _ h => h) (fun _ _ h => h) (fun _ _ h => h) rfl rfl rfl (by omega) (max3_ff (cmpQ_npos h1 (by decide)) (cmpQ_npos h3 (by decide))))
      (all_cons (sRCmp pQ vQ (by omega) (cmpQ_eq rfl))
      (all_cons (sRCmp pQ vQ (by omega) h1)
      (all_cons (sRCmp pQ vQ (by omega) h3)
      (all_cons (sRCmp pQ vQ (by omega) (cmpQ_eq rfl))
      (all_cons (sRSub vQ vQ rfl rfl rfl (by omega) rfl)
      (all_cons (sISign nN (cmpI_subq h1))
      (all_cons (sWakes4)
      all_nil)))))))))))))))))))))
    (ins_ok [.fact 0 qS, .fact 1 qS, .fact 2 qS] ⟨fun _ _ h => RawQ.is h, fun _ _ h => RawQ.is h, fun _ _ h => RawQ.is h, trivial⟩) (fun _ _ _ h => h)

def phi_path_ggg (a0 b0 : Bool) (xs0 ys0 : List Nat) (z0 u0 : Int) (a1 b1 : Bool) (xs1 ys1 : List Nat) (z1 u1 : Int) (a2 b2 : Bool) (xs2 ys2 : List Nat) (z2 u2 : Int) : List (World → Value → Prop) := [fun w v => RawQ w v a0 xs0 b0 ys0, fun w v => RawQ w v a1 xs1 b1 ys1, fun w v => RawQ w v a2 xs2 b2 ys2, fun w v => RawQ w v a0 (xs0.take 3) b0 (ys0.take 3), fun w v => QV w v z0 u0 3, fun w v => IntV w v z0 3, fun w v => IntV w v u0 3, fun w v => DecQ w v (qOf z0 u0) (2 * 3 + 2), fun w v => DecI w v ((qOf z0 u0).num) (2 * 3 + 2), fun w v => DecI w v ((qOf z0 u0).den : Int) (2 * 3 + 2), fun w v => RawQ w v a1 (xs1.take 3) b1 (ys1.take 3), fun w v => QV w v z1 u1 3, fun w v => IntV w v z1 3, fun w v => IntV w v u1 3, fun w v => DecQ w v (qOf z1 u1) (2 * 3 + 2), fun w v => DecI w v ((qOf z1 u1).num) (2 * 3 + 2), fun w v => DecI w v ((qOf z1 u1).den : Int) (2 * 3 + 2), fun w v => RawQ w v a2 (xs2.take 3) b2 (ys2.take 3), fun w v => QV w v z2 u2 3, fun w v => IntV w v z2 3, fun w v => IntV w v u2 3, fun w v => DecQ w v (qOf z2 u2) (2 * 3 + 2), fun w v => DecI w v ((qOf z2 u2).num) (2 * 3 + 2), fun w v => DecI w v ((qOf z2 u2).den : Int) (2 * 3 + 2), fun w v => NorQ w v ((qOf z0 u0) + (qOf z2 u2)) (2 * (3 + 3) + 9), fun w v => NorV w v (((qOf z0 u0) + (qOf z2 u2)).num) (2 * (3 + 3) + 9), fun w v => NorV w v (((qOf z0 u0) + (qOf z2 u2)).den : Int) (2 * (3 + 3) + 9), fun w v => NorQ w v ((qOf z1 u1) + (qOf z2 u2)) (2 * (3 + 3) + 9), fun w v => NorV w v (((qOf z1 u1) + (qOf z2 u2)).num) (2 * (3 + 3) + 9), fun w v => NorV w v (((qOf z1 u1) + (qOf z2 u2)).den : Int) (2 * (3 + 3) + 9), fun w v => NorQ w v (-(qOf z0 u0)) (3 + 2), fun w v => NorV w v ((-(qOf z0 u0)).num) (3 + 2), fun w v => NorV w v ((-(qOf z0 u0)).den : Int) (3 + 2), fun w v => NorQ w v (-(qOf z1 u1)) (3 + 2), fun w v => NorV w v ((-(qOf z1 u1)).num) (3 + 2), fun w v => NorV w v ((-(qOf z1 u1)).den : Int) (3 + 2), fun w v => NorQ w v (qOf z0 u0) (3 + 3 + 3 + 2), fun w v => NorV w v ((qOf z0 u0).num) (3 + 3 + 3 + 2), fun w v => NorV w v ((qOf z0 u0).den : Int) (3 + 3 + 3 + 2), fun w v => NorQ w v ((qOf z0 u0) - (qOf z1 u1)) (2 * (3 + 3) + 9), fun w v => NorV w v (((qOf z0 u0) - (qOf z1 u1)).num) (2 * (3 + 3) + 9), fun w v => NorV w v (((qOf z0 u0) - (qOf z1 u1)).den : Int) (2 * (3 + 3) + 9)]
def ins_path_ggg : List Out := [⟨.agg [.b, .s, .b, .s], [(0, 0, 0)]⟩, ⟨.agg [.b, .s, .b, .s], [(0, 0, 1)]⟩, ⟨.agg [.b, .s, .b, .s], [(0, 0, 2)]⟩]
def ss_path_ggg : List Site := [⟨30, [.fact 0, .lit (.ci .i64 3)], [⟨.agg [.b, .s, .b, .s], [(0, 0, 3), (0, 0, 4), (0, 2, 5), (2, 2, 6)]⟩, ⟨.agg [.s, .b, .s, .b], [(0, 0, 7), (0, 2, 8), (2, 2, 9)]⟩], true⟩,
      ⟨30, [.fact 1, .lit (.ci .i64 3)], [⟨.agg [.b, .s, .b, .s], [(0, 0, 10), (0, 0, 11), (0, 2, 12), (2, 2, 13)]⟩, ⟨.agg [.s, .b, .s, .b], [(0, 0, 14), (0, 2, 15), (2, 2, 16)]⟩], true⟩,
      ⟨30, [.fact 2, .lit (.ci .i64 3)], [⟨.agg [.b, .s, .b, .s], [(0, 0, 17), (0, 0, 18), (0, 2, 19), (2, 2, 20)]⟩, ⟨.agg [.s, .b, .s, .b], [(0, 0, 21), (0, 2, 22), (2, 2, 23)]⟩], true⟩,
      ⟨43, [.fact 4, .fact 11], [⟨.one (.lit (.ci .i64 1)), []⟩], false⟩,
      ⟨43, [.fact 11, .fact 18], [⟨.one (.lit (.ci .i64 1)), []⟩], false⟩,
      ⟨43, [.fact 4, .fact 18], [⟨.one (.lit (.ci .i64 1)), []⟩], false⟩,
      ⟨43, [.fact 11, .fact 4], [⟨.one (.lit (.ci .i64 (-1))), []⟩], false⟩,
      ⟨34, [.fact 4, .fact 18], [⟨.agg [.b, .s, .b, .s], [(0, 0, 24), (0, 2, 25), (2, 2, 26)]⟩], false⟩,
      ⟨34, [.fact 11, .fact 18], [⟨.agg [.b, .s, .b, .s], [(0, 0, 27), (0, 2, 28), (2, 2, 29)]⟩], false⟩,
      ⟨43, [.fact 24, .fact 27], [⟨.one (.lit (.ci .i64 1)), []⟩], false⟩,
      ⟨40, [.fact 4], [⟨.agg [.b, .s, .b, .s], [(0, 0, 30), (0, 2, 31), (2, 2, 32)]⟩], false⟩,
      ⟨40, [.fact 11], [⟨.agg [.b, .s, .b, .s], [(0, 0, 33), (0, 2, 34), (2, 2, 35)]⟩], false⟩,
      ⟨43, [.fact 30, .fact 33], [⟨.one (.lit (.ci .i64 (-1))), []⟩], false⟩,
      ⟨54, [.fact 4, .row 4 [11, 18]], [⟨.agg [.b, .s, .b, .s], [(0, 0, 36), (0, 2, 37), (2, 2, 38)]⟩], false⟩,
      ⟨43, [.fact 36, .fact 4], [⟨.one (.lit (.ci .i64 0)), []⟩], false⟩,
      ⟨43, [.fact 36, .fact 11], [⟨.one (.lit (.ci .i64 1)), []⟩], false⟩,
      ⟨43, [.fact 36, .fact 18], [⟨.one (.lit (.ci .i64 1)), []⟩], false⟩,
      ⟨43, [.fact 36, .fact 4], [⟨.one (.lit (.ci .i64 0)), []⟩], false⟩,
      ⟨36, [.fact 4, .fact 11], [⟨.agg [.b, .s, .b, .s], [(0, 0, 39), (0, 2, 40), (2, 2, 41)]⟩], false⟩,
      ⟨60, [.fact 40], [⟨.one (.lit (.ci .i64 1)), []⟩], false⟩,
      ⟨51, [], [⟨.one (.lit (.cb true)), []⟩], false⟩]
set_option maxRecDepth 100000 in
theorem path_ggg {a0 b0 : Bool} {xs0 ys0 : List Nat} {z0 u0 : Int} (hz0 : sg a0 (Proofs.YtckhcijknfkghaaGreatDoor.val 4294967296 (xs0.take 3)) = z0) (hu0 : sg b0 (Proofs.YtckhcijknfkghaaGreatDoor.val 4294967296 (ys0.take 3)) = u0) {a1 b1 : Bool} {xs1 ys1 : List Nat} {z1 u1 : Int} (hz1 : sg a1 (Proofs.YtckhcijknfkghaaGreatDoor.val 4294967296 (xs1.take 3)) = z1) (hu1 : sg b1 (Proofs.YtckhcijknfkghaaGreatDoor.val 4294967296 (ys1.take 3)) = u1) {a2 b2 : Bool} {xs2 ys2 : List Nat} {z2 u2 : Int} (hz2 : sg a2 (Proofs.YtckhcijknfkghaaGreatDoor.val 4294967296 (xs2.take 3)) = z2) (hu2 : sg b2 (Proofs.YtckhcijknfkghaaGreatDoor.val 4294967296 (ys2.take 3)) = u2) (h1 : cmpQ (qOf z0 u0) (qOf z1 u1) = 1) (h2 : cmpQ (qOf z1 u1) (qOf z2 u2) = 1) (h3 : cmpQ (qOf z0 u0) (qOf z2 u2) = 1) : SiteOk (ph (phi_path_ggg a0 b0 xs0 ys0 z0 u0 a1 b1 xs1 ys1 z1 u1 a2 b2 xs2 ys2 z2 u2)) Tryz.prog ⟨13, [.fact 0, .fact 1, .fact 2], [⟨.one (.lit (.cb true)), []⟩], false⟩ :=
  fn_ok ins_path_ggg [⟨.one (.lit (.cb true)), []⟩] ss_path_ggg
    Tryz.func13 (by kernel_rfl)
    (all_cons (sOfQ 3 rfl (fun _ _ h => h) rfl rfl rfl rfl rfl rfl rfl (by omega) hz0 hu0)
      (all_cons (sOfQ 3 rfl (fun _ _ h => h) rfl rfl rfl rfl rfl rfl rfl (by omega) hz1 hu1)
      (all_cons (sOfQ 3 rfl (fun _ _ h => h) rfl rfl rfl rfl rfl rfl rfl (by omega) hz2 hu2)
      (all_cons (sRCmp vQ vQ (by omega) h1)
      (all_cons (sRCmp vQ vQ (by omega) h2)
      (all_cons (sRCmp vQ vQ (by omega) h3)
      (all_cons (sRCmp vQ vQ (by omega) (cmpQ_sw h1 rfl))
      (all_cons (sRAdd vQ vQ rfl rfl rfl (by omega) rfl)
      (all_cons (sRAdd vQ vQ rfl rfl rfl (by omega) rfl)
      (all_cons (sRCmp pQ pQ (by omega) (cmpQ_add h1))
      (all_cons (sRNeg vQ rfl rfl rfl (by omega) rfl)
      (all_cons (sRNeg vQ rfl rfl rfl (by omega) rfl)
      (all_cons (sRCmp pQ pQ (by omega) (cmpQ_ng h1 rfl))
      (all_cons (sMax3 (fun _ _ h => h) (fun _ _ h => h) (fun _ _ h => h) rfl rfl rfl (by omega) (max3_ff (cmpQ_npos h1 (by decide)) (cmpQ_npos h3 (by decide))))
      (all_cons (sRCmp pQ vQ (by omega) (cmpQ_eq rfl))
      (all_cons (sRCmp pQ vQ (by omega) h1)
      (all_cons (sRCmp pQ vQ (by omega) h3)
      (all_cons (sRCmp pQ vQ (by omega) (cmpQ_eq rfl))
      (all_cons (sRSub vQ vQ rfl rfl rfl (by omega) rfl)
      (all_cons (sISign nN (cmpI_subq h1))
      (all_cons (sWakes4)
      all_nil)))))))))))))))))))))
    (ins_ok [.fact 0 qS, .fact 1 qS, .fact 2 qS] ⟨fun _ _ h => RawQ.is h, fun _ _ h => RawQ.is h, fun _ _ h => RawQ.is h, trivial⟩) (fun _ _ _ h => h)

end Go.Proofs.YtckhcijknfkghaaGreatDoor.ratioorders
