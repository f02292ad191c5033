/- PolyLaws holds: for every two polynomials and every rational the law returns true and leaves them as they were. No condition. -/
import Derived.Test.YtigkehblnlghkaaGreatPolI
import Derived.Test.YtigkehblnlghkaaGreatPolR
import Derived.Test.YtigkehblnlghkaaGreatPolO
namespace Go.Proofs.YtigkehblnlghkaaGreat.plaws
open Go.ChangeShapes Go.WideShapes Go.ChangeAt Go.RowKit
open Go.Proofs.YtigkehblnlghkaaGreat.Sym hiding val run start

theorem qOf_bd {z u : Int} {k : Nat} (hk : 1 ≤ k) (hz : Bd z.natAbs k) (hu : Bd u.natAbs k) : Bd (qOf z u).num.natAbs k ∧ Bd (qOf z u).den k := by
  unfold qOf
  split
  · exact ⟨hz.le (num_le _ _), Bd.le (show Bd 1 k from Nat.one_lt_pow (by omega) (by omega)) (den_le (by omega))⟩
  · rename_i h
    exact ⟨hz.le (num_le _ _), hu.le (den_le h)⟩
theorem cmpI_sign (z : Int) : cmpI z 0 = z.sign := by
  unfold cmpI
  split
  · rw [Int.sign_eq_neg_one_of_neg (by assumption)]
  · split
    · rename_i h; rw [h]; rfl
    · rw [Int.sign_eq_one_of_pos (by omega)]
theorem sign_pos {a b d e : Int} (hd : 0 < d) (he : 0 < e) (h : a * e = b * d) : a.sign = b.sign := by
  have h1 := congrArg Int.sign h
  rw [Int.sign_mul, Int.sign_mul, Int.sign_eq_one_of_pos hd, Int.sign_eq_one_of_pos he] at h1
  omega
theorem den_pow (q : Rat) (m : Nat) : (0 : Int) < ((q.den : Nat) : Int) ^ m := Int.pow_pos (by have := q.den_pos; omega)
theorem sign_mulL (q : Rat) (z : Nat → Int) (n : Nat) (y : Nat → Int) (m : Nat) : cmpI (hN (coef (mulL z n y m)) (tl (coef (mulL z n y m)) (mulL z n y m).length) q.num q.den (tl (coef (mulL z n y m)) (mulL z n y m).length - 1)) 0 = cmpI (hN z (tl z n) q.num q.den (tl z n - 1)) 0 * cmpI (hN y (tl y m) q.num q.den (tl y m - 1)) 0 := by
  have h1 := at_ev (coef (mulL z n y m)) (mulL z n y m).length q
  have h2 := at_ev z n q
  have h3 := at_ev y m q
  rw [ev_mulL, ← h2, ← h3, Rat.divInt_mul_divInt] at h1
  have p1 := den_pow q (tl (coef (mulL z n y m)) (mulL z n y m).length - 1)
  have p2 := den_pow q (tl z n - 1)
  have p3 := den_pow q (tl y m - 1)
  have p4 := Int.mul_pos p2 p3
  rw [Rat.divInt_eq_divInt_iff (by omega) (by omega)] at h1
  rw [cmpI_sign, cmpI_sign, cmpI_sign, ← Int.sign_mul]
  exact sign_pos p1 p4 h1
theorem cmpI_small (z : Int) : -1 ≤ cmpI z 0 ∧ cmpI z 0 ≤ 1 := by
  unfold cmpI
  split
  · omega
  · split <;> omega
theorem small_mul {x y : Int} (h1 : -1 ≤ x) (h2 : x ≤ 1) (h3 : -1 ≤ y) (h4 : y ≤ 1) : -1 ≤ x * y ∧ x * y ≤ 1 := by
  rcases (show x = -1 ∨ x = 0 ∨ x = 1 by omega) with rfl | rfl | rfl <;> constructor <;> omega
theorem upto_fun (L : List Int) : upto L.length (coef L) = coef L := funext fun i => upto_coef L i
theorem trimL_le (n : Nat) (f : Nat → Int) : (trimL (mk n f)).length ≤ n := by rw [trimL_mk]; exact tl_le _ _
theorem drvL_le (z : Nat → Int) (n : Nat) : (drvL z n).length ≤ n := by
  have := tl_le z n
  rw [drvL, mk_length]; omega
def b_path_0 (aa ab : Nat → Bool) (xsa xsb : Nat → List Nat) (eza ezb : Nat → Int) (ma mb Na Nb : Nat) (b0 c0 : Bool) (ys0 ys1 : List Nat) (z0 u0 s pw : Int) (K : Nat) (L1 D1 D2 L2 D3 L3 S1 A1 B1 M1 BK SC : List Int) : List (World → Value → Prop) := [fun w v => Rw 2 (fun ι w v => RawI w v (aa ι) (xsa ι)) ma w v, fun w v => Rw 2 (fun ι w v => RawI w v (ab ι) (xsb ι)) mb w v, fun w v => RawQ w v b0 ys0 c0 ys1, fun w v => Rw 2 (fun ι w v => KI w v (aa ι) ((fun ι => (xsa ι).take 2) ι) (eza ι) 2) Na w v, fun w v => Rw 4 (fun ι w v => DecQ w v ((((coef (trimL (mk Na eza))) ι : Int) : Rat)) (2 + 2 + 2)) ((trimL (mk Na eza)).length) w v, fun w v => Rw 2 (fun ι w v => KI w v (ab ι) ((fun ι => (xsb ι).take 2) ι) (ezb ι) 2) Nb w v, fun w v => Rw 4 (fun ι w v => DecQ w v ((((coef (trimL (mk Nb ezb))) ι : Int) : Rat)) (2 + 2 + 2)) ((trimL (mk Nb ezb)).length) w v, fun w v => QV w v z0 u0 2, fun w v => Rw 2 (fun ι w v => NorV w v ((coef L1) ι) (2 + 2 + 14 + 1)) L1.length w v, fun _ v => v = .int .i64 (cmpI (hN (coef L1) (tl (coef L1) L1.length) (qOf z0 u0).num (qOf z0 u0).den ((tl (coef L1) L1.length) - 1)) 0), fun _ v => v = .int .i64 (cmpI (hN eza (tl eza Na) (qOf z0 u0).num (qOf z0 u0).den ((tl eza Na) - 1)) 0), fun _ v => v = .int .i64 (cmpI (hN ezb (tl ezb Nb) (qOf z0 u0).num (qOf z0 u0).den ((tl ezb Nb) - 1)) 0), fun _ v => v = .int .i64 s, fun w v => Rw 2 (fun ι w v => NorV w v ((coef D1) ι) (2 + (2 + 2 + 14 + 1))) D1.length w v, fun w v => Rw 2 (fun ι w v => NorV w v ((coef D2) ι) (2 + 2)) D2.length w v, fun w v => Rw 2 (fun ι w v => NorV w v ((coef L2) ι) ((2 + 2) + 2 + 14 + 1)) L2.length w v, fun w v => Rw 2 (fun ι w v => NorV w v ((coef D3) ι) (2 + 2)) D3.length w v, fun w v => Rw 2 (fun ι w v => NorV w v ((coef L3) ι) (2 + (2 + 2) + 14 + 1)) L3.length w v, fun w v => Rw 2 (fun ι w v => NorV w v ((coef S1) ι) (((2 + 2) + 2 + 14 + 1) + (2 + (2 + 2) + 14 + 1) + 1)) S1.length w v, fun w v => Rw 2 (fun ι w v => NorV w v ((coef A1) ι) (2 + 2 + 1)) A1.length w v, fun w v => Rw 2 (fun ι w v => NorV w v ((coef B1) ι) ((2 + 2 + 1) + 2 + 1)) B1.length w v, fun w v => NorV w v (3 : Int) 2, fun w v => NorV w v (2 : Int) 2, fun w v => Rw 2 (fun ι w v => NorV w v ((coef M1) ι) 130) M1.length w v, fun w v => NorV w v (-(3 : Int)) 2, fun w v => Rw 2 (fun ι w v => NorV w v ((coef BK) ι) 260) BK.length w v, fun _ v => v = .int .i64 (((trimL (mk Na eza)).length : Nat) : Int), fun _ v => v = .int .i64 (((trimL (mk Na eza)).length : Int) - 1), fun _ v => v = .int .i64 ((K : Nat) : Int), fun _ v => v = .int .i64 (((2 * K) : Nat) : Int), fun w v => NorV w v pw 13, fun w v => Rw 2 (fun ι w v => NorV w v ((coef SC) ι) (2 + 13)) SC.length w v]
def ss_path_0 : List Step := [.base ⟨11, [.fact 0, .lit (.ci .i64 7), .lit (.ci .i64 2)], [⟨.one (.s), [(0, 0, 3)]⟩, ⟨.one (.s), [(0, 0, 4)]⟩], true⟩,
      .base ⟨11, [.fact 1, .lit (.ci .i64 7), .lit (.ci .i64 2)], [⟨.one (.s), [(0, 0, 5)]⟩, ⟨.one (.s), [(0, 0, 6)]⟩], true⟩,
      .base ⟨12, [.fact 2, .lit (.ci .i64 2)], [⟨.agg [.b, .s, .b, .s], [(0, 0, 7)]⟩], false⟩,
      .base ⟨13, [.fact 3, .fact 5], [⟨.one (.s), [(0, 0, 8)]⟩], false⟩,
      .base ⟨14, [.fact 8, .fact 7], [⟨.one (.i), [(0, 0, 9)]⟩], false⟩,
      .base ⟨14, [.fact 3, .fact 7], [⟨.one (.i), [(0, 0, 10)]⟩], false⟩,
      .base ⟨14, [.fact 5, .fact 7], [⟨.one (.i), [(0, 0, 11)]⟩], false⟩,
      .base ⟨0, [.fact 10, .fact 11], [⟨.one (.i), [(0, 0, 12)]⟩], .quiet (mBin .mul)⟩,
      .base ⟨0, [.fact 9, .fact 12], [⟨.one (.lit (.cb false)), []⟩], .quiet (mBin .neq)⟩,
      .base ⟨16, [.fact 8], [⟨.one (.s), [(0, 0, 13)]⟩], false⟩,
      .base ⟨16, [.fact 3], [⟨.one (.s), [(0, 0, 14)]⟩], false⟩,
      .base ⟨13, [.fact 14, .fact 5], [⟨.one (.s), [(0, 0, 15)]⟩], false⟩,
      .base ⟨16, [.fact 5], [⟨.one (.s), [(0, 0, 16)]⟩], false⟩,
      .base ⟨13, [.fact 3, .fact 16], [⟨.one (.s), [(0, 0, 17)]⟩], false⟩,
      .base ⟨17, [.fact 15, .fact 17], [⟨.one (.s), [(0, 0, 18)]⟩], false⟩,
      .base ⟨15, [.fact 13, .fact 18], [⟨.one (.lit (.cb true)), []⟩], false⟩,
      .base ⟨17, [.fact 3, .fact 5], [⟨.one (.s), [(0, 0, 19)]⟩], false⟩,
      .base ⟨18, [.fact 19, .fact 5], [⟨.one (.s), [(0, 0, 20)]⟩], false⟩,
      .base ⟨15, [.fact 20, .fact 3], [⟨.one (.lit (.cb true)), []⟩], false⟩,
      .base ⟨19, [.lit (.ci .i64 3)], [⟨.agg [.b, .s], [(0, 0, 21)]⟩], false⟩,
      .base ⟨19, [.lit (.ci .i64 2)], [⟨.agg [.b, .s], [(0, 0, 22)]⟩], false⟩,
      .base ⟨20, [.fact 3, .fact 21, .fact 22], [⟨.one (.s), [(0, 0, 23)]⟩, ⟨.one (.lit (.ci .i64 0)), []⟩], true⟩,
      .base ⟨21, [.fact 21], [⟨.agg [.b, .s], [(0, 0, 24)]⟩], false⟩,
      .base ⟨20, [.fact 23, .fact 24, .fact 22], [⟨.one (.s), [(0, 0, 25)]⟩, ⟨.one (.lit (.ci .i64 0)), []⟩], true⟩,
      .base ⟨0, [.fact 4], [⟨.one (.i), [(0, 0, 26)]⟩], .quiet (mLen 30)⟩,
      .base ⟨0, [.fact 26, .lit (.ci .i64 1)], [⟨.one (.i), [(0, 0, 27)]⟩], .quiet (mBin .sub)⟩,
      .base ⟨0, [.fact 27, .lit (.ci .i64 0)], [⟨.one (.i), [(0, 0, 28)]⟩], .quiet (mMax .max)⟩,
      .base ⟨0, [.lit (.ci .i64 2), .fact 28], [⟨.one (.i), [(0, 0, 29)]⟩], .quiet (mBin .mul)⟩,
      .base ⟨23, [.fact 22, .fact 29], [⟨.agg [.b, .s], [(0, 0, 30)]⟩], false⟩,
      .base ⟨22, [.fact 3, .fact 30], [⟨.one (.s), [(0, 0, 31)]⟩], false⟩,
      .base ⟨15, [.fact 25, .fact 31], [⟨.one (.lit (.cb true)), []⟩], false⟩,
      .base ⟨24, [], [⟨.one (.lit (.cb true)), []⟩], false⟩]
def ins_path_0 : List Out := [⟨.one (.s), [(0, 0, 0)]⟩, ⟨.one (.s), [(0, 0, 1)]⟩, ⟨.agg [.b, .s, .b, .s], [(0, 0, 2)]⟩]
set_option maxRecDepth 100000 in
theorem path_0 {aa ab : Nat → Bool} {xsa xsb : Nat → List Nat} {eza ezb : Nat → Int} {ma mb Na Nb : Nat} {b0 c0 : Bool} {ys0 ys1 : List Nat} {z0 u0 s pw : Int} {K : Nat} {L1 D1 D2 L2 D3 L3 S1 A1 B1 M1 BK SC : List Int} (hna : ma ≤ 9223372036854775807) (hza : ∀ j, sg (aa j) (Proofs.YtigkehblnlghkaaGreat.val 4294967296 ((xsa j).take 2)) = eza j) (hNna : min ma 7 = Na) (hnb : mb ≤ 9223372036854775807) (hzb : ∀ j, sg (ab j) (Proofs.YtigkehblnlghkaaGreat.val 4294967296 ((xsb j).take 2)) = ezb j) (hNnb : min mb 7 = Nb) (hz0 : sg b0 (Proofs.YtigkehblnlghkaaGreat.val 4294967296 (ys0.take 2)) = z0) (hu0 : sg c0 (Proofs.YtigkehblnlghkaaGreat.val 4294967296 (ys1.take 2)) = u0) (hL1 : mulL eza Na ezb Nb = L1) (hD1 : drvL (coef L1) L1.length = D1) (hD2 : drvL eza Na = D2) (hL2 : mulL (coef D2) D2.length ezb Nb = L2) (hD3 : drvL ezb Nb = D3) (hL3 : mulL eza Na (coef D3) D3.length = L3) (hS1 : trimL (mk (max L2.length L3.length) (fun i => upto L2.length (coef L2) i + upto L3.length (coef L3) i)) = S1) (hA1 : trimL (mk (max Na Nb) (fun i => upto Na eza i + upto Nb ezb i)) = A1) (hB1' : trimL (mk (max A1.length Nb) (fun i => upto A1.length (coef A1) i - upto Nb ezb i)) = B1) (hM1 : mvL eza Na 3 2 = M1) (hBK : mvL (coef M1) M1.length (-3) 2 = BK) (hSC : trimL (mk Na (fun i => eza i * pw)) = SC) (lL1 : L1.length ≤ 14) (lD1 : D1.length ≤ 14) (lD2 : D2.length ≤ 7) (lL2 : L2.length ≤ 14) (lD3 : D3.length ≤ 7) (lL3 : L3.length ≤ 14) (lS1 : S1.length ≤ 14) (lA1 : A1.length ≤ 7) (lB1 : B1.length ≤ 7) (lM1 : M1.length ≤ 7) (lBK : BK.length ≤ 7) (lSC : SC.length ≤ 7) (hB1 : ∀ j, j ≤ tl (coef L1) L1.length - 1 → Bd (hN (coef L1) (tl (coef L1) L1.length) (qOf z0 u0).num (qOf z0 u0).den j).natAbs 60 ∧ Bd ((((qOf z0 u0).den : Nat) : Int) ^ j).natAbs 60) (hB2 : ∀ j, j ≤ tl eza Na - 1 → Bd (hN eza (tl eza Na) (qOf z0 u0).num (qOf z0 u0).den j).natAbs 60 ∧ Bd ((((qOf z0 u0).den : Nat) : Int) ^ j).natAbs 60) (hB3 : ∀ j, j ≤ tl ezb Nb - 1 → Bd (hN ezb (tl ezb Nb) (qOf z0 u0).num (qOf z0 u0).den j).natAbs 60 ∧ Bd ((((qOf z0 u0).den : Nat) : Int) ^ j).natAbs 60) (hsm : cmpI (hN eza (tl eza Na) (qOf z0 u0).num (qOf z0 u0).den (tl eza Na - 1)) 0 * cmpI (hN ezb (tl ezb Nb) (qOf z0 u0).num (qOf z0 u0).den (tl ezb Nb - 1)) 0 = s) (hs1 : -1 ≤ s) (hs2 : s ≤ 1) (hS : cmpI (hN (coef L1) (tl (coef L1) L1.length) (qOf z0 u0).num (qOf z0 u0).den (tl (coef L1) L1.length - 1)) 0 = s) (hp1 : ∀ j, j ≤ tl eza Na → Bd ((2 : Int) ^ j).natAbs 9) (hm1 : ∀ j b, j ≤ tl eza Na → b < tl eza Na → Bd (mvS eza Na 3 2 j b).natAbs 120) (hp2 : ∀ j, j ≤ tl (coef M1) M1.length → Bd ((2 : Int) ^ j).natAbs 9) (hm2 : ∀ j b, j ≤ tl (coef M1) M1.length → b < tl (coef M1) M1.length → Bd (mvS (coef M1) M1.length (-3) 2 j b).natAbs 250) (hK : (if (0 : Int) > ((trimL (mk Na eza)).length : Int) - 1 then 0 else ((trimL (mk Na eza)).length : Int) - 1) = (K : Int)) (hK6 : K ≤ 6) (hpw : (2 : Int) ^ (2 * K) = pw) (hbp : Bd pw.natAbs 13) (hE1 : ∀ i, upto D1.length (coef D1) i = upto S1.length (coef S1) i) (hE2 : ∀ i, upto B1.length (coef B1) i = upto Na eza i) (hE3 : ∀ i, upto BK.length (coef BK) i = upto SC.length (coef SC) i) : SiteOk (ph (b_path_0 aa ab xsa xsb eza ezb ma mb Na Nb b0 c0 ys0 ys1 z0 u0 s pw K L1 D1 D2 L2 D3 L3 S1 A1 B1 M1 BK SC)) Tryz.prog ⟨3, [.fact 0, .fact 1, .fact 2], [⟨.one (.lit (.cb true)), []⟩], false⟩ := by
  skip
  exact fn_okL ins_path_0 [⟨.one (.lit (.cb true)), []⟩] ss_path_0 Tryz.func3 (by kernel_rfl)
    (lbase (sCut5 7 2 rfl rfl (fun _ _ h => h) rfl rfl (by omega) (by omega) (by omega) hza hNna)
      (lbase (sCut5 7 2 rfl rfl (fun _ _ h => h) rfl rfl (by omega) (by omega) (by omega) hzb hNnb)
      (lbase (sKRat5 2 rfl (fun _ _ h => h) rfl hz0 hu0)
      (lbase (sPMul (c := 14) (z := eza) (n := Na) (y := ezb) (m := Nb) (fun _ _ h => Rw.to (sz := 2) (n := Na) (F := (fun ι w v => KI w v (aa ι) ((fun ι => (xsa ι).take 2) ι) (eza ι) 2)) (h) (fun i w v _ h => (fun _ _ _ h => And.right h) i w v h)) (fun _ _ h => Rw.to (sz := 2) (n := Nb) (F := (fun ι w v => KI w v (ab ι) ((fun ι => (xsb ι).take 2) ι) (ezb ι) 2)) (h) (fun i w v _ h => (fun _ _ _ h => And.right h) i w v h)) rfl (by omega) (by omega) (by omega) (by omega) (by omega) hL1)
      (lbase (sPSign (z := (coef L1)) (n := L1.length) (kn := 60) (fun _ _ h => Rw.to (sz := 2) (n := L1.length) (F := (fun ι w v => NorV w v ((coef L1) ι) (2 + 2 + 14 + 1))) (h) (fun i w v _ h => (fun _ _ _ h => NorV.i h) i w v h)) vQ rfl (by omega) (by omega) (by omega) (by omega) hB1)
      (lbase (sPSign (z := eza) (n := Na) (kn := 60) (fun _ _ h => Rw.to (sz := 2) (n := Na) (F := (fun ι w v => KI w v (aa ι) ((fun ι => (xsa ι).take 2) ι) (eza ι) 2)) (h) (fun i w v _ h => (fun _ _ _ h => And.right h) i w v h)) vQ rfl (by omega) (by omega) (by omega) (by omega) hB2)
      (lbase (sPSign (z := ezb) (n := Nb) (kn := 60) (fun _ _ h => Rw.to (sz := 2) (n := Nb) (F := (fun ι w v => KI w v (ab ι) ((fun ι => (xsb ι).take 2) ι) (ezb ι) 2)) (h) (fun i w v _ h => (fun _ _ _ h => And.right h) i w v h)) vQ rfl (by omega) (by omega) (by omega) (by omega) hB3)
      (lbase (qMulJ (fun _ _ h => h) (fun _ _ h => h) (hsm) rfl (by omega) (by omega))
      (lbase (qTest (op := .neq) (fun _ _ h => h) (fun _ _ h => h) (ts_run (decide_eq_false (fun h => h hS)) (by simp)))
      (lbase (sDerive (z := (coef L1)) (n := L1.length) (fun _ _ h => Rw.to (sz := 2) (n := L1.length) (F := (fun ι w v => NorV w v ((coef L1) ι) (2 + 2 + 14 + 1))) (h) (fun i w v _ h => (fun _ _ _ h => NorV.i h) i w v h)) rfl (by omega) (by omega) hD1)
      (lbase (sDerive (z := eza) (n := Na) (fun _ _ h => Rw.to (sz := 2) (n := Na) (F := (fun ι w v => KI w v (aa ι) ((fun ι => (xsa ι).take 2) ι) (eza ι) 2)) (h) (fun i w v _ h => (fun _ _ _ h => And.right h) i w v h)) rfl (by omega) (by omega) hD2)
      (lbase (sPMul (c := 14) (z := (coef D2)) (n := D2.length) (y := ezb) (m := Nb) (fun _ _ h => Rw.to (sz := 2) (n := D2.length) (F := (fun ι w v => NorV w v ((coef D2) ι) (2 + 2))) (h) (fun i w v _ h => (fun _ _ _ h => NorV.i h) i w v h)) (fun _ _ h => Rw.to (sz := 2) (n := Nb) (F := (fun ι w v => KI w v (ab ι) ((fun ι => (xsb ι).take 2) ι) (ezb ι) 2)) (h) (fun i w v _ h => (fun _ _ _ h => And.right h) i w v h)) rfl (by omega) (by omega) (by omega) (by omega) (by omega) hL2)
      (lbase (sDerive (z := ezb) (n := Nb) (fun _ _ h => Rw.to (sz := 2) (n := Nb) (F := (fun ι w v => KI w v (ab ι) ((fun ι => (xsb ι).take 2) ι) (ezb ι) 2)) (h) (fun i w v _ h => (fun _ _ _ h => And.right h) i w v h)) rfl (by omega) (by omega) hD3)
      (lbase (sPMul (c := 14) (z := eza) (n := Na) (y := (coef D3)) (m := D3.length) (fun _ _ h => Rw.to (sz := 2) (n := Na) (F := (fun ι w v => KI w v (aa ι) ((fun ι => (xsa ι).take 2) ι) (eza ι) 2)) (h) (fun i w v _ h => (fun _ _ _ h => And.right h) i w v h)) (fun _ _ h => Rw.to (sz := 2) (n := D3.length) (F := (fun ι w v => NorV w v ((coef D3) ι) (2 + 2))) (h) (fun i w v _ h => (fun _ _ _ h => NorV.i h) i w v h)) rfl (by omega) (by omega) (by omega) (by omega) (by omega) hL3)
      (lbase (sAddP (z := (coef L2)) (n := L2.length) (y := (coef L3)) (m := L3.length) (fun _ _ h => Rw.to (sz := 2) (n := L2.length) (F := (fun ι w v => NorV w v ((coef L2) ι) ((2 + 2) + 2 + 14 + 1))) (h) (fun i w v _ h => (fun _ _ _ h => NorV.i h) i w v h)) (fun _ _ h => Rw.to (sz := 2) (n := L3.length) (F := (fun ι w v => NorV w v ((coef L3) ι) (2 + (2 + 2) + 14 + 1))) (h) (fun i w v _ h => (fun _ _ _ h => NorV.i h) i w v h)) rfl (by omega) (by omega) (by omega) (by omega) hS1)
      (lbase (sSameT (z := (coef D1)) (n := D1.length) (y := (coef S1)) (m := S1.length) (fun _ _ h => Rw.to (sz := 2) (n := D1.length) (F := (fun ι w v => NorV w v ((coef D1) ι) (2 + (2 + 2 + 14 + 1)))) (h) (fun i w v _ h => (fun _ _ _ h => NorV.i h) i w v h)) (fun _ _ h => Rw.to (sz := 2) (n := S1.length) (F := (fun ι w v => NorV w v ((coef S1) ι) (((2 + 2) + 2 + 14 + 1) + (2 + (2 + 2) + 14 + 1) + 1))) (h) (fun i w v _ h => (fun _ _ _ h => NorV.i h) i w v h)) (by omega) (by omega) (by omega) (by omega) hE1)
      (lbase (sAddP (z := eza) (n := Na) (y := ezb) (m := Nb) (fun _ _ h => Rw.to (sz := 2) (n := Na) (F := (fun ι w v => KI w v (aa ι) ((fun ι => (xsa ι).take 2) ι) (eza ι) 2)) (h) (fun i w v _ h => (fun _ _ _ h => And.right h) i w v h)) (fun _ _ h => Rw.to (sz := 2) (n := Nb) (F := (fun ι w v => KI w v (ab ι) ((fun ι => (xsb ι).take 2) ι) (ezb ι) 2)) (h) (fun i w v _ h => (fun _ _ _ h => And.right h) i w v h)) rfl (by omega) (by omega) (by omega) (by omega) hA1)
      (lbase (sSubP (z := (coef A1)) (n := A1.length) (y := ezb) (m := Nb) (fun _ _ h => Rw.to (sz := 2) (n := A1.length) (F := (fun ι w v => NorV w v ((coef A1) ι) (2 + 2 + 1))) (h) (fun i w v _ h => (fun _ _ _ h => NorV.i h) i w v h)) (fun _ _ h => Rw.to (sz := 2) (n := Nb) (F := (fun ι w v => KI w v (ab ι) ((fun ι => (xsb ι).take 2) ι) (ezb ι) 2)) (h) (fun i w v _ h => (fun _ _ _ h => And.right h) i w v h)) rfl (by omega) (by omega) (by omega) (by omega) hB1')
      (lbase (sSameT (z := (coef B1)) (n := B1.length) (y := eza) (m := Na) (fun _ _ h => Rw.to (sz := 2) (n := B1.length) (F := (fun ι w v => NorV w v ((coef B1) ι) ((2 + 2 + 1) + 2 + 1))) (h) (fun i w v _ h => (fun _ _ _ h => NorV.i h) i w v h)) (fun _ _ h => Rw.to (sz := 2) (n := Na) (F := (fun ι w v => KI w v (aa ι) ((fun ι => (xsa ι).take 2) ι) (eza ι) 2)) (h) (fun i w v _ h => (fun _ _ _ h => And.right h) i w v h)) (by omega) (by omega) (by omega) (by omega) hE2)
      (lbase (sOf (z := 3) rfl (by decide) (by decide) rfl)
      (lbase (sOf (z := 2) rfl (by decide) (by decide) rfl)
      (lbase (sMove (z := eza) (n := Na) (K1 := 12) (K2 := 120) (K3 := 130) (kp := 9) (fun _ _ h => Rw.to (sz := 2) (n := Na) (F := (fun ι w v => KI w v (aa ι) ((fun ι => (xsa ι).take 2) ι) (eza ι) 2)) (h) (fun i w v _ h => (fun _ _ _ h => And.right h) i w v h)) nI nI rfl (by omega) (by omega) (by omega) (by omega) (by omega) (by omega) (by omega) (by omega) (by omega) (by omega) hp1 hm1 hM1)
      (lbase (sNeg nI rfl (by omega) rfl)
      (lbase (sMove (z := (coef M1)) (n := M1.length) (K1 := 140) (K2 := 250) (K3 := 260) (kp := 9) (fun _ _ h => Rw.to (sz := 2) (n := M1.length) (F := (fun ι w v => NorV w v ((coef M1) ι) 130)) (h) (fun i w v _ h => (fun _ _ _ h => NorV.i h) i w v h)) nI nI rfl (by omega) (by omega) (by omega) (by omega) (by omega) (by omega) (by omega) (by omega) (by omega) (by omega) hp2 hm2 hBK)
      (lbase (qLen (sz := 4) (n := (trimL (mk Na eza)).length) (F := (fun ι w v => DecQ w v ((((coef (trimL (mk Na eza))) ι : Int) : Rat)) (2 + 2 + 2))) Tryz.underlying30 (fun _ _ h => Rw.arr h) rfl)
      (lbase (qSubK (fun _ _ h => h) (rfl) rfl (by omega) (by omega))
      (lbase (qMaxC (fun _ _ h => h) (hK) rfl)
      (lbase (qMulC (fun _ _ h => h) (by omega) rfl (by omega) (by omega))
      (lbase (sPowJ (2 * K) nI (fun _ _ h => h) rfl (by omega) (by omega) hpw hbp)
      (lbase (sScaleP (z := eza) (n := Na) (fun _ _ h => Rw.to (sz := 2) (n := Na) (F := (fun ι w v => KI w v (aa ι) ((fun ι => (xsa ι).take 2) ι) (eza ι) 2)) (h) (fun i w v _ h => (fun _ _ _ h => And.right h) i w v h)) nI rfl (by omega) (by omega) hSC)
      (lbase (sSameT (z := (coef BK)) (n := BK.length) (y := (coef SC)) (m := SC.length) (fun _ _ h => Rw.to (sz := 2) (n := BK.length) (F := (fun ι w v => NorV w v ((coef BK) ι) 260)) (h) (fun i w v _ h => (fun _ _ _ h => NorV.i h) i w v h)) (fun _ _ h => Rw.to (sz := 2) (n := SC.length) (F := (fun ι w v => NorV w v ((coef SC) ι) (2 + 13))) (h) (fun i w v _ h => (fun _ _ _ h => NorV.i h) i w v h)) (by omega) (by omega) (by omega) (by omega) hE3)
      (lbase (sWakes5)
      lnil))))))))))))))))))))))))))))))))
    (ins_ok [.fact 0 (.one (.s)), .fact 1 (.one (.s)), .fact 2 (.agg [.b, .s, .b, .s])] ⟨fun _ _ h => Rw.is (sz := 2) (F := (fun ι w v => RawI w v (aa ι) (xsa ι))) (n := ma) h, fun _ _ h => Rw.is (sz := 2) (F := (fun ι w v => RawI w v (ab ι) (xsb ι))) (n := mb) h, fun _ _ h => RawQ.is h, trivial⟩) (fun _ _ _ h => h)

theorem walk {ma mb : Nat} {aa ab : Nat → Bool} {xsa xsb : Nat → List Nat} {w : World} {va vb s0 t0 : Value} {b0 c0 : Bool} {ys0 ys1 : List Nat} (hna : ma ≤ 9223372036854775807) (hla : Rw 2 (fun i w v => RawI w v (aa i) (xsa i)) ma w va) (hnb : mb ≤ 9223372036854775807) (hlb : Rw 2 (fun i w v => RawI w v (ab i) (xsb i)) mb w vb) (hx0 : Sl w .u32 s0 ys0) (ax0 : All 4294967296 ys0) (hy0 : Sl w .u32 t0 ys1) (ay0 : All 4294967296 ys1) : Calls Tryz.prog 3 #[va, vb, .agg #[.bool b0, s0, .bool c0, t0]] w (Bool_ w true) := by
  obtain ⟨eza, hza⟩ : ∃ ez : Nat → Int, ∀ j, sg (aa j) (Proofs.YtigkehblnlghkaaGreat.val 4294967296 ((xsa j).take 2)) = ez j := ⟨_, fun _ => rfl⟩
  obtain ⟨Na, hNna⟩ : ∃ N, min ma 7 = N := ⟨_, rfl⟩
  obtain ⟨ezb, hzb⟩ : ∃ ez : Nat → Int, ∀ j, sg (ab j) (Proofs.YtigkehblnlghkaaGreat.val 4294967296 ((xsb j).take 2)) = ez j := ⟨_, fun _ => rfl⟩
  obtain ⟨Nb, hNnb⟩ : ∃ N, min mb 7 = N := ⟨_, rfl⟩
  obtain ⟨z0, hz0⟩ : ∃ z, sg b0 (Proofs.YtigkehblnlghkaaGreat.val 4294967296 (ys0.take 2)) = z := ⟨_, rfl⟩
  obtain ⟨u0, hu0⟩ : ∃ z, sg c0 (Proofs.YtigkehblnlghkaaGreat.val 4294967296 (ys1.take 2)) = z := ⟨_, rfl⟩
  obtain ⟨K, hK⟩ : ∃ K, K = tl eza Na - 1 := ⟨_, rfl⟩
  obtain ⟨pw, hpw⟩ : ∃ p : Int, (2 : Int) ^ (2 * K) = p := ⟨_, rfl⟩
  obtain ⟨L1, hL1⟩ : ∃ L, mulL eza Na ezb Nb = L := ⟨_, rfl⟩
  obtain ⟨D1, hD1⟩ : ∃ L, drvL (coef L1) L1.length = L := ⟨_, rfl⟩
  obtain ⟨D2, hD2⟩ : ∃ L, drvL eza Na = L := ⟨_, rfl⟩
  obtain ⟨L2, hL2⟩ : ∃ L, mulL (coef D2) D2.length ezb Nb = L := ⟨_, rfl⟩
  obtain ⟨D3, hD3⟩ : ∃ L, drvL ezb Nb = L := ⟨_, rfl⟩
  obtain ⟨L3, hL3⟩ : ∃ L, mulL eza Na (coef D3) D3.length = L := ⟨_, rfl⟩
  obtain ⟨S1, hS1⟩ : ∃ L, trimL (mk (max L2.length L3.length) (fun i => upto L2.length (coef L2) i + upto L3.length (coef L3) i)) = L := ⟨_, rfl⟩
  obtain ⟨A1, hA1⟩ : ∃ L, trimL (mk (max Na Nb) (fun i => upto Na eza i + upto Nb ezb i)) = L := ⟨_, rfl⟩
  obtain ⟨B1, hB1⟩ : ∃ L, trimL (mk (max A1.length Nb) (fun i => upto A1.length (coef A1) i - upto Nb ezb i)) = L := ⟨_, rfl⟩
  obtain ⟨M1, hM1⟩ : ∃ L, mvL eza Na 3 2 = L := ⟨_, rfl⟩
  obtain ⟨BK, hBK⟩ : ∃ L, mvL (coef M1) M1.length (-3) 2 = L := ⟨_, rfl⟩
  obtain ⟨SC, hSC⟩ : ∃ L, trimL (mk Na (fun i => eza i * pw)) = L := ⟨_, rfl⟩
  have hlea := tl_le eza Na
  have hleb := tl_le ezb Nb
  have lL1 : L1.length ≤ 14 := by rw [← hL1]; exact Nat.le_trans (mulL_le _ _ _ _) (by omega)
  have lD1 : D1.length ≤ 14 := by rw [← hD1]; exact Nat.le_trans (drvL_le _ _) lL1
  have lD2 : D2.length ≤ 7 := by rw [← hD2]; exact Nat.le_trans (drvL_le _ _) (by omega)
  have lL2 : L2.length ≤ 14 := by rw [← hL2]; exact Nat.le_trans (mulL_le _ _ _ _) (by omega)
  have lD3 : D3.length ≤ 7 := by rw [← hD3]; exact Nat.le_trans (drvL_le _ _) (by omega)
  have lL3 : L3.length ≤ 14 := by rw [← hL3]; exact Nat.le_trans (mulL_le _ _ _ _) (by omega)
  have lS1 : S1.length ≤ 14 := by rw [← hS1]; exact Nat.le_trans (trimL_le _ _) (by omega)
  have lA1 : A1.length ≤ 7 := by rw [← hA1]; exact Nat.le_trans (trimL_le _ _) (by omega)
  have lB1 : B1.length ≤ 7 := by rw [← hB1]; exact Nat.le_trans (trimL_le _ _) (by omega)
  have lM1 : M1.length = tl eza Na := by rw [← hM1, mvL_length]
  have tM1 : tl (coef M1) M1.length = tl eza Na := by rw [← hM1]; exact tl_mvL (by omega) _ _ _
  have lBK : BK.length = tl eza Na := by rw [← hBK, mvL_length, tM1]
  have lSC : SC.length ≤ 7 := by rw [← hSC]; exact Nat.le_trans (trimL_le _ _) (by omega)
  have hl4 : (trimL (mk Na eza)).length = tl eza Na := trimL_mk _ _
  have hba : ∀ i, i < Na → Bd (eza i).natAbs 2 := fun i hi => by
    obtain ⟨p, c, rfl, _, h1⟩ := hla
    obtain ⟨_, _, _, l, _, _, s, _, _, h2⟩ := h1 i (by omega)
    rw [← hza i, sg_abs]
    exact Bd.row _ h2 2
  have hbb : ∀ i, i < Nb → Bd (ezb i).natAbs 2 := fun i hi => by
    obtain ⟨p, c, rfl, _, h1⟩ := hlb
    obtain ⟨_, _, _, l, _, _, s, _, _, h2⟩ := h1 i (by omega)
    rw [← hzb i, sg_abs]
    exact Bd.row _ h2 2
  have hq := qOf_bd (z := z0) (u := u0) (k := 2) (by omega) (by rw [← hz0, sg_abs]; exact Bd.row _ ax0 2) (by rw [← hu0, sg_abs]; exact Bd.row _ ay0 2)
  have hbL1 : ∀ i, i < L1.length → Bd (coef L1 i).natAbs 11 := fun i _ => by
    rw [← hL1]; exact (mulL_bd hba hbb i).more (by omega)
  have h2b : Bd (2 : Int).natAbs 1 := by show _ < 4294967296 ^ 1; omega
  have h3b : Bd (3 : Int).natAbs 1 := by show _ < 4294967296 ^ 1; omega
  have h3n : Bd (-3 : Int).natAbs 1 := by show 3 < 4294967296 ^ 1; omega
  have hpj : ∀ j, j ≤ 7 → Bd ((2 : Int) ^ j).natAbs 9 := fun j hj => by
    rw [Int.natAbs_pow]
    exact (Bd.pow1 h2b j).more (by omega)
  have hmv : ∀ (z : Nat → Int) (n : Nat) (u : Int) (k : Nat), tl z n ≤ 7 → (∀ i, i < tl z n → Bd (z i).natAbs k) → Bd u.natAbs 1 → ∀ j b, j ≤ tl z n → b < tl z n → Bd (mvS z n u 2 j b).natAbs (k + 110) := fun z n u k ht hz hu j b hj hb => by
    have h1 := mvS_bd (u := u) hz h2b hu j b hb
    have h2 : j * (tl z n * (1 + 1)) ≤ 7 * (7 * (1 + 1)) := Nat.mul_le_mul (by omega) (Nat.mul_le_mul_right _ (by omega))
    exact h1.more (by omega)
  have hbM1 : ∀ i, i < tl (coef M1) M1.length → Bd (coef M1 i).natAbs 130 := fun i hi => by
    rw [tM1] at hi
    rw [← hM1, coef_mvL hi, Int.natAbs_mul]
    exact (Bd.mul (hmv eza Na 3 2 (by omega) (fun i hi => hba i (by omega)) h3b _ i (Nat.le_refl _) hi) (hpj i (by omega))).more (by omega)
  have e1 : ∀ i, upto D1.length (coef D1) i = upto S1.length (coef S1) i := fun i => by
    rw [upto_coef, upto_coef, ← hD1, coef_drvL, upto_fun, ← hL1, ← hS1, coef_add, upto_coef, upto_coef, ← hL2, ← hL3, coef_mul, coef_mul, upto_fun, upto_fun]
    have h1 : coef (mulL eza Na ezb Nb) = conv (upto Na eza) (upto Nb ezb) := funext fun j => coef_mul _ _ _ _ _
    have h2 : coef D2 = drv (upto Na eza) := funext fun j => by rw [← hD2, coef_drvL]
    have h3 : coef D3 = drv (upto Nb ezb) := funext fun j => by rw [← hD3, coef_drvL]
    rw [h1, h2, h3]
    exact conv_drv _ _ _
  have e2 : ∀ i, upto B1.length (coef B1) i = upto Na eza i := fun i => by
    rw [upto_coef, ← hB1, coef_sub, upto_coef, ← hA1, coef_add]; omega
  have e3 : ∀ i, upto BK.length (coef BK) i = upto SC.length (coef SC) i := fun i => by
    rw [upto_coef, upto_coef, ← hBK, ← hSC, ← hM1, mvL_back (by omega), ← hpw, hK, coef_trim, coef_mk]
    split
    · rw [upto_lt (by assumption), Int.mul_comm]
    · rw [upto_out (by omega), Int.mul_zero]
  refine law_true (path_0 (s := cmpI (hN eza (tl eza Na) (qOf z0 u0).num (qOf z0 u0).den (tl eza Na - 1)) 0 * cmpI (hN ezb (tl ezb Nb) (qOf z0 u0).num (qOf z0 u0).den (tl ezb Nb - 1)) 0) hna hza hNna hnb hzb hNnb hz0 hu0 hL1 hD1 hD2 hL2 hD3 hL3 hS1 hA1 hB1 hM1 hBK hSC lL1 lD1 lD2 lL2 lD3 lL3 lS1 lA1 lB1 (by omega) (by omega) lSC (at_bd (k := 11) (kt := 2) (c := 14) hbL1 hq (Nat.le_trans (tl_le _ _) lL1) (by omega)) (at_bd (k := 2) (kt := 2) (c := 7) hba hq (by omega) (by omega)) (at_bd (k := 2) (kt := 2) (c := 7) hbb hq (by omega) (by omega)) rfl ?_ ?_ ?_ (fun j hj => hpj j (by omega)) (fun j b hj hb => (hmv eza Na 3 2 (by omega) (fun i hi => hba i (by omega)) h3b j b hj hb).more (by omega)) (fun j hj => hpj j (by omega)) (fun j b hj hb => (hmv (coef M1) M1.length (-3) 130 (by omega) hbM1 h3n j b hj hb).more (by omega)) ?_ (by omega) hpw ?_ e1 e2 e3) (vs := [va, vb, .agg #[.bool b0, s0, .bool c0, t0]]) ⟨arg_poly hla, arg_poly hlb, arg_kp rfl (fun _ _ _ g h => RawQ.kp h g) ⟨_, _, rfl, hx0, ax0, hy0, ay0⟩, trivial⟩
  · have h1 := cmpI_small (hN eza (tl eza Na) (qOf z0 u0).num (qOf z0 u0).den (tl eza Na - 1))
    have h2 := cmpI_small (hN ezb (tl ezb Nb) (qOf z0 u0).num (qOf z0 u0).den (tl ezb Nb - 1))
    generalize cmpI (hN eza (tl eza Na) (qOf z0 u0).num (qOf z0 u0).den (tl eza Na - 1)) 0 = x at *
    generalize cmpI (hN ezb (tl ezb Nb) (qOf z0 u0).num (qOf z0 u0).den (tl ezb Nb - 1)) 0 = y at *
    exact small_mul h1.1 h1.2 h2.1 h2.2 |>.1
  · have h1 := cmpI_small (hN eza (tl eza Na) (qOf z0 u0).num (qOf z0 u0).den (tl eza Na - 1))
    have h2 := cmpI_small (hN ezb (tl ezb Nb) (qOf z0 u0).num (qOf z0 u0).den (tl ezb Nb - 1))
    exact small_mul h1.1 h1.2 h2.1 h2.2 |>.2
  · rw [← hL1]; exact sign_mulL _ _ _ _ _
  · rw [hl4]; split <;> omega
  · rw [← hpw, Int.natAbs_pow]
    exact (Bd.pow1 h2b (2 * K)).more (by omega)
set_option maxRecDepth 100000 in
theorem lifted (os : Os) (started : os.Started) (H : Type) (enc : TypeId × Value → H) :
    ReturnsInHanded {} Tryz.checked os 3 .any (Rows.polyLawsSpec.pre6 enc Tryz.prog Tryz.f3 Rows.polyLawsRow.domain false) (Rows.polyLawsSpec.post enc Tryz.prog Tryz.f3 false true false false) := by
  refine returnsInHanded_of_change (C := Tryz.checked) Tryz.own started (by kernel_rfl) Tryz.func3
    (ChangeSpec.witness6 (enc := enc) (C := Tryz.checked) false ⟨#[], #[.slice none 0 0, .slice none 0 0, .agg #[.bool false, .slice none 0 0, .bool false, .slice none 0 0]], []⟩ 8 (by kernel_rfl) (by kernel_rfl) (by kernel_rfl) (by kernel_rfl)) ?_
  intro W base args ds gs before hval0 hW _ _
  have hval : ∀ (j : Nat) t v, Tryz.f3.params[j]? = some t → args[j]? = some v → Value.okWide Tryz.prog W .any base t v := hval0
  obtain ⟨p, q, hA0, hV, rfl, _, _⟩ := id hW
  have hA : DataW.TrodAll enc Tryz.prog W 0 (fun _ => true) true Tryz.f3.params.toList args.toList ds p := hA0
  rw [Tryz.params3] at hA hval
  obtain ⟨v0, vs0, d0, ds0, p0, q0, hargs, rfl, rfl, h0, r0⟩ := trodAll_cons hA
  obtain ⟨v1, vs1, d1, ds1, p1, q1, rfl, rfl, rfl, h1, r1⟩ := trodAll_cons r0
  obtain ⟨v2, vs2, d2, ds2, p2, q2, rfl, rfl, rfl, h2, r2⟩ := trodAll_cons r1
  obtain ⟨rfl, rfl, rfl⟩ := trodAll_nil r2
  obtain rfl : args = #[v0, v1, v2] := by cases args; simp_all
  obtain ⟨n0, a0, xs0, l0, s0⟩ := poly_of_trod h0 (hval 0 23 v0 rfl rfl)
  obtain ⟨n1, a1, xs1, l1, s1⟩ := poly_of_trod h1 (hval 1 23 v1 rfl rfl)
  obtain ⟨b2, w2, b2', w2', xs2, ys2, rfl, s2, a2, s2', a2'⟩ := rat_of_trod h2 (hval 2 28 v2 rfl rfl)
  refine (walk l0 s0 l1 s1 s2 a2 s2' a2').mono fun e W' ⟨he, hg⟩ => ?_
  subst he
  refine ⟨_, rfl, law_post Tryz.laidOut rfl (by kernel_rfl) Tryz.underlying4 ?_ ?_ hW hg⟩
  · rw [Tryz.params3]; decide +kernel
  · rw [Tryz.params3]
    intro ds h
    match ds, h with
    | [_, _, _], _ => rfl

theorem holds : Rows.PolyLawsSaid :=
  OpenClaim.holds_of_wide 3 Tryz.f3 rfl rfl rfl rfl rfl rfl rfl ⟨rfl, rfl, rfl, rfl, rfl⟩ rfl rfl rfl rfl rfl (by kernel_rfl) Tryz.func3 (by kernel_rfl)
    (of_decide_eq_true (by kernel_rfl)) (by unfold Func.isWrapper; first | (rw [if_pos (by decide +kernel)]; kernel_rfl) | (rw [if_neg (by decide +kernel)]; exact ⟨rfl, rfl⟩))
    (fun os started H enc _ => lifted os started H enc)

end Go.Proofs.YtigkehblnlghkaaGreat.plaws
