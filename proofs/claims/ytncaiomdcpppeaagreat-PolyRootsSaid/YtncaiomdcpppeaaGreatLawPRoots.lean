/- PolyRoots holds: for every polynomial, every two numbers and every rational the law returns true and leaves them as they were. No condition. -/
import Derived.Test.YtncaiomdcpppeaaGreatPolH
import Derived.Test.YtncaiomdcpppeaaGreatPolO
namespace Go.Proofs.YtncaiomdcpppeaaGreat.proots
open Go.ChangeShapes Go.WideShapes Go.ChangeAt Go.RowKit
open Go.Proofs.YtncaiomdcpppeaaGreat.Sym hiding val run start

theorem qOf_bd {z u : Int} {k : Nat} (hk : 1 ≤ k) (hz : Bd z.natAbs k) (hu : Bd u.natAbs k) : Bd (qOf z u).num.natAbs k ∧ Bd (qOf z u).den k := by
  unfold qOf
  split
  · exact ⟨hz.le (num_le _ _), Bd.le (show Bd 1 k from Nat.one_lt_pow (by omega) (by omega)) (den_le (by omega))⟩
  · rename_i h
    exact ⟨hz.le (num_le _ _), hu.le (den_le h)⟩
def b_path_0 (a : Nat → Bool) (xs : Nat → List Nat) (ez : Nat → Int) (n0 N : Nat) (b0 c0 : Bool) (ys0 ys1 : List Nat) (z0 u0 m1 m2 nn dd pw : Int) (e1 e2 K : Nat) (r y1 y2 : Rat) (L1 L2 L3 L4 : List Int) : List (World → Value → Prop) := [fun w v => Rw 2 (fun ι w v => RawI w v (a ι) (xs ι)) n0 w v, fun _ v => v = .int .i64 m1, fun _ v => v = .int .i64 m2, fun w v => RawQ w v b0 ys0 c0 ys1, fun w v => Rw 2 (fun ι w v => KI w v (a ι) ((fun ι => (xs ι).take 2) ι) (ez ι) 2) N w v, fun w v => Rw 4 (fun ι w v => DecQ w v ((((coef (trimL (mk N ez))) ι : Int) : Rat)) (2 + 2 + 2)) ((trimL (mk N ez)).length) w v, fun w v => QV w v z0 u0 1, fun _ v => v = .int .i64 ((e1 : Nat) : Int), fun _ v => v = .int .i64 nn, fun _ v => v = .int .i64 ((e2 : Nat) : Int), fun _ v => v = .int .i64 1, fun _ v => v = .int .i64 dd, fun w v => NorQ w v r 4, fun w v => NorV w v r.num 4, fun w v => NorV w v (r.den : Int) 4, fun _ v => v = .int .i64 (-nn), fun w v => Rw 1 (fun i _ v => v = .agg #[.int .i64 ((z2 (-nn) dd) i)]) 2 w v, fun w v => Rw 2 (fun ι w v => NorV w v ((coef L1) ι) 2) L1.length w v, fun w v => Rw 2 (fun ι w v => NorV w v ((coef L2) ι) (2 + 2 + 10 + 1)) L2.length w v, fun _ v => v = .int .i64 (cmpI (hN (coef L2) (tl (coef L2) L2.length) r.num r.den ((tl (coef L2) L2.length) - 1)) 0), fun w v => NorQ w v (0 : Rat) (100 + 100), fun w v => NorV w v ((0 : Rat).num) (100 + 100), fun w v => NorV w v ((0 : Rat).den : Int) (100 + 100), fun w v => NorV w v nn 2, fun w v => NorV w v dd 2, fun w v => Rw 2 (fun ι w v => NorV w v ((coef L3) ι) 100) L3.length w v, fun w v => Rw 2 (fun ι w v => NorV w v ((coef L4) ι) 2) L4.length w v, fun _ v => v = .int .i64 ((L4.length : Nat) : Int), fun _ v => v = .int .i64 ((L4.length : Int) - 1), fun _ v => v = .int .i64 ((K : Nat) : Int), fun w v => NorQ w v y1 (200 + 200), fun w v => NorV w v y1.num (200 + 200), fun w v => NorV w v (y1.den : Int) (200 + 200), fun w v => NorV w v dd 2, fun w v => NorV w v pw 7, fun w v => NorQ w v ((pw : Int) : Rat) (7 + 2), fun w v => NorV w v (((pw : Int) : Rat).num) (7 + 2), fun w v => NorV w v (((pw : Int) : Rat).den : Int) (7 + 2), fun w v => NorQ w v ((qOf z0 u0) + r) (2 * (1 + 4) + 9), fun w v => NorV w v (((qOf z0 u0) + r).num) (2 * (1 + 4) + 9), fun w v => NorV w v (((qOf z0 u0) + r).den : Int) (2 * (1 + 4) + 9), fun w v => NorQ w v y2 (200 + 200), fun w v => NorV w v y2.num (200 + 200), fun w v => NorV w v (y2.den : Int) (200 + 200), fun w v => NorQ w v (((pw : Int) : Rat) * y2) ((7 + 2) + (200 + 200) + 4), fun w v => NorV w v ((((pw : Int) : Rat) * y2).num) ((7 + 2) + (200 + 200) + 4), fun w v => NorV w v ((((pw : Int) : Rat) * y2).den : Int) ((7 + 2) + (200 + 200) + 4)]
def ss_path_0 : List Step := [.base ⟨13, [.fact 0, .lit (.ci .i64 6), .lit (.ci .i64 2)], [⟨.one (.s), [(0, 0, 4)]⟩, ⟨.one (.s), [(0, 0, 5)]⟩], true⟩,
      .base ⟨14, [.fact 3, .lit (.ci .i64 1)], [⟨.agg [.b, .s, .b, .s], [(0, 0, 6)]⟩], false⟩,
      .derive (.one (.ci .i64 1)) (.one (.lit (.ci .i64 1))) [] 10,
      .base ⟨37, [.fact 1, .lit (.ci .i64 41)], [⟨.one (.i), [(0, 0, 7)]⟩], false⟩,
      .base ⟨0, [.fact 7, .lit (.ci .i64 20)], [⟨.one (.i), [(0, 0, 8)]⟩], .quiet (mBin .sub)⟩,
      .base ⟨37, [.fact 2, .lit (.ci .i64 9)], [⟨.one (.i), [(0, 0, 9)]⟩], false⟩,
      .base ⟨0, [.fact 10, .fact 9], [⟨.one (.i), [(0, 0, 11)]⟩], .quiet (mBin .add)⟩,
      .base ⟨38, [.fact 8, .fact 11], [⟨.agg [.b, .s, .b, .s], [(0, 0, 12), (0, 2, 13), (2, 2, 14)]⟩, ⟨.one (.lit (.ci .i64 0)), []⟩], true⟩,
      .base ⟨0, [.fact 8], [⟨.one (.i), [(0, 0, 15)]⟩], .quiet (mUn .neg)⟩,
      .base ⟨0, [.any, .fact 15, .fact 11], [⟨.one (.s), [(0, 0, 16)]⟩], .loose [] 2 0 (mRow 34 2)⟩,
      .base ⟨39, [.fact 16], [⟨.one (.s), [(0, 0, 17)]⟩], .callJ [2] false⟩,
      .base ⟨27, [.fact 4, .fact 17], [⟨.one (.s), [(0, 0, 18)]⟩], .callJ [2] false⟩,
      .base ⟨22, [.fact 18, .fact 12], [⟨.one (.i), [(0, 0, 19)]⟩], .callJ [2] false⟩,
      .base ⟨0, [.fact 19, .lit (.ci .i64 0)], [⟨.one (.lit (.cb false)), []⟩], .quietJ [2] (mBin .neq)⟩,
      .base ⟨21, [.fact 18, .fact 12], [⟨.agg [.b, .s, .b, .s], [(0, 0, 20), (0, 2, 21), (2, 2, 22)]⟩], .callJ [2] false⟩,
      .base ⟨40, [.fact 21], [⟨.one (.lit (.cb true)), []⟩], .callJ [2] false⟩,
      .base ⟨32, [.fact 8], [⟨.agg [.b, .s], [(0, 0, 23)]⟩], false⟩,
      .base ⟨32, [.fact 11], [⟨.agg [.b, .s], [(0, 0, 24)]⟩], false⟩,
      .base ⟨33, [.fact 4, .fact 23, .fact 24], [⟨.one (.s), [(0, 0, 25)]⟩, ⟨.one (.lit (.ci .i64 0)), []⟩], true⟩,
      .base ⟨41, [.fact 4], [⟨.one (.s), [(0, 0, 26)]⟩], false⟩,
      .base ⟨0, [.fact 26], [⟨.one (.i), [(0, 0, 27)]⟩], .quiet (mLen 23)⟩,
      .base ⟨0, [.fact 27, .lit (.ci .i64 1)], [⟨.one (.i), [(0, 0, 28)]⟩], .quiet (mBin .sub)⟩,
      .base ⟨0, [.fact 28, .lit (.ci .i64 0)], [⟨.one (.i), [(0, 0, 29)]⟩], .quiet (mMax .max)⟩,
      .base ⟨21, [.fact 25, .fact 6], [⟨.agg [.b, .s, .b, .s], [(0, 0, 30), (0, 2, 31), (2, 2, 32)]⟩], false⟩,
      .base ⟨32, [.fact 11], [⟨.agg [.b, .s], [(0, 0, 33)]⟩], false⟩,
      .base ⟨36, [.fact 33, .fact 29], [⟨.agg [.b, .s], [(0, 0, 34)]⟩], false⟩,
      .base ⟨43, [.fact 34], [⟨.agg [.b, .s, .b, .s], [(0, 0, 35), (0, 2, 36), (2, 2, 37)]⟩], false⟩,
      .base ⟨44, [.fact 6, .fact 12], [⟨.agg [.b, .s, .b, .s], [(0, 0, 38), (0, 2, 39), (2, 2, 40)]⟩], false⟩,
      .base ⟨21, [.fact 4, .fact 38], [⟨.agg [.b, .s, .b, .s], [(0, 0, 41), (0, 2, 42), (2, 2, 43)]⟩], false⟩,
      .base ⟨42, [.fact 35, .fact 41], [⟨.agg [.b, .s, .b, .s], [(0, 0, 44), (0, 2, 45), (2, 2, 46)]⟩], false⟩,
      .base ⟨45, [.fact 30, .fact 44], [⟨.one (.lit (.ci .i64 0)), []⟩], false⟩,
      .base ⟨26, [], [⟨.one (.lit (.cb true)), []⟩], false⟩]
def ins_path_0 : List Out := [⟨.one (.s), [(0, 0, 0)]⟩, ⟨.one (.i), [(0, 0, 1)]⟩, ⟨.one (.i), [(0, 0, 2)]⟩, ⟨.agg [.b, .s, .b, .s], [(0, 0, 3)]⟩]
set_option maxRecDepth 100000 in
theorem path_0 {a : Nat → Bool} {xs : Nat → List Nat} {ez : Nat → Int} {n0 N : Nat} {b0 c0 : Bool} {ys0 ys1 : List Nat} {z0 u0 m1 m2 nn dd pw : Int} {e1 e2 K : Nat} {r y1 y2 : Rat} {L1 L2 L3 L4 : List Int} (hn : n0 ≤ 9223372036854775807) (hz : ∀ j, sg (a j) (Proofs.YtncaiomdcpppeaaGreat.val 4294967296 ((xs j).take 2)) = ez j) (hNn : min n0 6 = N) (hz0 : sg b0 (Proofs.YtncaiomdcpppeaaGreat.val 4294967296 (ys0.take 1)) = z0) (hu0 : sg c0 (Proofs.YtncaiomdcpppeaaGreat.val 4294967296 (ys1.take 1)) = u0) (hw1 : wi5 m1 41 = e1) (hw2 : wi5 m2 9 = e2) (he1 : e1 < 41) (he2 : e2 < 9) (hnn : (e1 : Int) - 20 = nn) (hdd : 1 + (e2 : Int) = dd) (hr : Rat.divInt nn dd = r) (hzz : ∀ i, -9223372036854775808 ≤ z2 (-nn) dd i ∧ z2 (-nn) dd i ≤ 9223372036854775807) (hL1 : trimL (mk 2 (z2 (-nn) dd)) = L1) (hL2 : mulL ez N (coef L1) L1.length = L2) (hL3 : mvL ez N nn dd = L3) (hL4 : trimL (mk N ez) = L4) (hl1 : L1.length ≤ 2) (hl2 : L2.length ≤ 10) (hl3 : L3.length ≤ 6) (hl4 : L4.length ≤ 6) (hB1 : ∀ j, j ≤ tl (coef L2) L2.length - 1 → Bd (hN (coef L2) (tl (coef L2) L2.length) r.num r.den j).natAbs 100 ∧ Bd (((r.den : Nat) : Int) ^ j).natAbs 100) (hS : cmpI (hN (coef L2) (tl (coef L2) L2.length) r.num r.den (tl (coef L2) L2.length - 1)) 0 = 0) (hA1 : Rat.divInt (hN (coef L2) (tl (coef L2) L2.length) r.num r.den (tl (coef L2) L2.length - 1)) (((r.den : Nat) : Int) ^ (tl (coef L2) L2.length - 1)) = 0) (hBd : ∀ j, j ≤ tl ez N → Bd (dd ^ j).natAbs 7) (hM : ∀ j b, j ≤ tl ez N → b < tl ez N → Bd (mvS ez N nn dd j b).natAbs 90) (hK : (if (0 : Int) > (L4.length : Int) - 1 then 0 else (L4.length : Int) - 1) = (K : Int)) (hK6 : K ≤ 6) (hB2 : ∀ j, j ≤ tl (coef L3) L3.length - 1 → Bd (hN (coef L3) (tl (coef L3) L3.length) (qOf z0 u0).num (qOf z0 u0).den j).natAbs 200 ∧ Bd ((((qOf z0 u0).den : Nat) : Int) ^ j).natAbs 200) (hA2 : Rat.divInt (hN (coef L3) (tl (coef L3) L3.length) (qOf z0 u0).num (qOf z0 u0).den (tl (coef L3) L3.length - 1)) ((((qOf z0 u0).den : Nat) : Int) ^ (tl (coef L3) L3.length - 1)) = y1) (hpw : dd ^ K = pw) (hbp : Bd pw.natAbs 7) (hB3 : ∀ j, j ≤ tl ez N - 1 → Bd (hN ez (tl ez N) (qOf z0 u0 + r).num (qOf z0 u0 + r).den j).natAbs 200 ∧ Bd ((((qOf z0 u0 + r).den : Nat) : Int) ^ j).natAbs 200) (hA3 : Rat.divInt (hN ez (tl ez N) (qOf z0 u0 + r).num (qOf z0 u0 + r).den (tl ez N - 1)) ((((qOf z0 u0 + r).den : Nat) : Int) ^ (tl ez N - 1)) = y2) (hC : cmpQ y1 (((pw : Int) : Rat) * y2) = 0) : SiteOk (ph (b_path_0 a xs ez n0 N b0 c0 ys0 ys1 z0 u0 m1 m2 nn dd pw e1 e2 K r y1 y2 L1 L2 L3 L4)) Tryz.prog ⟨5, [.fact 0, .fact 1, .fact 2, .fact 3], [⟨.one (.lit (.cb true)), []⟩], false⟩ := by
  skip
  exact fn_okL ins_path_0 [⟨.one (.lit (.cb true)), []⟩] ss_path_0 Tryz.func5 (by kernel_rfl)
    (lbase (sCut5 6 2 rfl rfl (fun _ _ h => h) rfl rfl (by omega) (by omega) (by omega) hz hNn)
      (lbase (sKRat5 1 rfl (fun _ _ h => h) rfl hz0 hu0)
      (lderive (derive1 rfl)
      (lbase (sWithin5 (n := 41) rfl (fun _ _ h => h) (by omega) (by omega) hw1 rfl)
      (lbase (qSubK (fun _ _ h => h) (hnn) rfl (by omega) (by omega))
      (lbase (sWithin5 (n := 9) rfl (fun _ _ h => h) (by omega) (by omega) hw2 rfl)
      (lbase (qAddJ (fun _ _ h => h) (fun _ _ h => h) (hdd) rfl (by omega) (by omega))
      (lbase (sROfJ (fun _ _ h => h) (fun _ _ h => h) rfl rfl rfl (by omega) (by omega) (by omega) hr)
      (lbase (qNegJ (fun _ _ h => h) rfl rfl (by omega) (by omega))
      (lbase (qRowZ2 (fun _ _ h => h) (fun _ _ h => h) rfl)
      (lbase (onJ [2] (sPOf (z := (z2 (-nn) dd)) (n := 2) (fun _ _ h => h) rfl (by omega) hzz hL1))
      (lbase (onJ [2] (sPMul (c := 10) (z := ez) (n := N) (y := (coef L1)) (m := L1.length) (fun _ _ h => Rw.to (sz := 2) (n := N) (F := (fun ι w v => KI w v (a ι) ((fun ι => (xs ι).take 2) ι) (ez ι) 2)) (h) (fun i w v _ h => (fun _ _ _ h => And.right h) i w v h)) (fun _ _ h => Rw.to (sz := 2) (n := L1.length) (F := (fun ι w v => NorV w v ((coef L1) ι) 2)) (h) (fun i w v _ h => (fun _ _ _ h => NorV.i h) i w v h)) rfl (by omega) (by omega) (by omega) (by omega) (by omega) hL2))
      (lbase (onJ [2] (sPSign (z := (coef L2)) (n := L2.length) (kn := 100) (fun _ _ h => Rw.to (sz := 2) (n := L2.length) (F := (fun ι w v => NorV w v ((coef L2) ι) (2 + 2 + 10 + 1))) (h) (fun i w v _ h => (fun _ _ _ h => NorV.i h) i w v h)) pQ rfl (by omega) (by omega) (by omega) (by omega) hB1))
      (lbase (qTestC (op := .neq) (fun _ _ h => h) (ts_run (decide_eq_false (fun h => h hS)) (by simp)))
      (lbase (onJ [2] (sPAt (z := (coef L2)) (n := L2.length) (kn := 100) (fun _ _ h => Rw.to (sz := 2) (n := L2.length) (F := (fun ι w v => NorV w v ((coef L2) ι) (2 + 2 + 10 + 1))) (h) (fun i w v _ h => (fun _ _ _ h => NorV.i h) i w v h)) pQ rfl rfl rfl (by omega) (by omega) (by omega) (by omega) hB1 hA1))
      (lbase (onJ [2] (sIZero nN (by decide)))
      (lbase (sOfJ (fun _ _ h => h) rfl (by omega) (by omega) rfl)
      (lbase (sOfJ (fun _ _ h => h) rfl (by omega) (by omega) rfl)
      (lbase (sMove (z := ez) (n := N) (K1 := 10) (K2 := 90) (K3 := 100) (kp := 7) (fun _ _ h => Rw.to (sz := 2) (n := N) (F := (fun ι w v => KI w v (a ι) ((fun ι => (xs ι).take 2) ι) (ez ι) 2)) (h) (fun i w v _ h => (fun _ _ _ h => And.right h) i w v h)) nI nI rfl (by omega) (by omega) (by omega) (by omega) (by omega) (by omega) (by omega) (by omega) (by omega) (by omega) hBd hM hL3)
      (lbase (sNormP (z := ez) (n := N) (fun _ _ h => Rw.to (sz := 2) (n := N) (F := (fun ι w v => KI w v (a ι) ((fun ι => (xs ι).take 2) ι) (ez ι) 2)) (h) (fun i w v _ h => (fun _ _ _ h => And.right h) i w v h)) rfl (by omega) (by omega) hL4)
      (lbase (qLen (sz := 2) (n := L4.length) (F := (fun ι w v => NorV w v ((coef L4) ι) 2)) Tryz.underlying23 (fun _ _ h => Rw.arr h) rfl)
      (lbase (qSubK (fun _ _ h => h) (rfl) rfl (by omega) (by omega))
      (lbase (qMaxC (fun _ _ h => h) (hK) rfl)
      (lbase (sPAt (z := (coef L3)) (n := L3.length) (kn := 200) (fun _ _ h => Rw.to (sz := 2) (n := L3.length) (F := (fun ι w v => NorV w v ((coef L3) ι) 100)) (h) (fun i w v _ h => (fun _ _ _ h => NorV.i h) i w v h)) vQ rfl rfl rfl (by omega) (by omega) (by omega) (by omega) hB2 hA2)
      (lbase (sOfJ (fun _ _ h => h) rfl (by omega) (by omega) rfl)
      (lbase (sPowJ K nI (fun _ _ h => h) rfl (by omega) (by omega) hpw hbp)
      (lbase (sRInt nI rfl rfl rfl (by omega) rfl)
      (lbase (sRAdd vQ pQ rfl rfl rfl (by omega) rfl)
      (lbase (sPAt (z := ez) (n := N) (kn := 200) (fun _ _ h => Rw.to (sz := 2) (n := N) (F := (fun ι w v => KI w v (a ι) ((fun ι => (xs ι).take 2) ι) (ez ι) 2)) (h) (fun i w v _ h => (fun _ _ _ h => And.right h) i w v h)) pQ rfl rfl rfl (by omega) (by omega) (by omega) (by omega) hB3 hA3)
      (lbase (sRMul pQ pQ rfl rfl rfl (by omega) rfl)
      (lbase (sRCmp pQ pQ (by omega) hC)
      (lbase (sWakes5)
      lnil))))))))))))))))))))))))))))))))
    (ins_ok [.fact 0 (.one (.s)), .fact 1 (.one (.i)), .fact 2 (.one (.i)), .fact 3 (.agg [.b, .s, .b, .s])] ⟨fun _ _ h => Rw.is (sz := 2) (F := (fun ι w v => RawI w v (a ι) (xs ι))) (n := n0) h, fun _ _ h => h ▸ int_is _, fun _ _ h => h ▸ int_is _, fun _ _ h => RawQ.is h, trivial⟩) (fun _ _ _ h => h)

theorem walk {n0 : Nat} {a : Nat → Bool} {xs : Nat → List Nat} {w : World} {v s0 t0 : Value} {b0 c0 : Bool} {ys0 ys1 : List Nat} (hn : n0 ≤ 9223372036854775807) (hl : Rw 2 (fun i w v => RawI w v (a i) (xs i)) n0 w v) (m1 : Int) (_ : -9223372036854775808 ≤ m1) (_ : m1 ≤ 9223372036854775807) (m2 : Int) (_ : -9223372036854775808 ≤ m2) (_ : m2 ≤ 9223372036854775807) (hx0 : Sl w .u32 s0 ys0) (ax0 : All 4294967296 ys0) (hy0 : Sl w .u32 t0 ys1) (ay0 : All 4294967296 ys1) : Calls Tryz.prog 5 #[v, .int .i64 m1, .int .i64 m2, .agg #[.bool b0, s0, .bool c0, t0]] w (Bool_ w true) := by
  obtain ⟨ez, hz⟩ : ∃ ez : Nat → Int, ∀ j, sg (a j) (Proofs.YtncaiomdcpppeaaGreat.val 4294967296 ((xs j).take 2)) = ez j := ⟨_, fun _ => rfl⟩
  obtain ⟨N, hNn⟩ : ∃ N, min n0 6 = N := ⟨_, rfl⟩
  obtain ⟨z0, hz0⟩ : ∃ z, sg b0 (Proofs.YtncaiomdcpppeaaGreat.val 4294967296 (ys0.take 1)) = z := ⟨_, rfl⟩
  obtain ⟨u0, hu0⟩ : ∃ z, sg c0 (Proofs.YtncaiomdcpppeaaGreat.val 4294967296 (ys1.take 1)) = z := ⟨_, rfl⟩
  obtain ⟨e1, hw1⟩ : ∃ e, wi5 m1 41 = e := ⟨_, rfl⟩
  obtain ⟨e2, hw2⟩ : ∃ e, wi5 m2 9 = e := ⟨_, rfl⟩
  have he1 : e1 < 41 := hw1 ▸ wi5_lt m1 (by omega)
  have he2 : e2 < 9 := hw2 ▸ wi5_lt m2 (by omega)
  obtain ⟨nn, hnn⟩ : ∃ z, (e1 : Int) - 20 = z := ⟨_, rfl⟩
  obtain ⟨dd, hdd⟩ : ∃ z, 1 + (e2 : Int) = z := ⟨_, rfl⟩
  obtain ⟨r, hr⟩ : ∃ r, Rat.divInt nn dd = r := ⟨_, rfl⟩
  obtain ⟨K, hK⟩ : ∃ K, K = tl ez N - 1 := ⟨_, rfl⟩
  obtain ⟨L1, hL1⟩ : ∃ L, trimL (mk 2 (z2 (-nn) dd)) = L := ⟨_, rfl⟩
  obtain ⟨L2, hL2⟩ : ∃ L, mulL ez N (coef L1) L1.length = L := ⟨_, rfl⟩
  obtain ⟨L3, hL3⟩ : ∃ L, mvL ez N nn dd = L := ⟨_, rfl⟩
  obtain ⟨L4, hL4⟩ : ∃ L, trimL (mk N ez) = L := ⟨_, rfl⟩
  have hle := tl_le ez N
  have hl1 : L1.length ≤ 2 := by rw [← hL1, trimL_mk]; exact tl_le _ _
  have hl2 : L2.length ≤ 10 := by rw [← hL2]; exact Nat.le_trans (mulL_le _ _ _ _) (by omega)
  have hl3 : L3.length = tl ez N := by rw [← hL3, mvL_length]
  have hl4 : L4.length = tl ez N := by rw [← hL4, trimL_mk]
  have hd0 : dd ≠ 0 := by omega
  have one : ∀ z : Int, z.natAbs ≤ 100 → Bd z.natAbs 1 := fun z h => by show _ < 4294967296 ^ 1; omega
  have hb : ∀ i, i < N → Bd (ez i).natAbs 2 := fun i hi => by
    obtain ⟨p, c, rfl, _, h1⟩ := hl
    obtain ⟨_, _, _, l, _, _, s, _, _, h2⟩ := h1 i (by omega)
    rw [← hz i, sg_abs]
    exact Bd.row _ h2 2
  have hbn : Bd nn.natAbs 1 := one nn (by omega)
  have hbd : Bd dd.natAbs 1 := one dd (by omega)
  have hq := qOf_bd (z := z0) (u := u0) (k := 1) (by omega) (by rw [← hz0, sg_abs]; exact Bd.row _ ax0 1) (by rw [← hu0, sg_abs]; exact Bd.row _ ay0 1)
  have hrb : Bd r.num.natAbs 1 ∧ Bd r.den 1 := hr ▸ q_bd hd0 hbn hbd
  have hb1 : ∀ i, i < L1.length → Bd (coef L1 i).natAbs 1 := fun i _ => by
    rw [← hL1, coef_trim, coef_mk]
    split
    · match i with
      | 0 => exact one (-nn) (by omega)
      | i + 1 => exact hbd
    · exact bd_zero _
  have hb2 : ∀ i, i < L2.length → Bd (coef L2 i).natAbs 15 := fun i _ => by
    rw [← hL2]; exact (mulL_bd hb hb1 i).more (by omega)
  have hb3 : ∀ i, i < L3.length → Bd (coef L3 i).natAbs 90 := fun i _ => by
    rw [← hL3]; exact (mvL_bd (by omega) hb hbd hbn i).more (by omega)
  have hrd : r * (dd : Rat) = nn := by
    have h0 : (dd : Rat) ≠ 0 := by exact_mod_cast hd0
    rw [← hr, Rat.divInt_eq_div]; grind
  have ev0 : ev r L2.length (coef L2) = 0 := by
    rw [← hL2, ev_mulL, ← hL1, ev_trim]
    have h1 : ev r 2 (z2 (-nn) dd) = 0 := by
      simp only [ev, z2]
      push_cast
      grind
    rw [h1, Rat.mul_zero]
  have hzz : ∀ i, -9223372036854775808 ≤ z2 (-nn) dd i ∧ z2 (-nn) dd i ≤ 9223372036854775807 := fun i => by
    match i with
    | 0 => show _ ≤ -nn ∧ -nn ≤ _; omega
    | i + 1 => show _ ≤ dd ∧ dd ≤ _; omega
  refine law_true (path_0 (pw := dd ^ K) (y1 := ev (qOf z0 u0) L3.length (coef L3)) (y2 := ev (qOf z0 u0 + r) N ez) hn hz hNn hz0 hu0 hw1 hw2 he1 he2 hnn hdd hr hzz hL1 hL2 hL3 hL4 hl1 hl2 (by omega) (by omega) (at_bd (k := 15) (kt := 1) (c := 10) hb2 hrb (Nat.le_trans (tl_le _ _) hl2) (by omega)) ?_ ((at_ev _ _ _).trans ev0) ?_ ?_ ?_ (by omega) (at_bd (k := 90) (kt := 1) (c := 6) hb3 hq (Nat.le_trans (tl_le _ _) (by omega)) (by omega)) (at_ev _ _ _) rfl ?_ (at_bd (k := 2) (kt := 3) (c := 6) hb (add_bd (k := 1) hq hrb) (by omega) (by omega)) (at_ev _ _ _) ?_) (vs := [v, .int .i64 m1, .int .i64 m2, .agg #[.bool b0, s0, .bool c0, t0]]) ⟨arg_poly hl, fun _ _ => rfl, fun _ _ => rfl, arg_kp rfl (fun _ _ _ g h => RawQ.kp h g) ⟨_, _, rfl, hx0, ax0, hy0, ay0⟩, trivial⟩
  · rw [sign_ev _ _ _ ev0]; rfl
  · intro j hj
    rw [Int.natAbs_pow]
    exact (Bd.pow1 hbd j).more (by omega)
  · intro j b hj hb'
    have h1 := mvS_bd (u := nn) (fun i hi => hb i (by omega)) hbd hbn j b hb'
    have h2 : j * (tl ez N * (1 + 1)) ≤ 6 * (6 * (1 + 1)) := Nat.mul_le_mul (by omega) (Nat.mul_le_mul_right _ (by omega))
    exact h1.more (by omega)
  · rw [hl4]; split <;> omega
  · rw [Int.natAbs_pow]
    exact (Bd.pow1 hbd K).more (by omega)
  · have h1 := ev_mvL hd0 (qOf z0 u0) ez N nn
    rw [hL3, ← hK] at h1
    apply cmpQ_eq
    rw [h1, ← hr, Rat.divInt_eq_div]
    push_cast
    rfl
set_option maxRecDepth 100000 in
theorem lifted (os : Os) (started : os.Started) (H : Type) (enc : TypeId × Value → H) :
    ReturnsInHanded {} Tryz.checked os 5 .any (Rows.polyRootsSpec.pre6 enc Tryz.prog Tryz.f5 Rows.polyRootsRow.domain false) (Rows.polyRootsSpec.post enc Tryz.prog Tryz.f5 false true false false) := by
  refine returnsInHanded_of_change (C := Tryz.checked) Tryz.own started (by kernel_rfl) Tryz.func5
    (ChangeSpec.witness6 (enc := enc) (C := Tryz.checked) false ⟨#[], #[.slice none 0 0, .int .i64 0, .int .i64 0, .agg #[.bool false, .slice none 0 0, .bool false, .slice none 0 0]], []⟩ 8 (by kernel_rfl) (by kernel_rfl) (by kernel_rfl) (by kernel_rfl)) ?_
  intro W base args ds gs before hval0 hW _ _
  have hval : ∀ (j : Nat) t v, Tryz.f5.params[j]? = some t → args[j]? = some v → Value.okWide Tryz.prog W .any base t v := hval0
  obtain ⟨p, q, hA0, hV, rfl, _, _⟩ := id hW
  have hA : DataW.TrodAll enc Tryz.prog W 0 (fun _ => true) true Tryz.f5.params.toList args.toList ds p := hA0
  rw [Tryz.params5] at hA hval
  obtain ⟨v0, vs0, d0, ds0, p0, q0, hargs, rfl, rfl, h0, r0⟩ := trodAll_cons hA
  obtain ⟨v1, vs1, d1, ds1, p1, q1, rfl, rfl, rfl, h1, r1⟩ := trodAll_cons r0
  obtain ⟨v2, vs2, d2, ds2, p2, q2, rfl, rfl, rfl, h2, r2⟩ := trodAll_cons r1
  obtain ⟨v3, vs3, d3, ds3, p3, q3, rfl, rfl, rfl, h3, r3⟩ := trodAll_cons r2
  obtain ⟨rfl, rfl, rfl⟩ := trodAll_nil r3
  obtain rfl : args = #[v0, v1, v2, v3] := by cases args; simp_all
  obtain ⟨n0, a0, xs0, l0, s0⟩ := poly_of_trod h0 (hval 0 23 v0 rfl rfl)
  obtain ⟨n1, rfl, rfl, rfl, f1⟩ := open_int Tryz.underlying3 (hval 1 3 v1 rfl rfl) h1
  obtain ⟨n2, rfl, rfl, rfl, f2⟩ := open_int Tryz.underlying3 (hval 2 3 v2 rfl rfl) h2
  obtain ⟨b3, w3, b3', w3', xs3, ys3, rfl, s3, a3, s3', a3'⟩ := rat_of_trod h3 (hval 3 28 v3 rfl rfl)
  refine (walk l0 s0 n1 (wf_lo f1) (wf_hi f1) n2 (wf_lo f2) (wf_hi f2) s3 a3 s3' a3').mono fun e W' ⟨he, hg⟩ => ?_
  subst he
  refine ⟨_, rfl, law_post Tryz.laidOut rfl (by kernel_rfl) Tryz.underlying4 ?_ ?_ hW hg⟩
  · rw [Tryz.params5]; decide +kernel
  · rw [Tryz.params5]
    intro ds h
    match ds, h with
    | [_, _, _, _], _ => rfl

theorem holds : Rows.PolyRootsSaid :=
  OpenClaim.holds_of_wide 5 Tryz.f5 rfl rfl rfl rfl rfl rfl rfl ⟨rfl, rfl, rfl, rfl, rfl⟩ rfl rfl rfl rfl rfl (by kernel_rfl) Tryz.func5 (by kernel_rfl)
    (of_decide_eq_true (by kernel_rfl)) (by unfold Func.isWrapper; first | (rw [if_pos (by decide +kernel)]; kernel_rfl) | (rw [if_neg (by decide +kernel)]; exact ⟨rfl, rfl⟩))
    (fun os started H enc _ => lifted os started H enc)

end Go.Proofs.YtncaiomdcpppeaaGreat.proots
