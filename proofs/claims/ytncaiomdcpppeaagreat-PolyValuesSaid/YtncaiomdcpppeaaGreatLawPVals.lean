/- PolyValues holds: for every polynomial and every rational the law returns true and leaves them as they were. No condition. -/
import Derived.Test.YtncaiomdcpppeaaGreatPolM
import Derived.Test.YtncaiomdcpppeaaGreatPolS
namespace Go.Proofs.YtncaiomdcpppeaaGreat.pvalues
open Go.ChangeShapes Go.WideShapes Go.ChangeAt Go.RowKit
open Go.Proofs.YtncaiomdcpppeaaGreat.Sym hiding val run start

theorem hN_congr {z z' : Nat → Int} {m : Nat} {u d : Int} (hm : 0 < m) (h : ∀ i, i < m → z i = z' i) : ∀ j, hN z m u d j = hN z' m u d j
  | 0 => by simp only [hN]; rw [h _ (by omega)]
  | j + 1 => by simp only [hN]; rw [hN_congr hm h j, h _ (by omega)]
theorem gN_hN {z : Nat → Int} {m : Nat} {u d : Int} (hm : 0 < m) : ∀ j, gN z m u d (j + 1) = hN z m u d j
  | 0 => by
    simp only [gN, hN]
    rw [if_neg (by omega), Int.zero_mul, Int.pow_zero, Int.mul_one, Int.zero_add, Nat.sub_zero]
  | j + 1 => by
    rw [gN, gN_hN hm j]
    simp only [hN]
    rw [show m - 1 - (j + 1) = m - 2 - j by omega]
theorem qH_hN {z : Nat → Int} {m : Nat} {q : Rat} (hm : 0 < m) : ∀ j, qH z m q (j + 1) = Rat.divInt (hN z m q.num q.den j) (((q.den : Nat) : Int) ^ j)
  | 0 => by
    simp only [qH, hN]
    rw [if_neg (by omega), Int.pow_zero, Rat.zero_mul, Rat.zero_add, Nat.sub_zero, ← qOf_one, qOf_int]
  | j + 1 => by
    rw [qH, qH_hN hm j]
    simp only [hN]
    have hd : ((q.den : Nat) : Int) ≠ 0 := by have := q.den_nz; omega
    have hb := den_pow_ne q j
    have e1 : q = Rat.divInt q.num q.den := (Rat.num_divInt_den q).symm
    have e2 : (((z (m - 1 - (j + 1))) : Int) : Rat) = Rat.divInt (z (m - 2 - j)) 1 := by rw [← qOf_one, qOf_int, show m - 1 - (j + 1) = m - 2 - j by omega]
    rw [e2]
    conv => lhs; lhs; rhs; rw [e1]
    rw [Rat.divInt_mul_divInt, Rat.divInt_add_divInt _ _ (Int.mul_ne_zero hb hd) (by omega), Int.mul_one, Int.mul_one, Int.pow_succ]
theorem qOf_bd {z u : Int} {k : Nat} (hk : 1 ≤ k) (hz : Bd z.natAbs k) (hu : Bd u.natAbs k) : Bd (qOf z u).num.natAbs k ∧ Bd (qOf z u).den k := by
  unfold qOf
  split
  · exact ⟨hz.le (num_le _ _), Bd.le (show Bd 1 k from Nat.one_lt_pow (by omega) (by omega)) (den_le (by omega))⟩
  · rename_i h
    exact ⟨hz.le (num_le _ _), hu.le (den_le h)⟩
def b_path_0 (a : Nat → Bool) (xs : Nat → List Nat) (ez : Nat → Int) (n0 N : Nat) (b0 c0 : Bool) (ys0 ys1 : List Nat) (z0 u0 : Int) : List (World → Value → Prop) := [fun w v => Rw 2 (fun ι w v => RawI w v (a ι) (xs ι)) n0 w v, fun w v => RawQ w v b0 ys0 c0 ys1, fun w v => Rw 2 (fun ι w v => KI w v (a ι) ((fun ι => (xs ι).take 3) ι) (ez ι) 3) N w v, fun w v => Rw 4 (fun ι w v => DecQ w v ((((coef (trimL (mk N ez))) ι : Int) : Rat)) (3 + 2 + 2)) ((trimL (mk N ez)).length) w v, fun w v => QV w v z0 u0 2, fun w v => DecQ w v (qOf z0 u0) (2 * 2 + 2), fun w v => DecI w v ((qOf z0 u0).num) (2 * 2 + 2), fun w v => DecI w v ((qOf z0 u0).den : Int) (2 * 2 + 2), fun w v => DecI w v (0 : Int) 2, fun _ v => v = .int .i64 (((trimL (mk N ez)).length : Nat) : Int), fun _ v => v = .int .i64 (eMin ez N), fun _ v => v = .int .i64 (eSg ez N), fun _ v => v = .int .i64 (rMin (coef (trimL (mk N ez))) (trimL (mk N ez)).length), fun _ v => v = .int .i64 (rSg (coef (trimL (mk N ez))) (trimL (mk N ez)).length), fun w v => DecQ w v (qH (coef (trimL (mk N ez))) (trimL (mk N ez)).length (qOf z0 u0) (trimL (mk N ez)).length) 40, fun w v => NorQ w v (Rat.divInt (hN ez (tl ez N) (qOf z0 u0).num (qOf z0 u0).den (tl ez N - 1)) ((((qOf z0 u0).den : Nat) : Int) ^ (tl ez N - 1))) (40 + 40), fun w v => NorV w v ((Rat.divInt (hN ez (tl ez N) (qOf z0 u0).num (qOf z0 u0).den (tl ez N - 1)) ((((qOf z0 u0).den : Nat) : Int) ^ (tl ez N - 1))).num) (40 + 40), fun w v => NorV w v ((Rat.divInt (hN ez (tl ez N) (qOf z0 u0).num (qOf z0 u0).den (tl ez N - 1)) ((((qOf z0 u0).den : Nat) : Int) ^ (tl ez N - 1))).den : Int) (40 + 40), fun _ v => v = .int .i64 (cmpI (hN ez (tl ez N) (qOf z0 u0).num (qOf z0 u0).den ((tl ez N) - 1)) 0), fun _ v => v = .int .i64 (cmpI (gN (coef (trimL (mk N ez))) (trimL (mk N ez)).length (qOf z0 u0).num (((qOf z0 u0).den : Nat) : Int) (trimL (mk N ez)).length) 0), fun w v => NorV w v (ldZ ez N) 3]
def ss_path_0 : List Step := [.base ⟨13, [.fact 0, .lit (.ci .i64 8), .lit (.ci .i64 3)], [⟨.one (.s), [(0, 0, 2)]⟩, ⟨.one (.s), [(0, 0, 3)]⟩], true⟩,
      .base ⟨14, [.fact 1, .lit (.ci .i64 2)], [⟨.agg [.b, .s, .b, .s], [(0, 0, 4)]⟩], false⟩,
      .base ⟨15, [.fact 4], [⟨.agg [.s, .b, .s, .b], [(0, 0, 5), (0, 2, 6), (2, 2, 7)]⟩], false⟩,
      .base ⟨16, [.lit (.ci .i64 0)], [⟨.agg [.s, .b], [(0, 0, 8)]⟩], false⟩,
      .base ⟨0, [.fact 3], [⟨.one (.i), [(0, 0, 9)]⟩], .quiet (mLen 30)⟩,
      .base ⟨0, [.fact 9, .lit (.ci .i64 0)], [⟨.one (.lit (.cb false)), []⟩], .quiet (mBin .gtr)⟩,
      .base ⟨17, [.fact 2], [⟨.one (.i), [(0, 0, 10)]⟩, ⟨.one (.i), [(0, 0, 11)]⟩], true⟩,
      .base ⟨18, [.fact 3], [⟨.one (.i), [(0, 0, 12)]⟩, ⟨.one (.i), [(0, 0, 13)]⟩], true⟩,
      .base ⟨20, [.fact 3, .fact 5], [⟨.agg [.s, .b, .s, .b], [(0, 0, 14)]⟩], false⟩,
      .base ⟨21, [.fact 2, .fact 4], [⟨.agg [.b, .s, .b, .s], [(0, 0, 15), (0, 2, 16), (2, 2, 17)]⟩], false⟩,
      .base ⟨19, [.fact 14, .fact 15], [⟨.one (.lit (.cb true)), []⟩], false⟩,
      .base ⟨22, [.fact 2, .fact 4], [⟨.one (.i), [(0, 0, 18)]⟩], false⟩,
      .base ⟨23, [.fact 3, .fact 5], [⟨.one (.i), [(0, 0, 19)]⟩], false⟩,
      .base ⟨0, [.fact 18, .fact 19], [⟨.one (.lit (.cb true)), []⟩], .quiet (mBin .eql)⟩,
      .base ⟨25, [.fact 2], [⟨.agg [.b, .s], [(0, 0, 20)]⟩], false⟩,
      .base ⟨24, [.fact 8, .fact 20], [⟨.one (.lit (.cb true)), []⟩], false⟩,
      .base ⟨0, [.fact 10, .fact 12], [⟨.one (.lit (.cb true)), []⟩], .quiet (mBin .eql)⟩,
      .base ⟨0, [.fact 11, .fact 13], [⟨.one (.lit (.cb true)), []⟩], .quiet (mBin .eql)⟩,
      .base ⟨26, [], [⟨.one (.lit (.cb true)), []⟩], false⟩]
def ins_path_0 : List Out := [⟨.one (.s), [(0, 0, 0)]⟩, ⟨.agg [.b, .s, .b, .s], [(0, 0, 1)]⟩]
set_option maxRecDepth 100000 in
theorem path_0 {a : Nat → Bool} {xs : Nat → List Nat} {ez : Nat → Int} {n0 N : Nat} {b0 c0 : Bool} {ys0 ys1 : List Nat} {z0 u0 : Int} (hn : n0 ≤ 9223372036854775807) (hz : ∀ j, sg (a j) (Proofs.YtncaiomdcpppeaaGreat.val 4294967296 ((xs j).take 3)) = ez j) (hNn : min n0 8 = N) (hz0 : sg b0 (Proofs.YtncaiomdcpppeaaGreat.val 4294967296 (ys0.take 2)) = z0) (hu0 : sg c0 (Proofs.YtncaiomdcpppeaaGreat.val 4294967296 (ys1.take 2)) = u0) (h0 : (trimL (mk N ez)).length = 0) (hB1 : ∀ j, j ≤ tl ez N - 1 → Bd (hN ez (tl ez N) (qOf z0 u0).num (qOf z0 u0).den j).natAbs 40 ∧ Bd ((((qOf z0 u0).den : Nat) : Int) ^ j).natAbs 40) (hB2 : ∀ j, j ≤ (trimL (mk N ez)).length → Bd (qH (coef (trimL (mk N ez))) (trimL (mk N ez)).length (qOf z0 u0) j).num.natAbs 40 ∧ Bd (qH (coef (trimL (mk N ez))) (trimL (mk N ez)).length (qOf z0 u0) j).den 40) (hB3 : ∀ j, j ≤ (trimL (mk N ez)).length → Bd (gN (coef (trimL (mk N ez))) (trimL (mk N ez)).length (qOf z0 u0).num (((qOf z0 u0).den : Nat) : Int) j).natAbs 40 ∧ Bd ((((qOf z0 u0).den : Nat) : Int) ^ j).natAbs 40) (hE1 : qH (coef (trimL (mk N ez))) (trimL (mk N ez)).length (qOf z0 u0) (trimL (mk N ez)).length = Rat.divInt (hN ez (tl ez N) (qOf z0 u0).num (qOf z0 u0).den (tl ez N - 1)) ((((qOf z0 u0).den : Nat) : Int) ^ (tl ez N - 1))) (hE2 : cmpI (hN ez (tl ez N) (qOf z0 u0).num (qOf z0 u0).den (tl ez N - 1)) 0 = cmpI (gN (coef (trimL (mk N ez))) (trimL (mk N ez)).length (qOf z0 u0).num (((qOf z0 u0).den : Nat) : Int) (trimL (mk N ez)).length) 0) (hE3 : eMin ez N = rMin (coef (trimL (mk N ez))) (trimL (mk N ez)).length) (hE4 : eSg ez N = rSg (coef (trimL (mk N ez))) (trimL (mk N ez)).length) (hE5 : 0 = ldZ ez N) : SiteOk (ph (b_path_0 a xs ez n0 N b0 c0 ys0 ys1 z0 u0)) Tryz.prog ⟨3, [.fact 0, .fact 1], [⟨.one (.lit (.cb true)), []⟩], false⟩ := by
  have hl := trimL_mk N ez
  have hle := tl_le ez N
  exact fn_okL ins_path_0 [⟨.one (.lit (.cb true)), []⟩] ss_path_0 Tryz.func3 (by kernel_rfl)
    (lbase (sCut5 8 3 rfl rfl (fun _ _ h => h) rfl rfl (by omega) (by omega) (by omega) hz hNn)
      (lbase (sKRat5 2 rfl (fun _ _ h => h) rfl hz0 hu0)
      (lbase (tFromR (fun _ _ h => h) rfl rfl rfl (by omega) rfl)
      (lbase (tOf (z := 0) rfl (by decide) (by decide) rfl)
      (lbase (qLen (sz := 4) (n := (trimL (mk N ez)).length) (F := (fun ι w v => DecQ w v ((((coef (trimL (mk N ez))) ι : Int) : Rat)) (3 + 2 + 2))) Tryz.underlying30 (fun _ _ h => Rw.arr h) rfl)
      (lbase (qTestC (op := .gtr) (fun _ _ h => h) (ts_run (decide_eq_false (by omega)) (by simp)))
      (lbase (sEnds (z := ez) (n := N) (fun _ _ h => Rw.to (sz := 2) (n := N) (F := (fun ι w v => KI w v (a ι) ((fun ι => (xs ι).take 3) ι) (ez ι) 3)) (h) (fun i w v _ h => (fun _ _ _ h => And.right h) i w v h)) rfl rfl (by omega) (by omega))
      (lbase (sREnds (fun _ _ h => h) rfl rfl (by omega))
      (lbase (sRAt (fun _ _ h => h) tS rfl (by omega) (by omega) (by omega) (by omega) hB2)
      (lbase (sPAt (z := ez) (n := N) (kn := 40) (fun _ _ h => Rw.to (sz := 2) (n := N) (F := (fun ι w v => KI w v (a ι) ((fun ι => (xs ι).take 3) ι) (ez ι) 3)) (h) (fun i w v _ h => (fun _ _ _ h => And.right h) i w v h)) vQ rfl rfl rfl (by omega) (by omega) (by omega) (by omega) hB1 rfl)
      (lbase (tSameR tS pP (by omega) hE1 rfl)
      (lbase (sPSign (z := ez) (n := N) (kn := 40) (fun _ _ h => Rw.to (sz := 2) (n := N) (F := (fun ι w v => KI w v (a ι) ((fun ι => (xs ι).take 3) ι) (ez ι) 3)) (h) (fun i w v _ h => (fun _ _ _ h => And.right h) i w v h)) vQ rfl (by omega) (by omega) (by omega) (by omega) hB1)
      (lbase (sRSign (kk := 40) (fun _ _ h => h) tS rfl (by omega) (by omega) (by omega) (by omega) hB3)
      (lbase (qTest (op := .eql) (fun _ _ h => h) (fun _ _ h => h) (ts_run (decide_eq_true hE2) (by simp)))
      (lbase (sLead (z := ez) (n := N) (fun _ _ h => Rw.to (sz := 2) (n := N) (F := (fun ι w v => KI w v (a ι) ((fun ι => (xs ι).take 3) ι) (ez ι) 3)) (h) (fun i w v _ h => (fun _ _ _ h => And.right h) i w v h)) rfl (by omega) (by omega) (rfl))
      (lbase (tSame dD nN (by omega) hE5 rfl)
      (lbase (qTest (op := .eql) (fun _ _ h => h) (fun _ _ h => h) (ts_run (decide_eq_true hE3) (by simp)))
      (lbase (qTest (op := .eql) (fun _ _ h => h) (fun _ _ h => h) (ts_run (decide_eq_true hE4) (by simp)))
      (lbase (sWakes5)
      lnil)))))))))))))))))))
    (ins_ok [.fact 0 (.one (.s)), .fact 1 (.agg [.b, .s, .b, .s])] ⟨fun _ _ h => Rw.is (sz := 2) (F := (fun ι w v => RawI w v (a ι) (xs ι))) (n := n0) h, fun _ _ h => RawQ.is h, trivial⟩) (fun _ _ _ h => h)

def b_path_1 (a : Nat → Bool) (xs : Nat → List Nat) (ez : Nat → Int) (n0 N : Nat) (b0 c0 : Bool) (ys0 ys1 : List Nat) (z0 u0 : Int) : List (World → Value → Prop) := [fun w v => Rw 2 (fun ι w v => RawI w v (a ι) (xs ι)) n0 w v, fun w v => RawQ w v b0 ys0 c0 ys1, fun w v => Rw 2 (fun ι w v => KI w v (a ι) ((fun ι => (xs ι).take 3) ι) (ez ι) 3) N w v, fun w v => Rw 4 (fun ι w v => DecQ w v ((((coef (trimL (mk N ez))) ι : Int) : Rat)) (3 + 2 + 2)) ((trimL (mk N ez)).length) w v, fun w v => QV w v z0 u0 2, fun w v => DecQ w v (qOf z0 u0) (2 * 2 + 2), fun w v => DecI w v ((qOf z0 u0).num) (2 * 2 + 2), fun w v => DecI w v ((qOf z0 u0).den : Int) (2 * 2 + 2), fun w v => DecI w v (0 : Int) 2, fun _ v => v = .int .i64 (((trimL (mk N ez)).length : Nat) : Int), fun _ v => v = .int .i64 (((trimL (mk N ez)).length : Nat) : Int), fun _ v => v = .int .i64 ((((trimL (mk N ez)).length - 1) : Nat) : Int), fun w v => Ptr 4 (fun w v => DecQ w v ((((coef (trimL (mk N ez))) ((trimL (mk N ez)).length - 1) : Int) : Rat)) (3 + 2 + 2)) w v, fun w v => Ptr 2 (fun w v => DecI w v (((((coef (trimL (mk N ez))) ((trimL (mk N ez)).length - 1) : Int) : Rat)).num) (3 + 2 + 2)) w v, fun w v => DecI w v (((((coef (trimL (mk N ez))) ((trimL (mk N ez)).length - 1) : Int) : Rat)).num) (3 + 2 + 2), fun _ v => v = .int .i64 (eMin ez N), fun _ v => v = .int .i64 (eSg ez N), fun _ v => v = .int .i64 (rMin (coef (trimL (mk N ez))) (trimL (mk N ez)).length), fun _ v => v = .int .i64 (rSg (coef (trimL (mk N ez))) (trimL (mk N ez)).length), fun w v => DecQ w v (qH (coef (trimL (mk N ez))) (trimL (mk N ez)).length (qOf z0 u0) (trimL (mk N ez)).length) 40, fun w v => NorQ w v (Rat.divInt (hN ez (tl ez N) (qOf z0 u0).num (qOf z0 u0).den (tl ez N - 1)) ((((qOf z0 u0).den : Nat) : Int) ^ (tl ez N - 1))) (40 + 40), fun w v => NorV w v ((Rat.divInt (hN ez (tl ez N) (qOf z0 u0).num (qOf z0 u0).den (tl ez N - 1)) ((((qOf z0 u0).den : Nat) : Int) ^ (tl ez N - 1))).num) (40 + 40), fun w v => NorV w v ((Rat.divInt (hN ez (tl ez N) (qOf z0 u0).num (qOf z0 u0).den (tl ez N - 1)) ((((qOf z0 u0).den : Nat) : Int) ^ (tl ez N - 1))).den : Int) (40 + 40), fun _ v => v = .int .i64 (cmpI (hN ez (tl ez N) (qOf z0 u0).num (qOf z0 u0).den ((tl ez N) - 1)) 0), fun _ v => v = .int .i64 (cmpI (gN (coef (trimL (mk N ez))) (trimL (mk N ez)).length (qOf z0 u0).num (((qOf z0 u0).den : Nat) : Int) (trimL (mk N ez)).length) 0), fun w v => NorV w v (ldZ ez N) 3]
def ss_path_1 : List Step := [.base ⟨13, [.fact 0, .lit (.ci .i64 8), .lit (.ci .i64 3)], [⟨.one (.s), [(0, 0, 2)]⟩, ⟨.one (.s), [(0, 0, 3)]⟩], true⟩,
      .base ⟨14, [.fact 1, .lit (.ci .i64 2)], [⟨.agg [.b, .s, .b, .s], [(0, 0, 4)]⟩], false⟩,
      .base ⟨15, [.fact 4], [⟨.agg [.s, .b, .s, .b], [(0, 0, 5), (0, 2, 6), (2, 2, 7)]⟩], false⟩,
      .base ⟨16, [.lit (.ci .i64 0)], [⟨.agg [.s, .b], [(0, 0, 8)]⟩], false⟩,
      .base ⟨0, [.fact 3], [⟨.one (.i), [(0, 0, 9)]⟩], .quiet (mLen 30)⟩,
      .base ⟨0, [.fact 9, .lit (.ci .i64 0)], [⟨.one (.lit (.cb true)), []⟩], .quiet (mBin .gtr)⟩,
      .base ⟨0, [.fact 3], [⟨.one (.i), [(0, 0, 10)]⟩], .quiet (mLen 30)⟩,
      .base ⟨0, [.fact 10, .lit (.ci .i64 1)], [⟨.one (.i), [(0, 0, 11)]⟩], .quiet (mBin .sub)⟩,
      .base ⟨0, [.fact 3, .fact 11], [⟨.one (.p), [(0, 0, 12)]⟩], .quiet (mIdx 30)⟩,
      .base ⟨0, [.fact 12], [⟨.one (.p), [(0, 0, 13)]⟩], .quiet (mFld 39 0)⟩,
      .base ⟨0, [.fact 13], [⟨.agg [.s, .b], [(0, 0, 14)]⟩], .quiet (mLoad 37)⟩,
      .base ⟨17, [.fact 2], [⟨.one (.i), [(0, 0, 15)]⟩, ⟨.one (.i), [(0, 0, 16)]⟩], true⟩,
      .base ⟨18, [.fact 3], [⟨.one (.i), [(0, 0, 17)]⟩, ⟨.one (.i), [(0, 0, 18)]⟩], true⟩,
      .base ⟨20, [.fact 3, .fact 5], [⟨.agg [.s, .b, .s, .b], [(0, 0, 19)]⟩], false⟩,
      .base ⟨21, [.fact 2, .fact 4], [⟨.agg [.b, .s, .b, .s], [(0, 0, 20), (0, 2, 21), (2, 2, 22)]⟩], false⟩,
      .base ⟨19, [.fact 19, .fact 20], [⟨.one (.lit (.cb true)), []⟩], false⟩,
      .base ⟨22, [.fact 2, .fact 4], [⟨.one (.i), [(0, 0, 23)]⟩], false⟩,
      .base ⟨23, [.fact 3, .fact 5], [⟨.one (.i), [(0, 0, 24)]⟩], false⟩,
      .base ⟨0, [.fact 23, .fact 24], [⟨.one (.lit (.cb true)), []⟩], .quiet (mBin .eql)⟩,
      .base ⟨25, [.fact 2], [⟨.agg [.b, .s], [(0, 0, 25)]⟩], false⟩,
      .base ⟨24, [.fact 14, .fact 25], [⟨.one (.lit (.cb true)), []⟩], false⟩,
      .base ⟨0, [.fact 15, .fact 17], [⟨.one (.lit (.cb true)), []⟩], .quiet (mBin .eql)⟩,
      .base ⟨0, [.fact 16, .fact 18], [⟨.one (.lit (.cb true)), []⟩], .quiet (mBin .eql)⟩,
      .base ⟨26, [], [⟨.one (.lit (.cb true)), []⟩], false⟩]
def ins_path_1 : List Out := [⟨.one (.s), [(0, 0, 0)]⟩, ⟨.agg [.b, .s, .b, .s], [(0, 0, 1)]⟩]
set_option maxRecDepth 100000 in
theorem path_1 {a : Nat → Bool} {xs : Nat → List Nat} {ez : Nat → Int} {n0 N : Nat} {b0 c0 : Bool} {ys0 ys1 : List Nat} {z0 u0 : Int} (hn : n0 ≤ 9223372036854775807) (hz : ∀ j, sg (a j) (Proofs.YtncaiomdcpppeaaGreat.val 4294967296 ((xs j).take 3)) = ez j) (hNn : min n0 8 = N) (hz0 : sg b0 (Proofs.YtncaiomdcpppeaaGreat.val 4294967296 (ys0.take 2)) = z0) (hu0 : sg c0 (Proofs.YtncaiomdcpppeaaGreat.val 4294967296 (ys1.take 2)) = u0) (h0 : 0 < (trimL (mk N ez)).length) (hB1 : ∀ j, j ≤ tl ez N - 1 → Bd (hN ez (tl ez N) (qOf z0 u0).num (qOf z0 u0).den j).natAbs 40 ∧ Bd ((((qOf z0 u0).den : Nat) : Int) ^ j).natAbs 40) (hB2 : ∀ j, j ≤ (trimL (mk N ez)).length → Bd (qH (coef (trimL (mk N ez))) (trimL (mk N ez)).length (qOf z0 u0) j).num.natAbs 40 ∧ Bd (qH (coef (trimL (mk N ez))) (trimL (mk N ez)).length (qOf z0 u0) j).den 40) (hB3 : ∀ j, j ≤ (trimL (mk N ez)).length → Bd (gN (coef (trimL (mk N ez))) (trimL (mk N ez)).length (qOf z0 u0).num (((qOf z0 u0).den : Nat) : Int) j).natAbs 40 ∧ Bd ((((qOf z0 u0).den : Nat) : Int) ^ j).natAbs 40) (hE1 : qH (coef (trimL (mk N ez))) (trimL (mk N ez)).length (qOf z0 u0) (trimL (mk N ez)).length = Rat.divInt (hN ez (tl ez N) (qOf z0 u0).num (qOf z0 u0).den (tl ez N - 1)) ((((qOf z0 u0).den : Nat) : Int) ^ (tl ez N - 1))) (hE2 : cmpI (hN ez (tl ez N) (qOf z0 u0).num (qOf z0 u0).den (tl ez N - 1)) 0 = cmpI (gN (coef (trimL (mk N ez))) (trimL (mk N ez)).length (qOf z0 u0).num (((qOf z0 u0).den : Nat) : Int) (trimL (mk N ez)).length) 0) (hE3 : eMin ez N = rMin (coef (trimL (mk N ez))) (trimL (mk N ez)).length) (hE4 : eSg ez N = rSg (coef (trimL (mk N ez))) (trimL (mk N ez)).length) (hE5 : coef (trimL (mk N ez)) ((trimL (mk N ez)).length - 1) = ldZ ez N) : SiteOk (ph (b_path_1 a xs ez n0 N b0 c0 ys0 ys1 z0 u0)) Tryz.prog ⟨3, [.fact 0, .fact 1], [⟨.one (.lit (.cb true)), []⟩], false⟩ := by
  have hl := trimL_mk N ez
  have hle := tl_le ez N
  exact fn_okL ins_path_1 [⟨.one (.lit (.cb true)), []⟩] ss_path_1 Tryz.func3 (by kernel_rfl)
    (lbase (sCut5 8 3 rfl rfl (fun _ _ h => h) rfl rfl (by omega) (by omega) (by omega) hz hNn)
      (lbase (sKRat5 2 rfl (fun _ _ h => h) rfl hz0 hu0)
      (lbase (tFromR (fun _ _ h => h) rfl rfl rfl (by omega) rfl)
      (lbase (tOf (z := 0) rfl (by decide) (by decide) rfl)
      (lbase (qLen (sz := 4) (n := (trimL (mk N ez)).length) (F := (fun ι w v => DecQ w v ((((coef (trimL (mk N ez))) ι : Int) : Rat)) (3 + 2 + 2))) Tryz.underlying30 (fun _ _ h => Rw.arr h) rfl)
      (lbase (qTestC (op := .gtr) (fun _ _ h => h) (ts_run (decide_eq_true (by omega)) (by simp)))
      (lbase (qLen (sz := 4) (n := (trimL (mk N ez)).length) (F := (fun ι w v => DecQ w v ((((coef (trimL (mk N ez))) ι : Int) : Rat)) (3 + 2 + 2))) Tryz.underlying30 (fun _ _ h => Rw.arr h) rfl)
      (lbase (qSubK (fun _ _ h => h) (by omega) rfl (by omega) (by omega))
      (lbase (qIdx (i := ((trimL (mk N ez)).length - 1)) (sz := 4) (n := (trimL (mk N ez)).length) (F := (fun ι w v => DecQ w v ((((coef (trimL (mk N ez))) ι : Int) : Rat)) (3 + 2 + 2))) Tryz.underlying30 (by kernel_rfl) (fun _ _ h => Rw.arr h) (fun _ _ h => h) (by omega) rfl)
      (lbase (qFld (off := 0) (len := 2) (sz := 4) (F := fun w v => DecQ w v ((((coef (trimL (mk N ez))) ((trimL (mk N ez)).length - 1) : Int) : Rat)) (3 + 2 + 2)) (G := fun w v => DecI w v (((((coef (trimL (mk N ez))) ((trimL (mk N ez)).length - 1) : Int) : Rat)).num) (3 + 2 + 2)) (by kernel_rfl) (fun _ _ h => h) (by omega) (fun _ _ h => DecQ.fst' h) rfl)
      (lbase (qLoad (sz := 2) (F := fun w v => DecI w v (((((coef (trimL (mk N ez))) ((trimL (mk N ez)).length - 1) : Int) : Rat)).num) (3 + 2 + 2)) (by kernel_rfl) (by kernel_rfl) (fun _ _ h => h) (fun _ _ _ g h => DecI.kp h g) (fun _ _ h => DecI.is h) rfl)
      (lbase (sEnds (z := ez) (n := N) (fun _ _ h => Rw.to (sz := 2) (n := N) (F := (fun ι w v => KI w v (a ι) ((fun ι => (xs ι).take 3) ι) (ez ι) 3)) (h) (fun i w v _ h => (fun _ _ _ h => And.right h) i w v h)) rfl rfl (by omega) (by omega))
      (lbase (sREnds (fun _ _ h => h) rfl rfl (by omega))
      (lbase (sRAt (fun _ _ h => h) tS rfl (by omega) (by omega) (by omega) (by omega) hB2)
      (lbase (sPAt (z := ez) (n := N) (kn := 40) (fun _ _ h => Rw.to (sz := 2) (n := N) (F := (fun ι w v => KI w v (a ι) ((fun ι => (xs ι).take 3) ι) (ez ι) 3)) (h) (fun i w v _ h => (fun _ _ _ h => And.right h) i w v h)) vQ rfl rfl rfl (by omega) (by omega) (by omega) (by omega) hB1 rfl)
      (lbase (tSameR tS pP (by omega) hE1 rfl)
      (lbase (sPSign (z := ez) (n := N) (kn := 40) (fun _ _ h => Rw.to (sz := 2) (n := N) (F := (fun ι w v => KI w v (a ι) ((fun ι => (xs ι).take 3) ι) (ez ι) 3)) (h) (fun i w v _ h => (fun _ _ _ h => And.right h) i w v h)) vQ rfl (by omega) (by omega) (by omega) (by omega) hB1)
      (lbase (sRSign (kk := 40) (fun _ _ h => h) tS rfl (by omega) (by omega) (by omega) (by omega) hB3)
      (lbase (qTest (op := .eql) (fun _ _ h => h) (fun _ _ h => h) (ts_run (decide_eq_true hE2) (by simp)))
      (lbase (sLead (z := ez) (n := N) (fun _ _ h => Rw.to (sz := 2) (n := N) (F := (fun ι w v => KI w v (a ι) ((fun ι => (xs ι).take 3) ι) (ez ι) 3)) (h) (fun i w v _ h => (fun _ _ _ h => And.right h) i w v h)) rfl (by omega) (by omega) (rfl))
      (lbase (tSame dD nN (by omega) hE5 rfl)
      (lbase (qTest (op := .eql) (fun _ _ h => h) (fun _ _ h => h) (ts_run (decide_eq_true hE3) (by simp)))
      (lbase (qTest (op := .eql) (fun _ _ h => h) (fun _ _ h => h) (ts_run (decide_eq_true hE4) (by simp)))
      (lbase (sWakes5)
      lnil))))))))))))))))))))))))
    (ins_ok [.fact 0 (.one (.s)), .fact 1 (.agg [.b, .s, .b, .s])] ⟨fun _ _ h => Rw.is (sz := 2) (F := (fun ι w v => RawI w v (a ι) (xs ι))) (n := n0) h, fun _ _ h => RawQ.is h, trivial⟩) (fun _ _ _ h => h)

theorem walk {n0 : Nat} {a : Nat → Bool} {xs : Nat → List Nat} {w : World} {v s0 t0 : Value} {b0 c0 : Bool} {ys0 ys1 : List Nat} (hn : n0 ≤ 9223372036854775807) (hl : Rw 2 (fun i w v => RawI w v (a i) (xs i)) n0 w v) (hx0 : Sl w .u32 s0 ys0) (ax0 : All 4294967296 ys0) (hy0 : Sl w .u32 t0 ys1) (ay0 : All 4294967296 ys1) : Calls Tryz.prog 3 #[v, .agg #[.bool b0, s0, .bool c0, t0]] w (Bool_ w true) := by
  obtain ⟨ez, hz⟩ : ∃ ez : Nat → Int, ∀ j, sg (a j) (Proofs.YtncaiomdcpppeaaGreat.val 4294967296 ((xs j).take 3)) = ez j := ⟨_, fun _ => rfl⟩
  obtain ⟨N, hNn⟩ : ∃ N, min n0 8 = N := ⟨_, rfl⟩
  obtain ⟨z0, hz0⟩ : ∃ z, sg b0 (Proofs.YtncaiomdcpppeaaGreat.val 4294967296 (ys0.take 2)) = z := ⟨_, rfl⟩
  obtain ⟨u0, hu0⟩ : ∃ z, sg c0 (Proofs.YtncaiomdcpppeaaGreat.val 4294967296 (ys1.take 2)) = z := ⟨_, rfl⟩
  have hb : ∀ i, i < N → Bd (ez i).natAbs 3 := fun i hi => by
    obtain ⟨p, c, rfl, _, h1⟩ := hl
    obtain ⟨_, _, _, l, _, _, s, _, _, h2⟩ := h1 i (by omega)
    rw [← hz i, sg_abs]
    exact Bd.row _ h2 3
  have hq := qOf_bd (z := z0) (u := u0) (k := 2) (by omega) (by rw [← hz0, sg_abs]; exact Bd.row _ ax0 2) (by rw [← hu0, sg_abs]; exact Bd.row _ ay0 2)
  have hL := trimL_mk N ez
  have hle := tl_le ez N
  have hc : ∀ i, i < tl ez N → coef (trimL (mk N ez)) i = ez i := fun i hi => by rw [← trim_coef (by omega), upto_lt (by omega)]
  have args : argsOk (ph [fun w v => Rw 2 (fun i w v => RawI w v (a i) (xs i)) n0 w v, fun w v => RawQ w v b0 ys0 c0 ys1]) (fun _ => False) w [.fact 0, .fact 1] [v, .agg #[.bool b0, s0, .bool c0, t0]] := ⟨arg_poly hl, arg_kp rfl (fun _ _ _ g h => RawQ.kp h g) ⟨_, _, rfl, hx0, ax0, hy0, ay0⟩, trivial⟩
  have hpw : ∀ j, j ≤ 8 → Bd ((((qOf z0 u0).den : Nat) : Int) ^ j).natAbs 40 := fun j hj => by
    rw [Int.natAbs_pow, Int.natAbs_natCast]
    exact (Bd.pow1 hq.2 j).more (by omega)
  rcases Nat.eq_zero_or_pos (tl ez N) with h0 | h0
  · have h1 : (trimL (mk N ez)).length = 0 := by omega
    have hz1 : ∀ j, j = 0 → Bd (0 : Int).natAbs 40 := fun _ _ => by show 0 < _; decide
    refine law_true (path_0 hn hz hNn hz0 hu0 h1 (fun j hj => ⟨?_, hpw j (by omega)⟩) (fun j hj => ?_) (fun j hj => ⟨?_, hpw j (by omega)⟩) ?_ ?_ ?_ ?_ ?_) (vs := [v, .agg #[.bool b0, s0, .bool c0, t0]]) ⟨arg_poly hl, arg_kp rfl (fun _ _ _ g h => RawQ.kp h g) ⟨_, _, rfl, hx0, ax0, hy0, ay0⟩, trivial⟩
    · obtain rfl : j = 0 := by omega
      simp only [hN]; rw [if_pos h0]; exact hz1 0 rfl
    · obtain rfl : j = 0 := by omega
      exact ⟨hz1 0 rfl, by show 1 < _; decide⟩
    · obtain rfl : j = 0 := by omega
      exact hz1 0 rfl
    · rw [h1, h0]
      show (0 : Rat) = Rat.divInt 0 _
      rw [Rat.zero_divInt]
    · rw [h1, h0]; rfl
    · rw [h1, eMin, eSg, ldZ, tl_idem, h0]; rfl
    · rw [h1, eSg, ldZ, tl_idem, h0]; rfl
    · rw [ldZ, if_pos h0]
  · have hbN : ∀ j, j ≤ 8 → Bd (hN ez (tl ez N) (qOf z0 u0).num (qOf z0 u0).den j).natAbs 40 := fun j hj => (hN_bd h0 (fun i hi => hb i (by omega)) hq.1 (by rw [Int.natAbs_natCast]; exact hq.2) j).more (by omega)
    have hcN : ∀ j, hN (coef (trimL (mk N ez))) (tl ez N) (qOf z0 u0).num (qOf z0 u0).den j = hN ez (tl ez N) (qOf z0 u0).num (qOf z0 u0).den j := hN_congr h0 hc
    have hsg : cmpI (ldZ ez (tl ez N)) 0 = cmpI (coef (trimL (mk N ez)) (tl ez N - 1)) 0 := by rw [ld_top h0, hc _ (by omega)]
    obtain ⟨m, hm⟩ : ∃ m, tl ez N = m + 1 := ⟨tl ez N - 1, by omega⟩
    refine law_true (path_1 hn hz hNn hz0 hu0 (by omega) (fun j hj => ⟨hbN j (by omega), hpw j (by omega)⟩) (fun j hj => ?_) (fun j hj => ⟨?_, hpw j (by omega)⟩) ?_ ?_ ?_ ?_ ?_) (vs := [v, .agg #[.bool b0, s0, .bool c0, t0]]) ⟨arg_poly hl, arg_kp rfl (fun _ _ _ g h => RawQ.kp h g) ⟨_, _, rfl, hx0, ax0, hy0, ay0⟩, trivial⟩
    · rw [hL]
      rw [hL] at hj
      cases j with
      | zero => exact ⟨by show 0 < _; decide, by show 1 < _; decide⟩
      | succ j =>
        rw [qH_hN h0, hcN]
        exact ⟨(hbN j (by omega)).le (num_le _ _), (hpw j (by omega)).le (den_le (den_pow_ne _ _))⟩
    · rw [hL]
      rw [hL] at hj
      cases j with
      | zero => show 0 < _; decide
      | succ j => rw [gN_hN h0, hcN]; exact hbN j (by omega)
    · rw [hL]
      conv => lhs; arg 4; rw [hm]
      rw [qH_hN h0, hcN, show m = tl ez N - 1 by omega]
    · rw [hL]
      conv => rhs; arg 1; arg 5; rw [hm]
      rw [gN_hN h0, hcN, show m = tl ez N - 1 by omega]
    · have h2 : ¬ tl ez N = 0 := by omega
      rw [hL]
      unfold eMin eSg rMin
      rw [hsg, if_neg h2]
      by_cases he : tl ez N % 2 = 0
      · rw [if_pos ⟨he, h0⟩, if_pos he]
      · rw [if_neg (fun h => he h.1), if_neg he]
    · rw [hL, eSg, rSg, if_neg (by omega), hsg]
    · rw [hL, hc _ (by omega), ldZ, if_neg (by omega)]
set_option maxRecDepth 100000 in
theorem lifted (os : Os) (started : os.Started) (H : Type) (enc : TypeId × Value → H) :
    ReturnsInHanded {} Tryz.checked os 3 .any (Rows.polyValuesSpec.pre6 enc Tryz.prog Tryz.f3 Rows.polyValuesRow.domain false) (Rows.polyValuesSpec.post enc Tryz.prog Tryz.f3 false true false false) := by
  refine returnsInHanded_of_change (C := Tryz.checked) Tryz.own started (by kernel_rfl) Tryz.func3
    (ChangeSpec.witness6 (enc := enc) (C := Tryz.checked) false ⟨#[], #[.slice none 0 0, .agg #[.bool false, .slice none 0 0, .bool false, .slice none 0 0]], []⟩ 8 (by kernel_rfl) (by kernel_rfl) (by kernel_rfl) (by kernel_rfl)) ?_
  intro W base args ds gs before hval0 hW _ _
  have hval : ∀ (j : Nat) t v, Tryz.f3.params[j]? = some t → args[j]? = some v → Value.okWide Tryz.prog W .any base t v := hval0
  obtain ⟨p, q, hA0, hV, rfl, _, _⟩ := id hW
  have hA : DataW.TrodAll enc Tryz.prog W 0 (fun _ => true) true Tryz.f3.params.toList args.toList ds p := hA0
  rw [Tryz.params3] at hA hval
  obtain ⟨v0, vs0, d0, ds0, p0, q0, hargs, rfl, rfl, h0, r0⟩ := trodAll_cons hA
  obtain ⟨v1, vs1, d1, ds1, p1, q1, rfl, rfl, rfl, h1, r1⟩ := trodAll_cons r0
  obtain ⟨rfl, rfl, rfl⟩ := trodAll_nil r1
  obtain rfl : args = #[v0, v1] := by cases args; simp_all
  obtain ⟨n0, a0, xs0, l0, s0⟩ := poly_of_trod h0 (hval 0 23 v0 rfl rfl)
  obtain ⟨b1, w1, b1', w1', xs1, ys1, rfl, s1, a1, s1', a1'⟩ := rat_of_trod h1 (hval 1 28 v1 rfl rfl)
  refine (walk l0 s0 s1 a1 s1' a1').mono fun e W' ⟨he, hg⟩ => ?_
  subst he
  refine ⟨_, rfl, law_post Tryz.laidOut rfl (by kernel_rfl) Tryz.underlying4 ?_ ?_ hW hg⟩
  · rw [Tryz.params3]; decide +kernel
  · rw [Tryz.params3]
    intro ds h
    match ds, h with
    | [_, _], _ => rfl

theorem holds : Rows.PolyValuesSaid :=
  OpenClaim.holds_of_wide 3 Tryz.f3 rfl rfl rfl rfl rfl rfl rfl ⟨rfl, rfl, rfl, rfl, rfl⟩ rfl rfl rfl rfl rfl (by kernel_rfl) Tryz.func3 (by kernel_rfl)
    (of_decide_eq_true (by kernel_rfl)) (by unfold Func.isWrapper; first | (rw [if_pos (by decide +kernel)]; kernel_rfl) | (rw [if_neg (by decide +kernel)]; exact ⟨rfl, rfl⟩))
    (fun os started H enc _ => lifted os started H enc)

end Go.Proofs.YtncaiomdcpppeaaGreat.pvalues
