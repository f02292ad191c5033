/- The reference's Primitive and Sized over the rationals. -/
import Derived.Test.YteblgmjpociffaaGreatDivQ
namespace Go.Proofs.YteblgmjpociffaaGreat.Sym
open Go.RowKit
def b_xprq_p (q : Nat → Rat) (dL wz : Nat → Int) (n k kd kg K N : Nat) (t u : Rat) : List (World → Value → Prop) := [fun w v => Rw 4 (fun ι w v => DecQ w v ((q ι)) k) n w v, fun _ v => v = .int .i64 ((n : Nat) : Int), fun w v => DecI w v (1 : Int) 2, fun _ v => v = .int .i64 ((n : Nat) : Int), fun w v => DecI w v (dL n) kd, fun _ v => v = .int .i64 ((n : Nat) : Int), fun w v => DecI w v (gcdZ wz n : Int) kg, fun w v => DecQ w v t (kg + kd + 2), fun w v => DecI w v t.num (kg + kd + 2), fun w v => DecI w v (t.den : Int) (kg + kd + 2), fun _ v => v = .int .i64 ((n : Nat) : Int), fun _ v => v = .int .i64 (((n - 1) : Nat) : Int), fun w v => Ptr 4 (fun w v => DecQ w v ((q (n - 1))) k) w v, fun w v => Ptr 2 (fun w v => DecI w v (((q (n - 1))).num) k) w v, fun w v => Ptr 1 (fun _ v => v = .agg #[.bool false]) w v, fun w v => DecQ w v (qOf 1 1) 6, fun w v => DecI w v ((qOf 1 1).num) 6, fun w v => DecI w v ((qOf 1 1).den : Int) 6, fun w v => DecQ w v u (2 * (6 + (kg + kd + 2)) + 2), fun w v => DecI w v u.num (2 * (6 + (kg + kd + 2)) + 2), fun w v => DecI w v (u.den : Int) (2 * (6 + (kg + kd + 2)) + 2), fun w v => Rw 4 (fun ι w v => DecQ w v (((q ι) * u)) K) N w v]
def l_xprq_p_2 (q : Nat → Rat) (dL wz : Nat → Int) (n k kd kg : Nat) (i : Nat) : List (World → Value → Prop) := [fun _ v => v = .int .i64 ((i : Nat) : Int), fun w v => DecI w v (gcdZ wz i : Int) kg, fun w v => Ptr 4 (fun w v => DecQ w v ((q i)) k) w v, fun w v => Ptr 2 (fun w v => DecI w v (((q i)).num) k) w v, fun w v => DecI w v (((q i)).num) k, fun w v => DecI w v ((((q i)).num) * (dL n)) (k + kd), fun w v => Ptr 4 (fun w v => DecQ w v ((q i)) k) w v, fun w v => Ptr 2 (fun w v => DecI w v (((q i)).den : Int) k) w v, fun w v => DecI w v (((q i)).den : Int) k, fun w v => DecI w v (wz i) (k + kd), fun w v => DecI w v (Int.gcd (gcdZ wz i : Int) (wz i) : Int) (kg + (k + kd)), fun _ v => v = .int .i64 (((i + 1) : Nat) : Int)]
def d_xprq_p_2 : LoopD := ⟨[0, 2, 3, 4, 6, 9, 10, 11, 13, 14, 15, 16, 17, 35, 36], [(.slot 37, .i), (.cell 14 0, .s), (.cell 14 1, .b)], [(.one 0, 22), (.agg [1, 2], 23)], [.closed (.one (.ci .i64 0)), .closed (.agg [.nl, .cb false])], 22, [(23, 6)]⟩
def r_xprq_p_2_0 : List Step := [.base ⟨0, [.fact 22, .fact 5], [⟨.one (.lit (.cb true)), []⟩], .quiet (mBin .lss)⟩,
      .base ⟨0, [.fact 0, .fact 22], [⟨.one (.p), [(0, 0, 24)]⟩], .quiet (mIdx 30)⟩,
      .base ⟨0, [.fact 24], [⟨.one (.p), [(0, 0, 25)]⟩], .quiet (mFld 53 0)⟩,
      .base ⟨0, [.fact 25], [⟨.agg [.s, .b], [(0, 0, 26)]⟩], .quiet (mLoad 51)⟩,
      .base ⟨85, [.fact 26, .fact 4], [⟨.agg [.s, .b], [(0, 0, 27)]⟩], false⟩,
      .base ⟨0, [.fact 0, .fact 22], [⟨.one (.p), [(0, 0, 28)]⟩], .quiet (mIdx 30)⟩,
      .base ⟨0, [.fact 28], [⟨.one (.p), [(0, 0, 29)]⟩], .quiet (mFld 53 1)⟩,
      .base ⟨0, [.fact 29], [⟨.agg [.s, .b], [(0, 0, 30)]⟩], .quiet (mLoad 51)⟩,
      .base ⟨77, [.fact 27, .fact 30], [⟨.agg [.s, .b], [(0, 0, 31)]⟩], false⟩,
      .base ⟨30, [.fact 23, .fact 31], [⟨.agg [.s, .b], [(0, 0, 32)]⟩], false⟩,
      .base ⟨0, [.fact 22, .lit (.ci .i64 1)], [⟨.one (.i), [(0, 0, 33)]⟩], .quiet (mBin .add)⟩]
def o_xprq_p_2 : List Step := [.base ⟨0, [.fact 22, .fact 5], [⟨.one (.lit (.cb false)), []⟩], .quiet (mBin .lss)⟩]
def l_xprq_p_1 (q : Nat → Rat) (dL : Nat → Int) (k kd : Nat) (j : Nat) : List (World → Value → Prop) := [fun _ v => v = .int .i64 ((j : Nat) : Int), fun w v => DecI w v (dL j) kd, fun w v => Ptr 4 (fun w v => DecQ w v ((q j)) k) w v, fun w v => Ptr 2 (fun w v => DecI w v (((q j)).den : Int) k) w v, fun w v => DecI w v (((q j)).den : Int) k, fun w v => DecI w v ((dL j) * (((q j)).den : Int)) (kd + k), fun w v => Ptr 4 (fun w v => DecQ w v ((q j)) k) w v, fun w v => Ptr 2 (fun w v => DecI w v (((q j)).den : Int) k) w v, fun w v => DecI w v (((q j)).den : Int) k, fun w v => DecI w v (Int.gcd (dL j) (((q j)).den : Int) : Int) (kd + k), fun w v => DecI w v (dL (j + 1)) (kd + k), fun _ v => v = .int .i64 (((j + 1) : Nat) : Int)]
def d_xprq_p_1 : LoopD := ⟨[0, 2, 3, 4, 9, 10, 11, 13, 14, 15], [(.slot 16, .i), (.cell 7 0, .s), (.cell 7 1, .b)], [(.one 0, 22), (.agg [1, 2], 23)], [.closed (.one (.ci .i64 0)), .from 2], 22, [(23, 4)]⟩
def r_xprq_p_1_0 : List Step := [.base ⟨0, [.fact 22, .fact 3], [⟨.one (.lit (.cb true)), []⟩], .quiet (mBin .lss)⟩,
      .base ⟨0, [.fact 0, .fact 22], [⟨.one (.p), [(0, 0, 24)]⟩], .quiet (mIdx 30)⟩,
      .base ⟨0, [.fact 24], [⟨.one (.p), [(0, 0, 25)]⟩], .quiet (mFld 53 1)⟩,
      .base ⟨0, [.fact 25], [⟨.agg [.s, .b], [(0, 0, 26)]⟩], .quiet (mLoad 51)⟩,
      .base ⟨85, [.fact 23, .fact 26], [⟨.agg [.s, .b], [(0, 0, 27)]⟩], false⟩,
      .base ⟨0, [.fact 0, .fact 22], [⟨.one (.p), [(0, 0, 28)]⟩], .quiet (mIdx 30)⟩,
      .base ⟨0, [.fact 28], [⟨.one (.p), [(0, 0, 29)]⟩], .quiet (mFld 53 1)⟩,
      .base ⟨0, [.fact 29], [⟨.agg [.s, .b], [(0, 0, 30)]⟩], .quiet (mLoad 51)⟩,
      .base ⟨30, [.fact 23, .fact 30], [⟨.agg [.s, .b], [(0, 0, 31)]⟩], false⟩,
      .base ⟨77, [.fact 27, .fact 31], [⟨.agg [.s, .b], [(0, 0, 32)]⟩], false⟩,
      .base ⟨0, [.fact 22, .lit (.ci .i64 1)], [⟨.one (.i), [(0, 0, 33)]⟩], .quiet (mBin .add)⟩]
def o_xprq_p_1 : List Step := [.base ⟨0, [.fact 22, .fact 3], [⟨.one (.lit (.cb false)), []⟩], .quiet (mBin .lss)⟩]
def ss_xprq_p : List Step := [.base ⟨0, [.fact 0], [⟨.one (.i), [(0, 0, 1)]⟩], .quiet (mLen 30)⟩,
      .base ⟨0, [.fact 1, .lit (.ci .i64 0)], [⟨.one (.lit (.cb false)), []⟩], .quiet (mBin .eql)⟩,
      .base ⟨28, [.lit (.ci .i64 1)], [⟨.agg [.s, .b], [(0, 0, 2)]⟩], false⟩,
      .base ⟨0, [.fact 0], [⟨.one (.i), [(0, 0, 3)]⟩], .quiet (mLen 30)⟩,
      .loop d_xprq_p_1 [(r_xprq_p_1_0, [.from 33, .from 32])] o_xprq_p_1,
      .base ⟨0, [.fact 0], [⟨.one (.i), [(0, 0, 5)]⟩], .quiet (mLen 30)⟩,
      .loop d_xprq_p_2 [(r_xprq_p_2_0, [.from 33, .from 32])] o_xprq_p_2,
      .base ⟨26, [.fact 6, .fact 4], [⟨.agg [.s, .b, .s, .b], [(0, 0, 7), (0, 2, 8), (2, 2, 9)]⟩], false⟩,
      .base ⟨0, [.fact 0], [⟨.one (.i), [(0, 0, 10)]⟩], .quiet (mLen 30)⟩,
      .base ⟨0, [.fact 10, .lit (.ci .i64 1)], [⟨.one (.i), [(0, 0, 11)]⟩], .quiet (mBin .sub)⟩,
      .base ⟨0, [.fact 0, .fact 11], [⟨.one (.p), [(0, 0, 12)]⟩], .quiet (mIdx 30)⟩,
      .base ⟨0, [.fact 12], [⟨.one (.p), [(0, 0, 13)]⟩], .quiet (mFld 53 0)⟩,
      .base ⟨0, [.fact 13], [⟨.one (.p), [(0, 0, 14)]⟩], .quiet (mFld 51 1)⟩,
      .base ⟨0, [.fact 14], [⟨.one (.lit (.cb false)), []⟩], .quiet (mLoad 4)⟩,
      .base ⟨88, [.lit (.ci .i64 1), .lit (.ci .i64 1)], [⟨.agg [.s, .b, .s, .b], [(0, 0, 15), (0, 2, 16), (2, 2, 17)]⟩], false⟩,
      .base ⟨87, [.fact 15, .fact 7], [⟨.agg [.s, .b, .s, .b], [(0, 0, 18), (0, 2, 19), (2, 2, 20)]⟩], false⟩,
      .base ⟨25, [.fact 0, .fact 18], [⟨.one (.s), [(0, 0, 21)]⟩], false⟩]
def ins_xprq_p : List Out := [⟨.one (.s), [(0, 0, 0)]⟩]
set_option maxRecDepth 100000 in
theorem xprq_p {q : Nat → Rat} {dL wz : Nat → Int} {n k kd kg K N : Nat} {t u : Rat} (hn0 : 0 < n) (hn : n ≤ 1000000) (hk : k ≤ 1000) (hkd : kd ≤ 1000) (hkg : kg ≤ 1000) (hK : K ≤ 400000) (hs : decide ((q (n - 1)).num < 0) = false) (hd0 : 1 = dL 0) (hd0B : Bd (dL 0).natAbs kd) (hdL : ∀ j, j < n → (Int.gcd (dL j) ((q j).den : Int) : Int) ≠ 0 ∧ (Int.gcd (dL j) ((q j).den : Int) : Int) ∣ dL j * ((q j).den : Int) ∧ dL j * ((q j).den : Int) / (Int.gcd (dL j) ((q j).den : Int) : Int) = dL (j + 1) ∧ Bd (dL (j + 1)).natAbs kd) (hw : ∀ i, i < n → ((q i).den : Int) ∣ (q i).num * dL n ∧ (q i).num * dL n / ((q i).den : Int) = wz i) (hg : ∀ i, i ≤ n → Bd (gcdZ wz i : Int).natAbs kg) (ht : (qOf (gcdZ wz n : Int) (dL n)) = t) (ht0 : t ≠ 0) (hu : qOf 1 1 / t = u) (hB : ∀ i, i < n → Bd (q i * u).num.natAbs K ∧ Bd (q i * u).den K) (hN : tl (fun i => (q i * u).num) n = N) : SiteOk (ph (b_xprq_p q dL wz n k kd kg K N t u)) Tryz.prog ⟨32, [.fact 0], [⟨.agg [.s, .b, .s, .b], [(0, 0, 7), (0, 2, 8), (2, 2, 9)]⟩, ⟨.one (.s), [(0, 0, 21)]⟩], true⟩ := by
  skip
  exact fn_okL ins_xprq_p [⟨.agg [.s, .b, .s, .b], [(0, 0, 7), (0, 2, 8), (2, 2, 9)]⟩, ⟨.one (.s), [(0, 0, 21)]⟩] ss_xprq_p Tryz.func32 (by kernel_rfl)
    (lbase (qLen (sz := 4) (n := n) (F := (fun ι w v => DecQ w v ((q ι)) k)) Tryz.underlying30 (fun _ _ h => Rw.arr h) rfl)
      (lbase (qTestC (op := .eql) (fun _ _ h => h) (ts_run (decide_eq_false (by omega)) (by simp)))
      (lbase (tOf (z := 1) rfl (by decide) (by decide) rfl)
      (lbase (qLen (sz := 4) (n := n) (F := (fun ι w v => DecQ w v ((q ι)) k)) Tryz.underlying30 (fun _ _ h => Rw.arr h) rfl)
      (lloop (counted n (fun j => ph (b_xprq_p q dL wz n k kd kg K N t u ++ l_xprq_p_1 q dL k kd j)) (fun _ => 0) (fun j p hp => ph_app' (show p < (b_xprq_p q dL wz n k kd kg K N t u).length from hp)) ⟨fun _ => rfl, fun _ _ h => DecI.reX (DecI.eqz h hd0) hd0B, trivial⟩ (fun j hj => by
      skip
      exact ⟨(r_xprq_p_1_0, [.from 33, .from 32]), rfl, ⟨fun _ _ h => h, fun _ _ h => DecI.reX h (hdL j hj).2.2.2, trivial⟩, (lbase (qTest (op := .lss) (fun _ _ h => h) (fun _ _ h => h) (ts_run (decide_eq_true (by omega)) (by simp)))
      (lbase (qIdx (i := j) (sz := 4) (n := n) (F := (fun ι w v => DecQ w v ((q ι)) k)) Tryz.underlying30 (by kernel_rfl) (fun _ _ h => Rw.arr h) (fun _ _ h => h) (by omega) rfl)
      (lbase (qFld (off := 2) (len := 2) (sz := 4) (F := fun w v => DecQ w v ((q j)) k) (G := fun w v => DecI w v (((q j)).den : Int) k) (by kernel_rfl) (fun _ _ h => h) (by omega) (fun _ _ h => DecQ.snd' h) rfl)
      (lbase (qLoad (sz := 2) (F := fun w v => DecI w v (((q j)).den : Int) k) (by kernel_rfl) (by kernel_rfl) (fun _ _ h => h) (fun _ _ _ g h => DecI.kp h g) (fun _ _ h => DecI.is h) rfl)
      (lbase (tMul dD dD rfl (by omega) rfl)
      (lbase (qIdx (i := j) (sz := 4) (n := n) (F := (fun ι w v => DecQ w v ((q ι)) k)) Tryz.underlying30 (by kernel_rfl) (fun _ _ h => Rw.arr h) (fun _ _ h => h) (by omega) rfl)
      (lbase (qFld (off := 2) (len := 2) (sz := 4) (F := fun w v => DecQ w v ((q j)) k) (G := fun w v => DecI w v (((q j)).den : Int) k) (by kernel_rfl) (fun _ _ h => h) (by omega) (fun _ _ h => DecQ.snd' h) rfl)
      (lbase (qLoad (sz := 2) (F := fun w v => DecI w v (((q j)).den : Int) k) (by kernel_rfl) (by kernel_rfl) (fun _ _ h => h) (fun _ _ _ g h => DecI.kp h g) (fun _ _ h => DecI.is h) rfl)
      (lbase (tGcd (kd + k) dD dD rfl (by omega) (by omega) (by omega) rfl)
      (lbase (tQuo dD dD rfl (by omega) ((hdL j hj).1) ((hdL j hj).2.1) ((hdL j hj).2.2.1))
      (lbase (qAddK (fun _ _ h => h) (by omega) rfl (by omega) (by omega))
      lnil)))))))))))⟩)
      (lbase (qTest (op := .lss) (fun _ _ h => h) (fun _ _ h => h) (ts_run (decide_eq_false (by omega)) (by simp)))
      lnil)
      (fun q hq w v h => by
        simp only [d_xprq_p_1, List.mem_cons, List.not_mem_nil, or_false] at hq
        rcases hq with rfl
        · exact (fun h => h) h)) (lbase (qLen (sz := 4) (n := n) (F := (fun ι w v => DecQ w v ((q ι)) k)) Tryz.underlying30 (fun _ _ h => Rw.arr h) rfl)
      (lloop (counted n (fun i => ph (b_xprq_p q dL wz n k kd kg K N t u ++ l_xprq_p_2 q dL wz n k kd kg i)) (fun _ => 0) (fun i p hp => ph_app' (show p < (b_xprq_p q dL wz n k kd kg K N t u).length from hp)) ⟨fun _ => rfl, fun w => DecI.zeroX w kg, trivial⟩ (fun i hi => by
      skip
      exact ⟨(r_xprq_p_2_0, [.from 33, .from 32]), rfl, ⟨fun _ _ h => h, fun _ _ h => DecI.reX h (hg (i + 1) (by omega)), trivial⟩, (lbase (qTest (op := .lss) (fun _ _ h => h) (fun _ _ h => h) (ts_run (decide_eq_true (by omega)) (by simp)))
      (lbase (qIdx (i := i) (sz := 4) (n := n) (F := (fun ι w v => DecQ w v ((q ι)) k)) Tryz.underlying30 (by kernel_rfl) (fun _ _ h => Rw.arr h) (fun _ _ h => h) (by omega) rfl)
      (lbase (qFld (off := 0) (len := 2) (sz := 4) (F := fun w v => DecQ w v ((q i)) k) (G := fun w v => DecI w v (((q i)).num) k) (by kernel_rfl) (fun _ _ h => h) (by omega) (fun _ _ h => DecQ.fst' h) rfl)
      (lbase (qLoad (sz := 2) (F := fun w v => DecI w v (((q i)).num) k) (by kernel_rfl) (by kernel_rfl) (fun _ _ h => h) (fun _ _ _ g h => DecI.kp h g) (fun _ _ h => DecI.is h) rfl)
      (lbase (tMul dD dD rfl (by omega) rfl)
      (lbase (qIdx (i := i) (sz := 4) (n := n) (F := (fun ι w v => DecQ w v ((q ι)) k)) Tryz.underlying30 (by kernel_rfl) (fun _ _ h => Rw.arr h) (fun _ _ h => h) (by omega) rfl)
      (lbase (qFld (off := 2) (len := 2) (sz := 4) (F := fun w v => DecQ w v ((q i)) k) (G := fun w v => DecI w v (((q i)).den : Int) k) (by kernel_rfl) (fun _ _ h => h) (by omega) (fun _ _ h => DecQ.snd' h) rfl)
      (lbase (qLoad (sz := 2) (F := fun w v => DecI w v (((q i)).den : Int) k) (by kernel_rfl) (by kernel_rfl) (fun _ _ h => h) (fun _ _ _ g h => DecI.kp h g) (fun _ _ h => DecI.is h) rfl)
      (lbase (tQuo dD dD rfl (by omega) (den_ne' _) ((hw i hi).1) ((hw i hi).2))
      (lbase (tGcd (kg + (k + kd)) dD dD rfl (by omega) (by omega) (by omega) rfl)
      (lbase (qAddK (fun _ _ h => h) (by omega) rfl (by omega) (by omega))
      lnil)))))))))))⟩)
      (lbase (qTest (op := .lss) (fun _ _ h => h) (fun _ _ h => h) (ts_run (decide_eq_false (by omega)) (by simp)))
      lnil)
      (fun q hq w v h => by
        simp only [d_xprq_p_2, List.mem_cons, List.not_mem_nil, or_false] at hq
        rcases hq with rfl
        · exact (fun h => h) h)) (lbase (tMake dD dD rfl rfl rfl (by omega) (ht))
      (lbase (qLen (sz := 4) (n := n) (F := (fun ι w v => DecQ w v ((q ι)) k)) Tryz.underlying30 (fun _ _ h => Rw.arr h) rfl)
      (lbase (qSubK (fun _ _ h => h) (by omega) rfl (by omega) (by omega))
      (lbase (qIdx (i := (n - 1)) (sz := 4) (n := n) (F := (fun ι w v => DecQ w v ((q ι)) k)) Tryz.underlying30 (by kernel_rfl) (fun _ _ h => Rw.arr h) (fun _ _ h => h) (by omega) rfl)
      (lbase (qFld (off := 0) (len := 2) (sz := 4) (F := fun w v => DecQ w v ((q (n - 1))) k) (G := fun w v => DecI w v (((q (n - 1))).num) k) (by kernel_rfl) (fun _ _ h => h) (by omega) (fun _ _ h => DecQ.fst' h) rfl)
      (lbase (qFld (off := 1) (len := 1) (sz := 2) (F := fun w v => DecI w v (((q (n - 1))).num) k) (G := fun _ v => v = .agg #[.bool false]) (by kernel_rfl) (fun _ _ h => h) (by omega) (fun _ _ h => DecI.negX hs h) rfl)
      (lbase (qLoadB (by kernel_rfl) (fun _ _ h => h))
      (lbase (tOfR (z := 1) (y := 1) rfl rfl rfl (by decide) (by decide) (by decide) (by decide) rfl)
      (lbase (tQuoR tS tS rfl rfl rfl (by omega) (ht0) (hu))
      (lbase (sRScaleX (q := (fun i => (q i))) (c := u) (n := n) (K := K) (fun _ _ h => h) tS rfl (by omega) (by omega) (by omega) (by omega) hB hN)
      lnil)))))))))))))))))
    (ins_ok [.fact 0 (.one (.s))] ⟨fun _ _ h => Rw.is (sz := 4) (F := (fun ι w v => DecQ w v ((q ι)) k)) (n := n) h, trivial⟩) (fun _ _ _ h => h)

def b_xprq_n (q : Nat → Rat) (dL wz : Nat → Int) (n k kd kg K N : Nat) (t u : Rat) : List (World → Value → Prop) := [fun w v => Rw 4 (fun ι w v => DecQ w v ((q ι)) k) n w v, fun _ v => v = .int .i64 ((n : Nat) : Int), fun w v => DecI w v (1 : Int) 2, fun _ v => v = .int .i64 ((n : Nat) : Int), fun w v => DecI w v (dL n) kd, fun _ v => v = .int .i64 ((n : Nat) : Int), fun w v => DecI w v (gcdZ wz n : Int) kg, fun w v => DecQ w v (qOf (gcdZ wz n : Int) (dL n)) (kg + kd + 2), fun w v => DecI w v ((qOf (gcdZ wz n : Int) (dL n)).num) (kg + kd + 2), fun w v => DecI w v ((qOf (gcdZ wz n : Int) (dL n)).den : Int) (kg + kd + 2), fun _ v => v = .int .i64 ((n : Nat) : Int), fun _ v => v = .int .i64 (((n - 1) : Nat) : Int), fun w v => Ptr 4 (fun w v => DecQ w v ((q (n - 1))) k) w v, fun w v => Ptr 2 (fun w v => DecI w v (((q (n - 1))).num) k) w v, fun w v => Ptr 1 (fun _ v => v = .agg #[.bool true]) w v, fun w v => DecQ w v t (kg + kd + 2), fun w v => DecI w v t.num (kg + kd + 2), fun w v => DecI w v (t.den : Int) (kg + kd + 2), fun w v => DecQ w v (qOf 1 1) 6, fun w v => DecI w v ((qOf 1 1).num) 6, fun w v => DecI w v ((qOf 1 1).den : Int) 6, fun w v => DecQ w v u (2 * (6 + (kg + kd + 2)) + 2), fun w v => DecI w v u.num (2 * (6 + (kg + kd + 2)) + 2), fun w v => DecI w v (u.den : Int) (2 * (6 + (kg + kd + 2)) + 2), fun w v => Rw 4 (fun ι w v => DecQ w v (((q ι) * u)) K) N w v]
def l_xprq_n_2 (q : Nat → Rat) (dL wz : Nat → Int) (n k kd kg : Nat) (i : Nat) : List (World → Value → Prop) := [fun _ v => v = .int .i64 ((i : Nat) : Int), fun w v => DecI w v (gcdZ wz i : Int) kg, fun w v => Ptr 4 (fun w v => DecQ w v ((q i)) k) w v, fun w v => Ptr 2 (fun w v => DecI w v (((q i)).num) k) w v, fun w v => DecI w v (((q i)).num) k, fun w v => DecI w v ((((q i)).num) * (dL n)) (k + kd), fun w v => Ptr 4 (fun w v => DecQ w v ((q i)) k) w v, fun w v => Ptr 2 (fun w v => DecI w v (((q i)).den : Int) k) w v, fun w v => DecI w v (((q i)).den : Int) k, fun w v => DecI w v (wz i) (k + kd), fun w v => DecI w v (Int.gcd (gcdZ wz i : Int) (wz i) : Int) (kg + (k + kd)), fun _ v => v = .int .i64 (((i + 1) : Nat) : Int)]
def d_xprq_n_2 : LoopD := ⟨[0, 2, 3, 4, 6, 9, 10, 11, 13, 14, 15, 16, 17, 35, 36], [(.slot 37, .i), (.cell 14 0, .s), (.cell 14 1, .b)], [(.one 0, 25), (.agg [1, 2], 26)], [.closed (.one (.ci .i64 0)), .closed (.agg [.nl, .cb false])], 25, [(26, 6)]⟩
def r_xprq_n_2_0 : List Step := [.base ⟨0, [.fact 25, .fact 5], [⟨.one (.lit (.cb true)), []⟩], .quiet (mBin .lss)⟩,
      .base ⟨0, [.fact 0, .fact 25], [⟨.one (.p), [(0, 0, 27)]⟩], .quiet (mIdx 30)⟩,
      .base ⟨0, [.fact 27], [⟨.one (.p), [(0, 0, 28)]⟩], .quiet (mFld 53 0)⟩,
      .base ⟨0, [.fact 28], [⟨.agg [.s, .b], [(0, 0, 29)]⟩], .quiet (mLoad 51)⟩,
      .base ⟨85, [.fact 29, .fact 4], [⟨.agg [.s, .b], [(0, 0, 30)]⟩], false⟩,
      .base ⟨0, [.fact 0, .fact 25], [⟨.one (.p), [(0, 0, 31)]⟩], .quiet (mIdx 30)⟩,
      .base ⟨0, [.fact 31], [⟨.one (.p), [(0, 0, 32)]⟩], .quiet (mFld 53 1)⟩,
      .base ⟨0, [.fact 32], [⟨.agg [.s, .b], [(0, 0, 33)]⟩], .quiet (mLoad 51)⟩,
      .base ⟨77, [.fact 30, .fact 33], [⟨.agg [.s, .b], [(0, 0, 34)]⟩], false⟩,
      .base ⟨30, [.fact 26, .fact 34], [⟨.agg [.s, .b], [(0, 0, 35)]⟩], false⟩,
      .base ⟨0, [.fact 25, .lit (.ci .i64 1)], [⟨.one (.i), [(0, 0, 36)]⟩], .quiet (mBin .add)⟩]
def o_xprq_n_2 : List Step := [.base ⟨0, [.fact 25, .fact 5], [⟨.one (.lit (.cb false)), []⟩], .quiet (mBin .lss)⟩]
def l_xprq_n_1 (q : Nat → Rat) (dL : Nat → Int) (k kd : Nat) (j : Nat) : List (World → Value → Prop) := [fun _ v => v = .int .i64 ((j : Nat) : Int), fun w v => DecI w v (dL j) kd, fun w v => Ptr 4 (fun w v => DecQ w v ((q j)) k) w v, fun w v => Ptr 2 (fun w v => DecI w v (((q j)).den : Int) k) w v, fun w v => DecI w v (((q j)).den : Int) k, fun w v => DecI w v ((dL j) * (((q j)).den : Int)) (kd + k), fun w v => Ptr 4 (fun w v => DecQ w v ((q j)) k) w v, fun w v => Ptr 2 (fun w v => DecI w v (((q j)).den : Int) k) w v, fun w v => DecI w v (((q j)).den : Int) k, fun w v => DecI w v (Int.gcd (dL j) (((q j)).den : Int) : Int) (kd + k), fun w v => DecI w v (dL (j + 1)) (kd + k), fun _ v => v = .int .i64 (((j + 1) : Nat) : Int)]
def d_xprq_n_1 : LoopD := ⟨[0, 2, 3, 4, 9, 10, 11, 13, 14, 15], [(.slot 16, .i), (.cell 7 0, .s), (.cell 7 1, .b)], [(.one 0, 25), (.agg [1, 2], 26)], [.closed (.one (.ci .i64 0)), .from 2], 25, [(26, 4)]⟩
def r_xprq_n_1_0 : List Step := [.base ⟨0, [.fact 25, .fact 3], [⟨.one (.lit (.cb true)), []⟩], .quiet (mBin .lss)⟩,
      .base ⟨0, [.fact 0, .fact 25], [⟨.one (.p), [(0, 0, 27)]⟩], .quiet (mIdx 30)⟩,
      .base ⟨0, [.fact 27], [⟨.one (.p), [(0, 0, 28)]⟩], .quiet (mFld 53 1)⟩,
      .base ⟨0, [.fact 28], [⟨.agg [.s, .b], [(0, 0, 29)]⟩], .quiet (mLoad 51)⟩,
      .base ⟨85, [.fact 26, .fact 29], [⟨.agg [.s, .b], [(0, 0, 30)]⟩], false⟩,
      .base ⟨0, [.fact 0, .fact 25], [⟨.one (.p), [(0, 0, 31)]⟩], .quiet (mIdx 30)⟩,
      .base ⟨0, [.fact 31], [⟨.one (.p), [(0, 0, 32)]⟩], .quiet (mFld 53 1)⟩,
      .base ⟨0, [.fact 32], [⟨.agg [.s, .b], [(0, 0, 33)]⟩], .quiet (mLoad 51)⟩,
      .base ⟨30, [.fact 26, .fact 33], [⟨.agg [.s, .b], [(0, 0, 34)]⟩], false⟩,
      .base ⟨77, [.fact 30, .fact 34], [⟨.agg [.s, .b], [(0, 0, 35)]⟩], false⟩,
      .base ⟨0, [.fact 25, .lit (.ci .i64 1)], [⟨.one (.i), [(0, 0, 36)]⟩], .quiet (mBin .add)⟩]
def o_xprq_n_1 : List Step := [.base ⟨0, [.fact 25, .fact 3], [⟨.one (.lit (.cb false)), []⟩], .quiet (mBin .lss)⟩]
def ss_xprq_n : List Step := [.base ⟨0, [.fact 0], [⟨.one (.i), [(0, 0, 1)]⟩], .quiet (mLen 30)⟩,
      .base ⟨0, [.fact 1, .lit (.ci .i64 0)], [⟨.one (.lit (.cb false)), []⟩], .quiet (mBin .eql)⟩,
      .base ⟨28, [.lit (.ci .i64 1)], [⟨.agg [.s, .b], [(0, 0, 2)]⟩], false⟩,
      .base ⟨0, [.fact 0], [⟨.one (.i), [(0, 0, 3)]⟩], .quiet (mLen 30)⟩,
      .loop d_xprq_n_1 [(r_xprq_n_1_0, [.from 36, .from 35])] o_xprq_n_1,
      .base ⟨0, [.fact 0], [⟨.one (.i), [(0, 0, 5)]⟩], .quiet (mLen 30)⟩,
      .loop d_xprq_n_2 [(r_xprq_n_2_0, [.from 36, .from 35])] o_xprq_n_2,
      .base ⟨26, [.fact 6, .fact 4], [⟨.agg [.s, .b, .s, .b], [(0, 0, 7), (0, 2, 8), (2, 2, 9)]⟩], false⟩,
      .base ⟨0, [.fact 0], [⟨.one (.i), [(0, 0, 10)]⟩], .quiet (mLen 30)⟩,
      .base ⟨0, [.fact 10, .lit (.ci .i64 1)], [⟨.one (.i), [(0, 0, 11)]⟩], .quiet (mBin .sub)⟩,
      .base ⟨0, [.fact 0, .fact 11], [⟨.one (.p), [(0, 0, 12)]⟩], .quiet (mIdx 30)⟩,
      .base ⟨0, [.fact 12], [⟨.one (.p), [(0, 0, 13)]⟩], .quiet (mFld 53 0)⟩,
      .base ⟨0, [.fact 13], [⟨.one (.p), [(0, 0, 14)]⟩], .quiet (mFld 51 1)⟩,
      .base ⟨0, [.fact 14], [⟨.one (.lit (.cb true)), []⟩], .quiet (mLoad 4)⟩,
      .base ⟨86, [.fact 7], [⟨.agg [.s, .b, .s, .b], [(0, 0, 15), (0, 2, 16), (2, 2, 17)]⟩], false⟩,
      .base ⟨88, [.lit (.ci .i64 1), .lit (.ci .i64 1)], [⟨.agg [.s, .b, .s, .b], [(0, 0, 18), (0, 2, 19), (2, 2, 20)]⟩], false⟩,
      .base ⟨87, [.fact 18, .fact 15], [⟨.agg [.s, .b, .s, .b], [(0, 0, 21), (0, 2, 22), (2, 2, 23)]⟩], false⟩,
      .base ⟨25, [.fact 0, .fact 21], [⟨.one (.s), [(0, 0, 24)]⟩], false⟩]
def ins_xprq_n : List Out := [⟨.one (.s), [(0, 0, 0)]⟩]
set_option maxRecDepth 100000 in
theorem xprq_n {q : Nat → Rat} {dL wz : Nat → Int} {n k kd kg K N : Nat} {t u : Rat} (hn0 : 0 < n) (hn : n ≤ 1000000) (hk : k ≤ 1000) (hkd : kd ≤ 1000) (hkg : kg ≤ 1000) (hK : K ≤ 400000) (hs : decide ((q (n - 1)).num < 0) = true) (hd0 : 1 = dL 0) (hd0B : Bd (dL 0).natAbs kd) (hdL : ∀ j, j < n → (Int.gcd (dL j) ((q j).den : Int) : Int) ≠ 0 ∧ (Int.gcd (dL j) ((q j).den : Int) : Int) ∣ dL j * ((q j).den : Int) ∧ dL j * ((q j).den : Int) / (Int.gcd (dL j) ((q j).den : Int) : Int) = dL (j + 1) ∧ Bd (dL (j + 1)).natAbs kd) (hw : ∀ i, i < n → ((q i).den : Int) ∣ (q i).num * dL n ∧ (q i).num * dL n / ((q i).den : Int) = wz i) (hg : ∀ i, i ≤ n → Bd (gcdZ wz i : Int).natAbs kg) (ht : -(qOf (gcdZ wz n : Int) (dL n)) = t) (ht0 : t ≠ 0) (hu : qOf 1 1 / t = u) (hB : ∀ i, i < n → Bd (q i * u).num.natAbs K ∧ Bd (q i * u).den K) (hN : tl (fun i => (q i * u).num) n = N) : SiteOk (ph (b_xprq_n q dL wz n k kd kg K N t u)) Tryz.prog ⟨32, [.fact 0], [⟨.agg [.s, .b, .s, .b], [(0, 0, 15), (0, 2, 16), (2, 2, 17)]⟩, ⟨.one (.s), [(0, 0, 24)]⟩], true⟩ := by
  skip
  exact fn_okL ins_xprq_n [⟨.agg [.s, .b, .s, .b], [(0, 0, 15), (0, 2, 16), (2, 2, 17)]⟩, ⟨.one (.s), [(0, 0, 24)]⟩] ss_xprq_n Tryz.func32 (by kernel_rfl)
    (lbase (qLen (sz := 4) (n := n) (F := (fun ι w v => DecQ w v ((q ι)) k)) Tryz.underlying30 (fun _ _ h => Rw.arr h) rfl)
      (lbase (qTestC (op := .eql) (fun _ _ h => h) (ts_run (decide_eq_false (by omega)) (by simp)))
      (lbase (tOf (z := 1) rfl (by decide) (by decide) rfl)
      (lbase (qLen (sz := 4) (n := n) (F := (fun ι w v => DecQ w v ((q ι)) k)) Tryz.underlying30 (fun _ _ h => Rw.arr h) rfl)
      (lloop (counted n (fun j => ph (b_xprq_n q dL wz n k kd kg K N t u ++ l_xprq_n_1 q dL k kd j)) (fun _ => 0) (fun j p hp => ph_app' (show p < (b_xprq_n q dL wz n k kd kg K N t u).length from hp)) ⟨fun _ => rfl, fun _ _ h => DecI.reX (DecI.eqz h hd0) hd0B, trivial⟩ (fun j hj => by
      skip
      exact ⟨(r_xprq_n_1_0, [.from 36, .from 35]), rfl, ⟨fun _ _ h => h, fun _ _ h => DecI.reX h (hdL j hj).2.2.2, trivial⟩, (lbase (qTest (op := .lss) (fun _ _ h => h) (fun _ _ h => h) (ts_run (decide_eq_true (by omega)) (by simp)))
      (lbase (qIdx (i := j) (sz := 4) (n := n) (F := (fun ι w v => DecQ w v ((q ι)) k)) Tryz.underlying30 (by kernel_rfl) (fun _ _ h => Rw.arr h) (fun _ _ h => h) (by omega) rfl)
      (lbase (qFld (off := 2) (len := 2) (sz := 4) (F := fun w v => DecQ w v ((q j)) k) (G := fun w v => DecI w v (((q j)).den : Int) k) (by kernel_rfl) (fun _ _ h => h) (by omega) (fun _ _ h => DecQ.snd' h) rfl)
      (lbase (qLoad (sz := 2) (F := fun w v => DecI w v (((q j)).den : Int) k) (by kernel_rfl) (by kernel_rfl) (fun _ _ h => h) (fun _ _ _ g h => DecI.kp h g) (fun _ _ h => DecI.is h) rfl)
      (lbase (tMul dD dD rfl (by omega) rfl)
      (lbase (qIdx (i := j) (sz := 4) (n := n) (F := (fun ι w v => DecQ w v ((q ι)) k)) Tryz.underlying30 (by kernel_rfl) (fun _ _ h => Rw.arr h) (fun _ _ h => h) (by omega) rfl)
      (lbase (qFld (off := 2) (len := 2) (sz := 4) (F := fun w v => DecQ w v ((q j)) k) (G := fun w v => DecI w v (((q j)).den : Int) k) (by kernel_rfl) (fun _ _ h => h) (by omega) (fun _ _ h => DecQ.snd' h) rfl)
      (lbase (qLoad (sz := 2) (F := fun w v => DecI w v (((q j)).den : Int) k) (by kernel_rfl) (by kernel_rfl) (fun _ _ h => h) (fun _ _ _ g h => DecI.kp h g) (fun _ _ h => DecI.is h) rfl)
      (lbase (tGcd (kd + k) dD dD rfl (by omega) (by omega) (by omega) rfl)
      (lbase (tQuo dD dD rfl (by omega) ((hdL j hj).1) ((hdL j hj).2.1) ((hdL j hj).2.2.1))
      (lbase (qAddK (fun _ _ h => h) (by omega) rfl (by omega) (by omega))
      lnil)))))))))))⟩)
      (lbase (qTest (op := .lss) (fun _ _ h => h) (fun _ _ h => h) (ts_run (decide_eq_false (by omega)) (by simp)))
      lnil)
      (fun q hq w v h => by
        simp only [d_xprq_n_1, List.mem_cons, List.not_mem_nil, or_false] at hq
        rcases hq with rfl
        · exact (fun h => h) h)) (lbase (qLen (sz := 4) (n := n) (F := (fun ι w v => DecQ w v ((q ι)) k)) Tryz.underlying30 (fun _ _ h => Rw.arr h) rfl)
      (lloop (counted n (fun i => ph (b_xprq_n q dL wz n k kd kg K N t u ++ l_xprq_n_2 q dL wz n k kd kg i)) (fun _ => 0) (fun i p hp => ph_app' (show p < (b_xprq_n q dL wz n k kd kg K N t u).length from hp)) ⟨fun _ => rfl, fun w => DecI.zeroX w kg, trivial⟩ (fun i hi => by
      skip
      exact ⟨(r_xprq_n_2_0, [.from 36, .from 35]), rfl, ⟨fun _ _ h => h, fun _ _ h => DecI.reX h (hg (i + 1) (by omega)), trivial⟩, (lbase (qTest (op := .lss) (fun _ _ h => h) (fun _ _ h => h) (ts_run (decide_eq_true (by omega)) (by simp)))
      (lbase (qIdx (i := i) (sz := 4) (n := n) (F := (fun ι w v => DecQ w v ((q ι)) k)) Tryz.underlying30 (by kernel_rfl) (fun _ _ h => Rw.arr h) (fun _ _ h => h) (by omega) rfl)
      (lbase (qFld (off := 0) (len := 2) (sz := 4) (F := fun w v => DecQ w v ((q i)) k) (G := fun w v => DecI w v (((q i)).num) k) (by kernel_rfl) (fun _ _ h => h) (by omega) (fun _ _ h => DecQ.fst' h) rfl)
      (lbase (qLoad (sz := 2) (F := fun w v => DecI w v (((q i)).num) k) (by kernel_rfl) (by kernel_rfl) (fun _ _ h => h) (fun _ _ _ g h => DecI.kp h g) (fun _ _ h => DecI.is h) rfl)
      (lbase (tMul dD dD rfl (by omega) rfl)
      (lbase (qIdx (i := i) (sz := 4) (n := n) (F := (fun ι w v => DecQ w v ((q ι)) k)) Tryz.underlying30 (by kernel_rfl) (fun _ _ h => Rw.arr h) (fun _ _ h => h) (by omega) rfl)
      (lbase (qFld (off := 2) (len := 2) (sz := 4) (F := fun w v => DecQ w v ((q i)) k) (G := fun w v => DecI w v (((q i)).den : Int) k) (by kernel_rfl) (fun _ _ h => h) (by omega) (fun _ _ h => DecQ.snd' h) rfl)
      (lbase (qLoad (sz := 2) (F := fun w v => DecI w v (((q i)).den : Int) k) (by kernel_rfl) (by kernel_rfl) (fun _ _ h => h) (fun _ _ _ g h => DecI.kp h g) (fun _ _ h => DecI.is h) rfl)
      (lbase (tQuo dD dD rfl (by omega) (den_ne' _) ((hw i hi).1) ((hw i hi).2))
      (lbase (tGcd (kg + (k + kd)) dD dD rfl (by omega) (by omega) (by omega) rfl)
      (lbase (qAddK (fun _ _ h => h) (by omega) rfl (by omega) (by omega))
      lnil)))))))))))⟩)
      (lbase (qTest (op := .lss) (fun _ _ h => h) (fun _ _ h => h) (ts_run (decide_eq_false (by omega)) (by simp)))
      lnil)
      (fun q hq w v h => by
        simp only [d_xprq_n_2, List.mem_cons, List.not_mem_nil, or_false] at hq
        rcases hq with rfl
        · exact (fun h => h) h)) (lbase (tMake dD dD rfl rfl rfl (by omega) (rfl))
      (lbase (qLen (sz := 4) (n := n) (F := (fun ι w v => DecQ w v ((q ι)) k)) Tryz.underlying30 (fun _ _ h => Rw.arr h) rfl)
      (lbase (qSubK (fun _ _ h => h) (by omega) rfl (by omega) (by omega))
      (lbase (qIdx (i := (n - 1)) (sz := 4) (n := n) (F := (fun ι w v => DecQ w v ((q ι)) k)) Tryz.underlying30 (by kernel_rfl) (fun _ _ h => Rw.arr h) (fun _ _ h => h) (by omega) rfl)
      (lbase (qFld (off := 0) (len := 2) (sz := 4) (F := fun w v => DecQ w v ((q (n - 1))) k) (G := fun w v => DecI w v (((q (n - 1))).num) k) (by kernel_rfl) (fun _ _ h => h) (by omega) (fun _ _ h => DecQ.fst' h) rfl)
      (lbase (qFld (off := 1) (len := 1) (sz := 2) (F := fun w v => DecI w v (((q (n - 1))).num) k) (G := fun _ v => v = .agg #[.bool true]) (by kernel_rfl) (fun _ _ h => h) (by omega) (fun _ _ h => DecI.negX hs h) rfl)
      (lbase (qLoadB (by kernel_rfl) (fun _ _ h => h))
      (lbase (tNegR tS rfl rfl rfl (ht))
      (lbase (tOfR (z := 1) (y := 1) rfl rfl rfl (by decide) (by decide) (by decide) (by decide) rfl)
      (lbase (tQuoR tS tS rfl rfl rfl (by omega) (ht0) (hu))
      (lbase (sRScaleX (q := (fun i => (q i))) (c := u) (n := n) (K := K) (fun _ _ h => h) tS rfl (by omega) (by omega) (by omega) (by omega) hB hN)
      lnil))))))))))))))))))
    (ins_ok [.fact 0 (.one (.s))] ⟨fun _ _ h => Rw.is (sz := 4) (F := (fun ι w v => DecQ w v ((q ι)) k)) (n := n) h, trivial⟩) (fun _ _ _ h => h)

/-- The least common multiple of the denominators. -/
def dnL (q : Nat → Rat) : Nat → Nat
  | 0 => 1
  | j + 1 => Nat.lcm (dnL q j) (q j).den
theorem dnL_pos (q : Nat → Rat) : ∀ n, 0 < dnL q n
  | 0 => Nat.one_pos
  | n + 1 => Nat.lcm_pos (dnL_pos q n) (q n).den_pos
theorem dnL_dvd {q : Nat → Rat} {C : Nat} : ∀ {n}, (∀ i, i < n → (q i).den ∣ C) → dnL q n ∣ C
  | 0, _ => Nat.one_dvd C
  | n + 1, h => Nat.lcm_dvd (dnL_dvd fun i hi => h i (by omega)) (h n (by omega))
theorem dnL_den {q : Nat → Rat} : ∀ {n i}, i < n → (q i).den ∣ dnL q n
  | n + 1, i, hi => by
    rcases Nat.lt_or_ge i n with h | h
    · exact Nat.dvd_trans (dnL_den h) (Nat.dvd_lcm_left _ _)
    · rw [show i = n by omega]; exact Nat.dvd_lcm_right _ _
theorem den_dvd {q : Rat} {u v : Int} (hv : v ≠ 0) (h : q * ((v : Int) : Rat) = ((u : Int) : Rat)) : q.den ∣ v.natAbs := by
  have hv2 : ((v : Int) : Rat) ≠ 0 := fun e => hv (by exact_mod_cast e)
  have e : q = Rat.divInt u v := by
    rw [Rat.divInt_eq_div, ← h, Rat.div_def, Rat.mul_assoc, Rat.mul_inv_cancel _ hv2, Rat.mul_one]
  rw [e, Rat.den_divInt, if_neg hv]
  exact Nat.div_dvd_of_dvd (Nat.gcd_dvd_left _ _)
theorem gcdZ_mulZ (z : Nat → Int) (a : Int) : ∀ n, gcdZ (fun i => z i * a) n = gcdZ z n * a.natAbs
  | 0 => (Nat.zero_mul _).symm
  | n + 1 => by rw [gcdZ, gcdZ, gcdZ_mulZ z a n, Int.natAbs_mul, Nat.gcd_mul_right]
theorem sgn_same {a b c d : Int} (h : a * c = b * d) (hc : 0 < c) (hd : 0 < d) : a < 0 ↔ b < 0 := by
  constructor
  · intro ha
    rcases Int.lt_or_le b 0 with hb | hb
    · exact hb
    · have h1 := Int.mul_neg_of_neg_of_pos ha hc
      have h2 := Int.mul_nonneg hb (Int.le_of_lt hd)
      omega
  · intro hb
    rcases Int.lt_or_le a 0 with ha | ha
    · exact ha
    · have h1 := Int.mul_neg_of_neg_of_pos hb hd
      have h2 := Int.mul_nonneg ha (Int.le_of_lt hc)
      omega
theorem num_den (q : Rat) : q * ((q.den : Int) : Rat) = ((q.num : Int) : Rat) := by
  have h : (((q.den : Int)) : Rat) ≠ 0 := fun e => den_ne' q (by exact_mod_cast e)
  conv => lhs; lhs; rw [← Rat.num_divInt_den q]
  rw [Rat.divInt_eq_div, Rat.div_mul_cancel h]
theorem primQ_val {q t : Rat} {D E g r s C G R : Int} (hCE : C = D * E) (hG : G = g * E) (hE : E ≠ 0) (hD : D ≠ 0) (hq : q * ((C : Int) : Rat) = ((R : Int) : Rat)) (hr : R = r * G) (ht : t * ((D : Int) : Rat) = ((s * g : Int) : Rat)) (hs : s * s = 1) (ht0 : t ≠ 0) : q * (1 / t) = ((s * r : Int) : Rat) := by
  have cz : ∀ {x : Int}, x ≠ 0 → ((x : Int) : Rat) ≠ 0 := fun h e => h (by exact_mod_cast e)
  have h1 := Rat.mul_inv_cancel _ (cz hE)
  have h2 := Rat.mul_inv_cancel _ (cz hD)
  have h3 := Rat.mul_inv_cancel _ ht0
  have hs' : ((s : Int) : Rat) * ((s : Int) : Rat) = 1 := by rw [← Rat.intCast_mul, hs]; rfl
  rw [hr, hG, hCE, Rat.intCast_mul, Rat.intCast_mul, Rat.intCast_mul] at hq
  rw [Rat.intCast_mul] at ht
  rw [Rat.div_def, Rat.one_mul, Rat.intCast_mul]
  have h4 : q * ((D : Int) : Rat) = ((r : Int) : Rat) * ((g : Int) : Rat) := by
    have h5 := congrArg (fun x => x * ((E : Int) : Rat)⁻¹) hq
    grind
  have h6 : q = ((s : Int) : Rat) * ((r : Int) : Rat) * t := by grind
  rw [h6, Rat.mul_assoc, h3, Rat.mul_one]
theorem outC {w : World} {u : Value} {t : Rat} {k : Nat} {b : Bool} (h : DecQ w u t k) (hb : decide (t.num < 0) = b) : (CSh.agg [.s, .lit (.cb b), .s, .b]).is u := by
  obtain ⟨p, n, c, b1, p', n', c', b2, rfl, h1, h2⟩ := h
  have e : b1 = b := h1.flag.1.trans hb
  subst e
  exact ⟨_, rfl, ⟨_, _, _, rfl⟩, rfl, ⟨_, _, _, rfl⟩, ⟨_, rfl⟩, trivial⟩
section
variable {Φ : Nat → World → Value → Prop} {p y n k K kr kc : Nat} {q : Nat → Rat} {R : Nat → Int} {C : Int} {PL : List Int} {b : Bool}
theorem sPrimQ0 (hp : ∀ w v, Φ p w v → Rw 4 (fun i w v => DecQ w v (q i) k) n w v) (hn0 : n = 0) : SiteOk Φ Tryz.prog ⟨32, [.fact p], [⟨.agg [.s, .lit (.cb false), .s, .b], []⟩, ⟨.one (.lit .nl), []⟩], true⟩ := by
  subst hn0
  intro X w vs hX ha
  refine ((xprim_0 (z := fun _ => 0) (n := 0) (k := k) rfl) X w vs hX (argMap.ok (Φ := Φ) (l := [.fact p]) (m := [.fact 0]) ⟨fun w v h => show Rw 4 (fun i w v => DecQ w v (((fun _ => (0 : Int)) i : Int) : Rat) k) 0 w v from Rw.to (hp w v h) fun i _ _ hi _ => absurd hi (by omega), trivial⟩ ha)).mono fun e w' ⟨hg, us, he, h2⟩ => ⟨hg, us, he, ?_⟩
  match us, h2 with
  | [u0, u], h2 =>
    have h3 : DecQ w' u0 (qOf 0 1) 6 := h2.1.2 _ (List.mem_cons_self ..) w' (Off.refl _ _)
    exact ⟨⟨outC h3 (by decide +kernel), fun _ h => by cases h⟩, ⟨h2.2.1.1, fun _ h => by cases h⟩, trivial⟩
theorem sPrimQ (hp : ∀ w v, Φ p w v → Rw 4 (fun i w v => DecQ w v (q i) k) n w v) (hy : Φ y = fun w v => Rw 4 (fun i w v => DecQ w v ((coef PL i : Int) : Rat) K) PL.length w v) (hn0 : 0 < n) (hn : n ≤ 1000) (hk : k ≤ 1000) (hkr : kr ≤ 1000) (hkc : kc ≤ 1000) (hK : K ≤ 8000) (hkK : kr ≤ K ∧ 1 ≤ K)
    (hC : 0 < C) (hR : ∀ i, i < n → q i * ((C : Int) : Rat) = ((R i : Int) : Rat)) (hbR : ∀ i, i < n → Bd (R i).natAbs kr) (hbC : Bd C.natAbs kc) (hr0 : R (n - 1) ≠ 0) (hb : decide (R (n - 1) < 0) = b) (hPL : mk n (fun i => (if b then -1 else 1) * (R i / (gcdZ R n : Int))) = PL) :
    SiteOk Φ Tryz.prog ⟨32, [.fact p], [⟨.agg [.s, .lit (.cb b), .s, .b], []⟩, ⟨.one .s, [(0, 0, y)]⟩], true⟩ := by
  have cz : ∀ {x : Int}, x ≠ 0 → ((x : Int) : Rat) ≠ 0 := fun h e => h (by exact_mod_cast e)
  have hC0 : C ≠ 0 := by omega
  have hdv : ∀ i, i < n → (q i).den ∣ C.natAbs := fun i hi => den_dvd hC0 (hR i hi)
  have hdl : ∀ j, j ≤ n → dnL q j ∣ C.natAbs := fun j hj => dnL_dvd fun i hi => hdv i (by omega)
  have hCp : 0 < C.natAbs := by omega
  obtain ⟨E, hE⟩ := hdl n (Nat.le_refl _)
  have hDp := dnL_pos q n
  have hE0 : 0 < E := by
    rcases Nat.eq_zero_or_pos E with h | h
    · rw [h, Nat.mul_zero] at hE; omega
    · exact h
  have hCE : C = (dnL q n : Int) * (E : Int) := by
    rw [← Int.natCast_mul, ← hE]; omega
  obtain ⟨wz, hwz⟩ : ∃ wz : Nat → Int, ∀ i, (q i).num * (dnL q n : Int) / ((q i).den : Int) = wz i := ⟨_, fun _ => rfl⟩
  have hwd : ∀ i, i < n → ((q i).den : Int) ∣ (q i).num * (dnL q n : Int) := fun i hi => Int.dvd_trans (Int.natCast_dvd_natCast.2 (dnL_den hi)) (Int.dvd_mul_left _ _)
  have hwE : ∀ i, i < n → wz i * (E : Int) = R i := fun i hi => by
    have h1 := Int.ediv_mul_cancel (hwd i hi)
    rw [hwz] at h1
    have h2 := num_den (q i)
    have h3 := hR i hi
    have h4 := cz (den_ne' (q i))
    have h5 : ((wz i : Int) : Rat) * (((q i).den : Int) : Rat) = q i * (((q i).den : Int) : Rat) * ((dnL q n : Int) : Rat) := by
      rw [h2, ← Rat.intCast_mul, ← Rat.intCast_mul, h1]
    have h6 := Rat.mul_inv_cancel _ h4
    have h7 : ((wz i : Int) : Rat) = q i * ((dnL q n : Int) : Rat) := by
      have h8 := congrArg (fun x => x * (((q i).den : Int) : Rat)⁻¹) h5
      grind
    have h9 : ((wz i * (E : Int) : Int) : Rat) = ((R i : Int) : Rat) := by
      rw [Rat.intCast_mul, h7, ← h3, hCE, Rat.intCast_mul, Rat.mul_assoc]
    exact_mod_cast h9
  have hG : (gcdZ R n : Int) = (gcdZ wz n : Int) * (E : Int) := by
    have h1 := gcdZ_mulZ wz (E : Int) n
    rw [gcdZ_congr (g := R) fun i hi => hwE i hi, Int.natAbs_natCast] at h1
    rw [h1, Int.natCast_mul]
  have hwle : ∀ i, i < n → (wz i).natAbs ≤ (R i).natAbs := fun i hi => by
    rw [← hwE i hi, Int.natAbs_mul, Int.natAbs_natCast]
    exact Nat.le_mul_of_pos_right _ hE0
  have hRtl : tl R n = n := tl_self fun _ => hr0
  have hGne : (gcdZ R n : Int) ≠ 0 := gcdZ_ne (by omega)
  have hgne : (gcdZ wz n : Int) ≠ 0 := fun e => hGne (by rw [hG, e, Int.zero_mul])
  have hRr : ∀ i, i < n → R i = R i / (gcdZ R n : Int) * (gcdZ R n : Int) := fun i hi => (Int.ediv_mul_cancel (gcdZ_dvd i hi)).symm
  obtain ⟨s, hsb⟩ : ∃ s : Int, (if b then -1 else 1) = s := ⟨_, rfl⟩
  have hss : s * s = 1 := by rw [← hsb]; cases b <;> rfl
  have hDz : (dnL q n : Int) ≠ 0 := by omega
  have hEz : (E : Int) ≠ 0 := by omega
  obtain ⟨t, ht⟩ : ∃ t : Rat, (if b then -(qOf (gcdZ wz n : Int) (dnL q n : Int)) else qOf (gcdZ wz n : Int) (dnL q n : Int)) = t := ⟨_, rfl⟩
  have htD : t * ((dnL q n : Int) : Rat) = ((s * (gcdZ wz n : Int) : Int) : Rat) := by
    have h1 : qOf (gcdZ wz n : Int) (dnL q n : Int) * ((dnL q n : Int) : Rat) = ((gcdZ wz n : Int) : Rat) := by rw [qOf_ne hDz, Rat.divInt_eq_div, Rat.div_mul_cancel (cz hDz)]
    rw [← ht, ← hsb]
    cases b
    · rw [if_neg (by decide), if_neg (by decide), h1, Int.one_mul]
    · rw [if_pos rfl, if_pos rfl, Rat.neg_mul, h1, ← Rat.intCast_neg, Int.neg_mul, Int.one_mul]
  have ht0 : t ≠ 0 := fun e => by
    rw [e, Rat.zero_mul] at htD
    have h1 : s * (gcdZ wz n : Int) = 0 := by exact_mod_cast htD.symm
    rcases Int.mul_eq_zero.1 h1 with h | h
    · rw [h] at hss; exact absurd hss (by decide)
    · exact hgne h
  have hval : ∀ i, i < n → q i * (qOf 1 1 / t) = ((s * (R i / (gcdZ R n : Int)) : Int) : Rat) := fun i hi => by
    rw [show qOf 1 1 = (1 : Rat) from qOf_int 1]
    exact primQ_val hCE hG hEz hDz (hR i hi) (hRr i hi) htD hss ht0
  have hsa : s.natAbs = 1 := by rw [← hsb]; cases b <;> rfl
  have hB' : ∀ i, i < n → Bd (q i * (qOf 1 1 / t)).num.natAbs K ∧ Bd (q i * (qOf 1 1 / t)).den K := fun i hi => by
    rw [hval i hi]
    refine ⟨?_, one_ltX hkK.2⟩
    show Bd (s * (R i / (gcdZ R n : Int))).natAbs K
    rw [Int.natAbs_mul, hsa, Nat.one_mul]
    exact (((hbR i hi).le (Int.natAbs_ediv_le_natAbs ..))).more hkK.1
  have hPLl : PL.length = n := by rw [← hPL, mk_length]
  have hcf : ∀ i, i < n → coef PL i = s * (R i / (gcdZ R n : Int)) := fun i hi => by rw [← hPL, coef_mk, if_pos hi, hsb]
  have hN : tl (fun i => (q i * (qOf 1 1 / t)).num) n = n := tl_self fun _ => by
    show (q (n - 1) * (qOf 1 1 / t)).num ≠ 0
    rw [hval _ (by omega)]
    intro h
    have h : s * (R (n - 1) / (gcdZ R n : Int)) = 0 := h
    have h1 := hRr (n - 1) (by omega)
    rcases Int.mul_eq_zero.1 h with h2 | h2
    · rw [h2] at hss; exact absurd hss (by decide)
    · rw [h2, Int.zero_mul] at h1; exact hr0 h1
  have hsg : decide ((q (n - 1)).num < 0) = b := by
    rw [← hb]
    have h1 := hR (n - 1) (by omega)
    have h2 := num_den (q (n - 1))
    have h3 : (q (n - 1)).num * C = R (n - 1) * ((q (n - 1)).den : Int) := by
      have h4 : (((q (n - 1)).num * C : Int) : Rat) = ((R (n - 1) * ((q (n - 1)).den : Int) : Int) : Rat) := by
        rw [Rat.intCast_mul, Rat.intCast_mul, ← h1, ← h2]; grind
      exact_mod_cast h4
    exact decide_eq_decide.2 (sgn_same h3 hC (by have := (q (n - 1)).den_pos; omega))
  have hdB : ∀ j, j ≤ n → Bd ((dnL q j : Int)).natAbs kc := fun j hj => by
    rw [Int.natAbs_natCast]; exact hbC.le (Nat.le_of_dvd hCp (hdl j hj))
  have hdL : ∀ j, j < n → (Int.gcd (dnL q j : Int) ((q j).den : Int) : Int) ≠ 0 ∧ (Int.gcd (dnL q j : Int) ((q j).den : Int) : Int) ∣ (dnL q j : Int) * ((q j).den : Int) ∧ (dnL q j : Int) * ((q j).den : Int) / (Int.gcd (dnL q j : Int) ((q j).den : Int) : Int) = (dnL q (j + 1) : Int) ∧ Bd ((dnL q (j + 1) : Int)).natAbs kc := fun j hj => by
    rw [show (Int.gcd (dnL q j : Int) ((q j).den : Int)) = Nat.gcd (dnL q j) (q j).den from rfl, ← Int.natCast_mul, ← Int.natCast_ediv]
    refine ⟨?_, Int.natCast_dvd_natCast.2 (Nat.dvd_trans (Nat.gcd_dvd_left _ _) (Nat.dvd_mul_right _ _)), rfl, hdB _ (by omega)⟩
    have := Nat.gcd_pos_of_pos_left (q j).den (dnL_pos q j)
    omega
  have hg : ∀ i, i ≤ n → Bd ((gcdZ wz i : Int)).natAbs kr := fun i hi => by
    rw [Int.natAbs_natCast]
    exact bd_gcdZ (Nat.pow_pos (by omega)) fun j hj => (hbR j (by omega)).le (hwle j (by omega))
  intro X w vs hX ha
  have hfin : ∀ {e : Ending} {w' : World} {a0 a1 a2 y' : Nat} {Ψ : Nat → World → Value → Prop} {kk : Nat}, (Ψ a0 = fun w v => DecQ w v t kk) → (Ψ y' = fun w v => Rw 4 (fun i w v => DecQ w v (q i * (qOf 1 1 / t)) K) n w v) → post Ψ X [⟨.agg [.s, .b, .s, .b], [(0, 0, a0), (0, 2, a1), (2, 2, a2)]⟩, ⟨.one .s, [(0, 0, y')]⟩] true w e w' → post Φ X [⟨.agg [.s, .lit (.cb b), .s, .b], []⟩, ⟨.one .s, [(0, 0, y)]⟩] true w e w' := by
    intro e w' a0 a1 a2 y' Ψ kk hq0 hq1 ⟨hg', us, he, h2⟩
    refine ⟨hg', us, he, ?_⟩
    match us, h2 with
    | [u0, u], h2 =>
      have h3 : Ψ a0 w' u0 := h2.1.2 (0, 0, a0) (List.mem_cons_self ..) w' (Off.refl _ _)
      rw [hq0] at h3
      have hts : decide (t.num < 0) = b := by
        have h4 := num_den t
        have h5 : t.num * (dnL q n : Int) = (s * (gcdZ wz n : Int)) * (t.den : Int) := by
          have h6 : ((t.num * (dnL q n : Int) : Int) : Rat) = (((s * (gcdZ wz n : Int)) * (t.den : Int) : Int) : Rat) := by
            rw [Rat.intCast_mul, Rat.intCast_mul _ (t.den : Int), ← htD, ← h4]; grind
          exact_mod_cast h6
        have h7 := sgn_same h5 (by omega) (by have := t.den_pos; omega)
        cases b
        · refine decide_eq_false fun h => ?_
          have := h7.1 h
          rw [← hsb, if_neg (by decide)] at this; omega
        · refine decide_eq_true (h7.2 ?_)
          rw [← hsb, if_pos rfl]; omega
      refine ⟨⟨outC h3 hts, fun _ h => by cases h⟩, ⟨h2.2.1.1, fun r hr w1 hw => ?_⟩, trivial⟩
      simp only [List.mem_singleton] at hr
      subst hr
      have h8 : Ψ y' w1 u := h2.2.1.2 (0, 0, y') (List.mem_singleton.2 rfl) w1 hw
      rw [hq1] at h8
      show Φ y w1 u
      rw [hy, hPLl]
      exact Rw.to h8 fun i w v hi h => DecQ.eq h (by rw [hval i hi, hcf i hi])
  have hd0B : Bd (Int.natAbs ((dnL q 0 : Nat) : Int)) kc := hdB 0 (by omega)
  cases b
  · rw [if_neg (by decide)] at ht
    exact ((xprq_p (q := q) (dL := fun j => (dnL q j : Int)) (wz := wz) (n := n) (k := k) (kd := kc) (kg := kr) (K := K) (N := n) (t := t) (u := qOf 1 1 / t) hn0 (by omega) hk hkc hkr (by omega) hsg rfl hd0B hdL (fun i hi => ⟨hwd i hi, hwz i⟩) hg ht ht0 rfl hB' hN) X w vs hX (argMap.ok (Φ := Φ) (l := [.fact p]) (m := [.fact 0]) ⟨hp, trivial⟩ ha)).mono fun e w' h => hfin rfl rfl h
  · rw [if_pos rfl] at ht
    exact ((xprq_n (q := q) (dL := fun j => (dnL q j : Int)) (wz := wz) (n := n) (k := k) (kd := kc) (kg := kr) (K := K) (N := n) (t := t) (u := qOf 1 1 / t) hn0 (by omega) hk hkc hkr (by omega) hsg rfl hd0B hdL (fun i hi => ⟨hwd i hi, hwz i⟩) hg ht ht0 rfl hB' hN) X w vs hX (argMap.ok (Φ := Φ) (l := [.fact p]) (m := [.fact 0]) ⟨hp, trivial⟩ ha)).mono fun e w' h => hfin rfl rfl h
end
def b_xsized_0 (q : Nat → Rat) (n k : Nat) : List (World → Value → Prop) := [fun w v => Rw 4 (fun ι w v => DecQ w v ((q ι)) k) n w v]
def ss_xsized_0 : List Step := [.base ⟨32, [.fact 0], [⟨.agg [.s, .lit (.cb false), .s, .b], []⟩, ⟨.one (.lit (.nl)), []⟩], true⟩]
def ins_xsized_0 : List Out := [⟨.one (.s), [(0, 0, 0)]⟩]
set_option maxRecDepth 100000 in
theorem xsized_0 {q : Nat → Rat} {n k : Nat} (hn0 : n = 0) : SiteOk (ph (b_xsized_0 q n k)) Tryz.prog ⟨44, [.fact 0], [⟨.one (.lit (.nl)), []⟩], false⟩ := by
  skip
  exact fn_okL ins_xsized_0 [⟨.one (.lit (.nl)), []⟩] ss_xsized_0 Tryz.func44 (by kernel_rfl)
    (lbase (sPrimQ0 (n := n) (q := q) (k := k) (fun _ _ h => h) hn0)
      lnil)
    (ins_ok [.fact 0 (.one (.s))] ⟨fun _ _ h => Rw.is (sz := 4) (F := (fun ι w v => DecQ w v ((q ι)) k)) (n := n) h, trivial⟩) (fun _ _ _ h => h)

def b_xsized_p (q : Nat → Rat) (n k K : Nat) (PL : List Int) : List (World → Value → Prop) := [fun w v => Rw 4 (fun ι w v => DecQ w v ((q ι)) k) n w v, fun w v => Rw 4 (fun ι w v => DecQ w v ((((coef PL) ι : Int) : Rat)) K) PL.length w v]
def ss_xsized_p : List Step := [.base ⟨32, [.fact 0], [⟨.agg [.s, .lit (.cb false), .s, .b], []⟩, ⟨.one (.s), [(0, 0, 1)]⟩], true⟩]
def ins_xsized_p : List Out := [⟨.one (.s), [(0, 0, 0)]⟩]
set_option maxRecDepth 100000 in
theorem xsized_p {q : Nat → Rat} {R : Nat → Int} {C : Int} {n k K kr kc : Nat} {PL : List Int} (hn0 : 0 < n) (hn : n ≤ 1000) (hk : k ≤ 1000) (hkr : kr ≤ 1000) (hkc : kc ≤ 1000) (hK : K ≤ 8000) (hkK : kr ≤ K ∧ 1 ≤ K) (hC : 0 < C) (hR : ∀ i, i < n → q i * ((C : Int) : Rat) = ((R i : Int) : Rat)) (hbR : ∀ i, i < n → Bd (R i).natAbs kr) (hbC : Bd C.natAbs kc) (hr0 : R (n - 1) ≠ 0) (hb : decide (R (n - 1) < 0) = false) (hPL : mk n (fun i => (if false then -1 else 1) * (R i / (gcdZ R n : Int))) = PL) : SiteOk (ph (b_xsized_p q n k K PL)) Tryz.prog ⟨44, [.fact 0], [⟨.one (.s), [(0, 0, 1)]⟩], false⟩ := by
  skip
  exact fn_okL ins_xsized_p [⟨.one (.s), [(0, 0, 1)]⟩] ss_xsized_p Tryz.func44 (by kernel_rfl)
    (lbase (sPrimQ (R := R) (C := C) (kr := kr) (kc := kc) (fun _ _ h => h) rfl hn0 hn hk hkr hkc hK hkK hC hR hbR hbC hr0 hb hPL)
      lnil)
    (ins_ok [.fact 0 (.one (.s))] ⟨fun _ _ h => Rw.is (sz := 4) (F := (fun ι w v => DecQ w v ((q ι)) k)) (n := n) h, trivial⟩) (fun _ _ _ h => h)

def b_xsized_n (q : Nat → Rat) (n k K : Nat) (PL : List Int) : List (World → Value → Prop) := [fun w v => Rw 4 (fun ι w v => DecQ w v ((q ι)) k) n w v, fun w v => Rw 4 (fun ι w v => DecQ w v ((((coef PL) ι : Int) : Rat)) K) PL.length w v, fun w v => Rw 4 (fun ι w v => DecQ w v ((-((((coef PL) ι : Int) : Rat)))) K) PL.length w v]
def ss_xsized_n : List Step := [.base ⟨32, [.fact 0], [⟨.agg [.s, .lit (.cb true), .s, .b], []⟩, ⟨.one (.s), [(0, 0, 1)]⟩], true⟩,
      .base ⟨101, [.fact 1], [⟨.one (.s), [(0, 0, 2)]⟩], false⟩]
def ins_xsized_n : List Out := [⟨.one (.s), [(0, 0, 0)]⟩]
set_option maxRecDepth 100000 in
theorem xsized_n {q : Nat → Rat} {R : Nat → Int} {C : Int} {n k K kr kc : Nat} {PL : List Int} (hn0 : 0 < n) (hn : n ≤ 1000) (hk : k ≤ 1000) (hkr : kr ≤ 1000) (hkc : kc ≤ 1000) (hK : K ≤ 8000) (hkK : kr ≤ K ∧ 1 ≤ K) (hC : 0 < C) (hR : ∀ i, i < n → q i * ((C : Int) : Rat) = ((R i : Int) : Rat)) (hbR : ∀ i, i < n → Bd (R i).natAbs kr) (hbC : Bd C.natAbs kc) (hr0 : R (n - 1) ≠ 0) (hb : decide (R (n - 1) < 0) = true) (hPL : mk n (fun i => (if true then -1 else 1) * (R i / (gcdZ R n : Int))) = PL) (hPl : PL.length ≤ 1000) (hPB : ∀ i, i < PL.length → Bd ((coef PL i : Int) : Rat).num.natAbs K ∧ Bd ((coef PL i : Int) : Rat).den K) (hPt : 0 < PL.length → ((coef PL (PL.length - 1) : Int) : Rat).num ≠ 0) : SiteOk (ph (b_xsized_n q n k K PL)) Tryz.prog ⟨44, [.fact 0], [⟨.one (.s), [(0, 0, 2)]⟩], false⟩ := by
  skip
  exact fn_okL ins_xsized_n [⟨.one (.s), [(0, 0, 2)]⟩] ss_xsized_n Tryz.func44 (by kernel_rfl)
    (lbase (sPrimQ (R := R) (C := C) (kr := kr) (kc := kc) (fun _ _ h => h) rfl hn0 hn hk hkr hkc hK hkK hC hR hbR hbC hr0 hb hPL)
      (lbase (sRNegX (q := (fun i => ((coef PL i : Int) : Rat))) (n := PL.length) (k := K) (fun _ _ h => h) rfl (by omega) (by omega) trivial hPB hPt)
      lnil))
    (ins_ok [.fact 0 (.one (.s))] ⟨fun _ _ h => Rw.is (sz := 4) (F := (fun ι w v => DecQ w v ((q ι)) k)) (n := n) h, trivial⟩) (fun _ _ _ h => h)

section
variable {Φ : Nat → World → Value → Prop} {p y n k K kr kc : Nat} {q : Nat → Rat} {R : Nat → Int} {C : Int} {SL : List Int}
/-- The shape of a row of which a multiple by a number above 0 is whole. -/
theorem sSized (hp : ∀ w v, Φ p w v → Rw 4 (fun i w v => DecQ w v (q i) k) n w v) (hy : Φ y = fun w v => Rw 4 (fun i w v => DecQ w v ((coef SL i : Int) : Rat) K) SL.length w v) (hn : n ≤ 1000) (hk : k ≤ 1000) (hkr : kr ≤ 1000) (hkc : kc ≤ 1000) (hK : K ≤ 8000) (hkK : kr ≤ K ∧ 1 ≤ K)
    (hC : 0 < C) (hR : ∀ i, i < n → q i * ((C : Int) : Rat) = ((R i : Int) : Rat)) (hbR : ∀ i, i < n → Bd (R i).natAbs kr) (hbC : Bd C.natAbs kc) (hr0 : 0 < n → R (n - 1) ≠ 0) (hSL : mk n (fun i => R i / (gcdZ R n : Int)) = SL) :
    SiteOk Φ Tryz.prog ⟨44, [.fact p], [⟨.one .s, [(0, 0, y)]⟩], false⟩ := by
  have hl : SL.length = n := by rw [← hSL, mk_length]
  rcases Nat.eq_zero_or_pos n with h0 | h0
  · intro X w vs hX ha
    refine ((xsized_0 (q := q) (k := k) h0) X w vs hX (argMap.ok (Φ := Φ) (l := [.fact p]) (m := [.fact 0]) ⟨hp, trivial⟩ ha)).mono fun e w' ⟨hg, us, he, h2⟩ => ⟨hg, us, he, ?_⟩
    match us, h2 with
    | [u], h2 =>
      have e : u = .slice none 0 0 := h2.1.1.1
      subst e
      exact one_out ⟨⟨_, _, _, rfl⟩, fun _ h => by cases h⟩ hy fun w1 _ => by rw [hl, h0]; exact Rw.nil _ _ _
  have hr0 := hr0 h0
  have hbS : ∀ i, i < n → Bd (R i / (gcdZ R n : Int)).natAbs K := fun i hi => ((hbR i hi).le (Int.natAbs_ediv_le_natAbs ..)).more hkK.1
  by_cases hs : R (n - 1) < 0
  · obtain ⟨PL, hPL⟩ : ∃ PL, mk n (fun i => (if true then -1 else 1) * (R i / (gcdZ R n : Int))) = PL := ⟨_, rfl⟩
    have hPl : PL.length = n := by rw [← hPL, mk_length]
    have hc : ∀ i, i < n → coef PL i = -(R i / (gcdZ R n : Int)) := fun i hi => by rw [← hPL, coef_mk, if_pos hi, if_pos rfl, Int.neg_mul, Int.one_mul]
    refine viaG (xsized_n (q := q) (R := R) (C := C) (n := n) (k := k) (K := K) (kr := kr) (kc := kc) (PL := PL) h0 hn hk hkr hkc hK hkK hC hR hbR hbC hr0 (decide_eq_true hs) hPL (by omega) (fun i hi => ?_) fun h => ?_) ⟨hp, trivial⟩ ⟨⟨rfl, ⟨rfl, rfl, fun w v h => ?_⟩, trivial⟩, trivial⟩
    · refine ⟨?_, one_ltX hkK.2⟩
      show Bd (coef PL i).natAbs K
      rw [hc i (by omega), Int.natAbs_neg]; exact hbS i (by omega)
    · show coef PL (PL.length - 1) ≠ 0
      rw [hc _ (by omega), hPl]
      intro e
      have h1 := (Int.ediv_mul_cancel (gcdZ_dvd (z := R) (n := n) (n - 1) (by omega))).symm
      rw [show R (n - 1) / (gcdZ R n : Int) = 0 by omega, Int.zero_mul] at h1
      exact hr0 h1
    · have h : Rw 4 (fun i w v => DecQ w v (-((coef PL i : Int) : Rat)) K) PL.length w v := h
      rw [hy]
      exact Rw.to (Rw.len h (by omega)) fun i w v hi h => DecQ.eq h (by rw [hc i (by omega), ← hSL, coef_mk, if_pos (by omega), Rat.intCast_neg]; exact Rat.neg_neg _)
  · obtain ⟨PL, hPL⟩ : ∃ PL, mk n (fun i => (if false then -1 else 1) * (R i / (gcdZ R n : Int))) = PL := ⟨_, rfl⟩
    have e : PL = SL := by
      rw [← hPL, ← hSL]
      congr 1
      funext i
      rw [if_neg (by decide), Int.one_mul]
    subst e
    exact viaG (xsized_p (q := q) (R := R) (C := C) (n := n) (k := k) (K := K) (kr := kr) (kc := kc) (PL := PL) h0 hn hk hkr hkc hK hkK hC hR hbR hbC hr0 (decide_eq_false hs) hPL) ⟨hp, trivial⟩ ⟨⟨rfl, ⟨rfl, rfl, fun w v h => hy ▸ h⟩, trivial⟩, trivial⟩
end
end Go.Proofs.YteblgmjpociffaaGreat.Sym
