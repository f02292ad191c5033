/- poly.Derive. -/
import Derived.Test.YtigkehblnlghkaaGreatPolJ
import Derived.Test.YtigkehblnlghkaaGreatPolH
namespace Go.Proofs.YtigkehblnlghkaaGreat.Sym
open Go.RowKit
def b_pder (z : Nat → Int) (n k : Nat) : List (World → Value → Prop) := [fun w v => Rw 2 (fun ι w v => IntV w v (z ι) k) n w v, fun w v => Rw 2 (fun ι w v => IntV w v (z ι) k) (tl z n) w v, fun _ v => v = .int .i64 (((tl z n) : Nat) : Int), fun _ v => v = .int .i64 (((tl z n - 1) : Nat) : Int), fun w v => ArrO 2 26 (fun ι w v => NorV w v ((upto 0 (drv z)) ι) (2 + k)) (tl z n - 1) w v, LenS (tl z n - 1), fun _ v => v = .int .i64 (((tl z n - 1) : Nat) : Int), fun w v => ArrO 2 26 (fun ι w v => NorV w v ((upto (tl z n - 1) (drv z)) ι) (2 + k)) (tl z n - 1) w v]
def l_pder_1 (z : Nat → Int) (n k : Nat) (j : Nat) : List (World → Value → Prop) := [fun _ v => v = .int .i64 ((j : Nat) : Int), fun w v => ArrO 2 26 (fun ι w v => NorV w v ((upto j (drv z)) ι) (2 + k)) (tl z n - 1) w v, fun _ _ => True, fun _ v => v = .int .i64 (((j + 1) : Nat) : Int), fun w v => NorV w v (((j + 1) : Nat) : Int) 2, fun _ v => v = .int .i64 (((j + 1) : Nat) : Int), fun w v => Ptr 2 (fun w v => IntV w v (z (j + 1)) k) w v, fun w v => IntV w v (z (j + 1)) k, fun w v => NorV w v ((((j + 1) : Nat) : Int) * (z (j + 1))) (2 + k), At 2, fun w v => Ptr 2 (fun w v => NorV w v ((upto j (drv z)) j) (2 + k)) w v, fun w v => ArrO 2 26 (fun ι w v => NorV w v ((upto (j + 1) (drv z)) ι) (2 + k)) (tl z n - 1) w v, fun _ v => v = .int .i64 (((j + 1) : Nat) : Int)]
def d_pder_1 : LoopD := ⟨[0, 2, 5, 6, 7, 8, 9, 10, 11, 12, 13, 14], [(.slot 15, .i), (.slot 3, .s)], [(.one 0, 8), (.one 1, .at [1] 9), (.one 1, .lo 1)], [.closed (.one (.ci .i64 0)), .from 4, .from 0], 8, [(9, 7)]⟩
def r_pder_1_0 : List Step := [.base ⟨0, [.fact 8, .fact 6], [⟨.one (.lit (.cb true)), []⟩], .quiet (mBin .lss)⟩,
      .base ⟨0, [.fact 8, .lit (.ci .i64 1)], [⟨.one (.i), [(0, 0, 11)]⟩], .quiet (mBin .add)⟩,
      .base ⟨19, [.fact 11], [⟨.agg [.b, .s], [(0, 0, 12)]⟩], false⟩,
      .base ⟨0, [.fact 8, .lit (.ci .i64 1)], [⟨.one (.i), [(0, 0, 13)]⟩], .quiet (mBin .add)⟩,
      .base ⟨0, [.fact 1, .fact 13], [⟨.one (.p), [(0, 0, 14)]⟩], .quiet (mIdx 23)⟩,
      .base ⟨0, [.fact 14], [⟨.agg [.b, .s], [(0, 0, 15)]⟩], .quiet (mLoad 26)⟩,
      .base ⟨48, [.fact 12, .fact 15], [⟨.agg [.b, .s], [(0, 0, 16)]⟩], false⟩,
      .base ⟨0, [.fact 9, .fact 8], [⟨.one (.p), [(0, 0, 18)]⟩], .joint [1] 17 (mIdx 23)⟩,
      .base ⟨0, [.fact 9, .fact 8, .any, .fact 16], [⟨.one .s, [(0, 0, 19)]⟩], .put [] 1 0 17 (mPut 26 (.tmp 18) (.tmp 19))⟩,
      .base ⟨0, [.fact 8, .lit (.ci .i64 1)], [⟨.one (.i), [(0, 0, 20)]⟩], .quiet (mBin .add)⟩]
def o_pder_1 : List Step := [.base ⟨0, [.fact 8, .fact 6], [⟨.one (.lit (.cb false)), []⟩], .quiet (mBin .lss)⟩]
def ss_pder : List Step := [.base ⟨53, [.fact 0], [⟨.one (.s), [(0, 0, 1)]⟩], false⟩,
      .base ⟨0, [.fact 1], [⟨.one (.i), [(0, 0, 2)]⟩], .quiet (mLen 23)⟩,
      .base ⟨0, [.fact 2, .lit (.ci .i64 0)], [⟨.one (.lit (.cb false)), []⟩], .quiet (mBin .eql)⟩,
      .base ⟨58, [.fact 1], [⟨.one (.i), [(0, 0, 3)]⟩], false⟩,
      .base ⟨0, [.fact 3, .fact 3], [⟨.one (.s), [(0, 0, 4)]⟩], .loose [] 1 0 (mMake 23)⟩,
      .freed (.one (.s 10 0)) 4 5,
      .base ⟨0, [.fact 5], [⟨.one (.i), [(0, 0, 6)]⟩], .quiet (mLen 23)⟩,
      .loop d_pder_1 [(r_pder_1_0, [.from 20, .from 19, .from 0])] o_pder_1]
def ins_pder : List Out := [⟨.one (.s), [(0, 0, 0)]⟩]
set_option maxRecDepth 100000 in
theorem pder {z : Nat → Int} {n k : Nat} (hn : n ≤ 1000000) (hk : k ≤ 200000) (h0 : 0 < tl z n) : SiteOk (ph (b_pder z n k)) Tryz.prog ⟨16, [.fact 0], [⟨.one (.s), [(0, 0, 7)]⟩], false⟩ := by
  have hle := tl_le z n
  exact fn_okL ins_pder [⟨.one (.s), [(0, 0, 7)]⟩] ss_pder Tryz.func16 (by kernel_rfl)
    (lbase (sTrim (z := z) (n := n) (k := k) (F := (fun ι w v => IntV w v (z ι) k)) (fun _ _ h => h) (fun _ _ _ h => h) (fun _ _ _ _ g h => IntV.kp h g) rfl (by omega) (by omega))
      (lbase (qLen (sz := 2) (n := (tl z n)) (F := (fun ι w v => IntV w v (z ι) k)) Tryz.underlying23 (fun _ _ h => Rw.arr h) rfl)
      (lbase (qTestC (op := .eql) (fun _ _ h => h) (ts_run (decide_eq_false (by omega)) (by simp)))
      (lbase (sDeg (n := (tl z n)) (fun _ _ h => Rw.lenS (sz := 2) (F := (fun ι w v => IntV w v (z ι) k)) (n := (tl z n)) h) rfl (by omega) (by omega))
      (lbase (qMakeI (n := (tl z n - 1)) (F := (fun ι w v => NorV w v ((upto 0 (drv z)) ι) (2 + k))) (fun _ _ h => h) (by omega) (fun i w => NorV.zero w (2 + k)) rfl)
      (lfreed (freeLen (e := 26) (sz := 2) (n := (tl z n - 1)) (F := (fun ι w v => NorV w v ((upto 0 (drv z)) ι) (2 + k))) (fun _ _ h => h) rfl)
      (lbase (qLenS' (n := (tl z n - 1)) Tryz.underlying23 (fun _ _ h => h) rfl)
      (lloop (counted (tl z n - 1) (fun j => ph (b_pder z n k ++ l_pder_1 z n k j)) (fun _ => 0) (fun j p hp => ph_app' (show p < (b_pder z n k).length from hp)) ⟨fun _ => rfl, fun _ _ h => h, fun _ _ _ => trivial, trivial⟩ (fun j hj => by
      skip
      exact ⟨(r_pder_1_0, [.from 20, .from 19, .from 0]), rfl, ⟨fun _ _ h => h, fun _ _ h => h, fun _ _ _ => trivial, trivial⟩, (lbase (qTest (op := .lss) (fun _ _ h => h) (fun _ _ h => h) (ts_run (decide_eq_true (by omega)) (by simp)))
      (lbase (qAddK (fun _ _ h => h) (by omega) rfl (by omega) (by omega))
      (lbase (sOfJ (fun _ _ h => h) rfl (by omega) (by omega) rfl)
      (lbase (qAddK (fun _ _ h => h) (by omega) rfl (by omega) (by omega))
      (lbase (qIdx (i := (j + 1)) (sz := 2) (n := (tl z n)) (F := (fun ι w v => IntV w v (z ι) k)) Tryz.underlying23 (by kernel_rfl) (fun _ _ h => Rw.arr h) (fun _ _ h => h) (by omega) rfl)
      (lbase (qLoad (sz := 2) (F := fun w v => IntV w v (z (j + 1)) k) (by kernel_rfl) (by kernel_rfl) (fun _ _ h => h) (fun _ _ _ g h => IntV.kp h g) (fun _ _ h => IntV.is h) rfl)
      (lbase (sMul nI iI rfl (by omega) rfl)
      (lbase (qIdxJ (i := j) (sz := 2) (n := (tl z n - 1)) (F := (fun ι w v => NorV w v ((upto j (drv z)) ι) (2 + k))) Tryz.underlying23 (by kernel_rfl) (fun _ _ h => ArrO.arr h) (fun _ _ h => h) (by omega) rfl rfl)
      (lbase (qPutR (i := j) (n := (tl z n - 1)) (F := (fun ι w v => NorV w v ((upto j (drv z)) ι) (2 + k))) (F' := (fun ι w v => NorV w v ((upto (j + 1) (drv z)) ι) (2 + k))) (G := fun w v => NorV w v ((((j + 1) : Nat) : Int) * (z (j + 1))) (2 + k)) (.tmp 18) (.tmp 19) (by kernel_rfl) (fun _ _ h => h) (fun _ _ h => h) (by omega) (fun _ _ h => h) rfl (fun _ _ h => NorV.cells h) (fun _ _ _ _ g h => NorV.kp h g) (fun _ _ _ g h => NorV.kp h g) (fun i w v hi h => by rw [upto_ne hi]; exact h) (fun w v h => h.eq (by rw [upto_self]; unfold drv; push_cast; rfl)) rfl)
      (lbase (qAddK (fun _ _ h => h) (by omega) rfl (by omega) (by omega))
      lnil))))))))))⟩)
      (lbase (qTest (op := .lss) (fun _ _ h => h) (fun _ _ h => h) (ts_run (decide_eq_false (by omega)) (by simp)))
      lnil)
      (fun q hq w v h => by
        simp only [d_pder_1, List.mem_cons, List.not_mem_nil, or_false] at hq
        rcases hq with rfl
        · exact (fun h => h) h)) lnil))))))))
    (ins_ok [.fact 0 (.one (.s))] ⟨fun _ _ h => Rw.is (sz := 2) (F := (fun ι w v => IntV w v (z ι) k)) (n := n) h, trivial⟩) (fun _ _ _ h => h)

def b_pder_0 (z : Nat → Int) (n k : Nat) : List (World → Value → Prop) := [fun w v => Rw 2 (fun ι w v => IntV w v (z ι) k) n w v, fun w v => Rw 2 (fun ι w v => IntV w v (z ι) k) (tl z n) w v, fun _ v => v = .int .i64 (((tl z n) : Nat) : Int)]
def ss_pder_0 : List Step := [.base ⟨53, [.fact 0], [⟨.one (.s), [(0, 0, 1)]⟩], false⟩,
      .base ⟨0, [.fact 1], [⟨.one (.i), [(0, 0, 2)]⟩], .quiet (mLen 23)⟩,
      .base ⟨0, [.fact 2, .lit (.ci .i64 0)], [⟨.one (.lit (.cb true)), []⟩], .quiet (mBin .eql)⟩]
def ins_pder_0 : List Out := [⟨.one (.s), [(0, 0, 0)]⟩]
set_option maxRecDepth 100000 in
theorem pder_0 {z : Nat → Int} {n k : Nat} (hn : n ≤ 1000000) (hk : k ≤ 200000) (h0 : tl z n = 0) : SiteOk (ph (b_pder_0 z n k)) Tryz.prog ⟨16, [.fact 0], [⟨.one (.lit (.nl)), []⟩], false⟩ := by
  have hle := tl_le z n
  exact fn_okL ins_pder_0 [⟨.one (.lit (.nl)), []⟩] ss_pder_0 Tryz.func16 (by kernel_rfl)
    (lbase (sTrim (z := z) (n := n) (k := k) (F := (fun ι w v => IntV w v (z ι) k)) (fun _ _ h => h) (fun _ _ _ h => h) (fun _ _ _ _ g h => IntV.kp h g) rfl (by omega) (by omega))
      (lbase (qLen (sz := 2) (n := (tl z n)) (F := (fun ι w v => IntV w v (z ι) k)) Tryz.underlying23 (fun _ _ h => Rw.arr h) rfl)
      (lbase (qTestC (op := .eql) (fun _ _ h => h) (ts_run (decide_eq_true (by omega)) (by simp)))
      lnil)))
    (ins_ok [.fact 0 (.one (.s))] ⟨fun _ _ h => Rw.is (sz := 2) (F := (fun ι w v => IntV w v (z ι) k)) (n := n) h, trivial⟩) (fun _ _ _ h => h)

/-- The numbers of a derivative. -/
def drvL (z : Nat → Int) (n : Nat) : List Int := mk (tl z n - 1) (drv z)
theorem coef_drvL (z : Nat → Int) (n i : Nat) : coef (drvL z n) i = drv (upto n z) i := by
  have hle := tl_le z n
  unfold drvL
  rw [coef_mk]
  split
  · unfold drv; rw [upto_lt (by omega)]
  · unfold drv; rw [tl_out (by omega), Int.mul_zero]
section
variable {Φ : Nat → World → Value → Prop} {p x n k : Nat} {z : Nat → Int} {L : List Int}
theorem sDerive (hp : ∀ w v, Φ p w v → Rw 2 (fun i w v => IntV w v (z i) k) n w v) (hx : Φ x = fun w v => Rw 2 (fun i w v => NorV w v (coef L i) (2 + k)) L.length w v) (hn : n ≤ 1000000) (hk : k ≤ 200000) (hL : drvL z n = L) : SiteOk Φ Tryz.prog ⟨16, [.fact p], [⟨.one .s, [(0, 0, x)]⟩], false⟩ := fun X w vs hX ha => by
  rcases Nat.eq_zero_or_pos (tl z n) with h1 | h1
  · exact (viaG (outs := [⟨.one (.lit .nl), []⟩]) (Φ := Φ) (ar := [.fact p]) (pder_0 (z := z) (n := n) (k := k) hn hk h1) ⟨hp, trivial⟩ ⟨⟨rfl, trivial⟩, trivial⟩ X w vs hX ha).mono fun e w' ⟨hg, us, he, h2⟩ => ⟨hg, us, he, nil_is hx (by rw [← hL, drvL, h1]; rfl) h2⟩
  · refine viaG (Φ := Φ) (ar := [.fact p]) (outs := [⟨.one .s, [(0, 0, x)]⟩]) (pder (z := z) (n := n) (k := k) hn hk h1) ⟨hp, trivial⟩ ⟨⟨rfl, ⟨rfl, rfl, fun w v h => ?_⟩, trivial⟩, trivial⟩ X w vs hX ha
    rw [hx, ← hL, drvL, mk_length]
    exact Rw.to (ArrO.rw (e := 26) (F := fun i w v => NorV w v (upto (tl z n - 1) (drv z) i) (2 + k)) h) fun i w v hi h => h.eq (by rw [coef_mk, if_pos hi, upto_lt hi])
end
end Go.Proofs.YtigkehblnlghkaaGreat.Sym
