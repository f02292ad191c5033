/- poly.each and both (Norm, Neg, Add, Sub), Mul. Products of polynomials as sums of products: they ask for no order, nor for brackets. poly.Same; contracts of Norm, Neg, Add, Sub, Mul. -/
import Derived.Test.YteblgmjpociffaaGreatPolX
namespace Go.Proofs.YteblgmjpociffaaGreat.Sym
open Go.RowKit
theorem sSub5 {Φ : Nat → World → Value → Prop} {p q x i j : Nat} {z y t : Int} (hp : ∀ w v, Φ p w v → IntV w v z i) (hq : ∀ w v, Φ q w v → IntV w v y j) (hx : Φ x = fun w v => NorV w v t (i + j + 1)) (hi : i + j ≤ 1000000) (ht : z - y = t) : SiteOk Φ Tryz.prog ⟨60, [.fact p, .fact q], [⟨iS, [(0, 0, x)]⟩], false⟩ :=
  site2 fun _ _ _ _ h0 h1 => ((Sub_i (hp _ _ (get h0)) (hq _ _ (get h1)) hi).mono fun _ _ h => h.got).mono fun _ _ h => pstI (ht ▸ hx) h
def b_each_norm (z : Nat → Int) (n k : Nat) : List (World → Value → Prop) := [fun w v => Rw 2 (fun ι w v => IntV w v (z ι) k) n w v, fun _ v => v = .int .i64 ((n : Nat) : Int), fun w v => ArrO 2 26 (fun ι w v => NorV w v ((upto 0 z) ι) k) n w v, fun _ v => v = .int .i64 ((n : Nat) : Int), fun w v => ArrO 2 26 (fun ι w v => NorV w v ((upto n z) ι) k) n w v, fun w v => Rw 2 (fun ι w v => NorV w v ((upto n z) ι) k) (tl (upto n z) n) w v]
def l_each_norm_1 (z : Nat → Int) (n k : Nat) (j : Nat) : List (World → Value → Prop) := [fun _ v => v = .int .i64 ((j : Nat) : Int), fun w v => ArrO 2 26 (fun ι w v => NorV w v ((upto j z) ι) k) n w v, fun _ _ => True, fun w v => Ptr 2 (fun w v => IntV w v (z j) k) w v, fun w v => IntV w v (z j) k, fun w v => NorV w v (z j) k, At 2, fun w v => Ptr 2 (fun w v => NorV w v ((upto j z) j) k) w v, fun w v => ArrO 2 26 (fun ι w v => NorV w v ((upto (j + 1) z) ι) k) n w v, fun _ v => v = .int .i64 (((j + 1) : Nat) : Int)]
def d_each_norm_1 : LoopD := ⟨[0, 1, 4, 8, 9, 10, 11, 12], [(.slot 13, .i), (.slot 5, .s)], [(.one 0, 6), (.one 1, .at [1] 7), (.one 1, .lo 1)], [.closed (.one (.ci .i64 0)), .from 2, .from 0], 6, [(7, 4)]⟩
def r_each_norm_1_0 : List Step := [.base ⟨0, [.fact 6, .fact 3], [⟨.one (.lit (.cb true)), []⟩], .quiet (mBin .lss)⟩,
      .base ⟨0, [.fact 0, .fact 6], [⟨.one (.p), [(0, 0, 9)]⟩], .quiet (mIdx 23)⟩,
      .base ⟨0, [.fact 9], [⟨.agg [.b, .s], [(0, 0, 10)]⟩], .quiet (mLoad 26)⟩,
      .base ⟨102, [.fact 10], [⟨.agg [.b, .s], [(0, 0, 11)]⟩], false⟩,
      .base ⟨0, [.fact 7, .fact 6], [⟨.one (.p), [(0, 0, 13)]⟩], .joint [1] 12 (mIdx 23)⟩,
      .base ⟨0, [.fact 7, .fact 6, .any, .fact 11], [⟨.one .s, [(0, 0, 14)]⟩], .put [] 1 0 12 (mPut 26 (.tmp 18) (.tmp 19))⟩,
      .base ⟨0, [.fact 6, .lit (.ci .i64 1)], [⟨.one (.i), [(0, 0, 15)]⟩], .quiet (mBin .add)⟩]
def o_each_norm_1 : List Step := [.base ⟨0, [.fact 6, .fact 3], [⟨.one (.lit (.cb false)), []⟩], .quiet (mBin .lss)⟩]
def ss_each_norm : List Step := [.base ⟨0, [.fact 0], [⟨.one (.i), [(0, 0, 1)]⟩], .quiet (mLen 23)⟩,
      .base ⟨0, [.fact 1, .fact 1], [⟨.one (.s), [(0, 0, 2)]⟩], .loose [] 1 0 (mMake 23)⟩,
      .base ⟨0, [.fact 0], [⟨.one (.i), [(0, 0, 3)]⟩], .quiet (mLen 23)⟩,
      .loop d_each_norm_1 [(r_each_norm_1_0, [.from 15, .from 14, .from 0])] o_each_norm_1,
      .base ⟨53, [.fact 4], [⟨.one (.s), [(0, 0, 5)]⟩], .callJ [1] false⟩]
def ins_each_norm : List Out := [⟨.one (.s), [(0, 0, 0)]⟩, ⟨.one (.lit (.fn 102)), []⟩]
set_option maxRecDepth 100000 in
theorem each_norm {z : Nat → Int} {n k : Nat} (hn : n ≤ 1000000) (hk : k ≤ 500000) : SiteOk (ph (b_each_norm z n k)) Tryz.prog ⟨67, [.fact 0, .lit (.fn 102)], [⟨.one (.s), [(0, 0, 5)]⟩], false⟩ := by
  skip
  exact fn_okL ins_each_norm [⟨.one (.s), [(0, 0, 5)]⟩] ss_each_norm Tryz.func67 (by kernel_rfl)
    (lbase (qLen (sz := 2) (n := n) (F := (fun ι w v => IntV w v (z ι) k)) Tryz.underlying23 (fun _ _ h => Rw.arr h) rfl)
      (lbase (qMakeI (n := n) (F := (fun ι w v => NorV w v ((upto 0 z) ι) k)) (fun _ _ h => h) (by omega) (fun i w => NorV.zero w k) rfl)
      (lbase (qLen (sz := 2) (n := n) (F := (fun ι w v => IntV w v (z ι) k)) Tryz.underlying23 (fun _ _ h => Rw.arr h) rfl)
      (lloop (counted n (fun j => ph (b_each_norm z n k ++ l_each_norm_1 z n k j)) (fun _ => 0) (fun j p hp => ph_app' (show p < (b_each_norm z n k).length from hp)) ⟨fun _ => rfl, fun _ _ h => h, fun _ _ _ => trivial, trivial⟩ (fun j hj => by
      skip
      exact ⟨(r_each_norm_1_0, [.from 15, .from 14, .from 0]), rfl, ⟨fun _ _ h => h, fun _ _ h => h, fun _ _ _ => trivial, trivial⟩, (lbase (qTest (op := .lss) (fun _ _ h => h) (fun _ _ h => h) (ts_run (decide_eq_true (by omega)) (by simp)))
      (lbase (qIdx (i := j) (sz := 2) (n := n) (F := (fun ι w v => IntV w v (z ι) k)) Tryz.underlying23 (by kernel_rfl) (fun _ _ h => Rw.arr h) (fun _ _ h => h) (by omega) rfl)
      (lbase (qLoad (sz := 2) (F := fun w v => IntV w v (z j) k) (by kernel_rfl) (by kernel_rfl) (fun _ _ h => h) (fun _ _ _ g h => IntV.kp h g) (fun _ _ h => IntV.is h) rfl)
      (lbase (sNorm iI rfl (by omega) rfl)
      (lbase (qIdxJ (i := j) (sz := 2) (n := n) (F := (fun ι w v => NorV w v ((upto j z) ι) k)) Tryz.underlying23 (by kernel_rfl) (fun _ _ h => ArrO.arr h) (fun _ _ h => h) (by omega) rfl rfl)
      (lbase (qPutR (i := j) (n := n) (F := (fun ι w v => NorV w v ((upto j z) ι) k)) (F' := (fun ι w v => NorV w v ((upto (j + 1) z) ι) k)) (G := fun w v => NorV w v (z j) k) (.tmp 18) (.tmp 19) (by kernel_rfl) (fun _ _ h => h) (fun _ _ h => h) (by omega) (fun _ _ h => h) rfl (fun _ _ h => NorV.cells h) (fun _ _ _ _ g h => NorV.kp h g) (fun _ _ _ g h => NorV.kp h g) (fun i w v hi h => by rw [upto_ne hi]; exact h) (fun w v h => h.eq (upto_self j z).symm) rfl)
      (lbase (qAddK (fun _ _ h => h) (by omega) rfl (by omega) (by omega))
      lnil)))))))⟩)
      (lbase (qTest (op := .lss) (fun _ _ h => h) (fun _ _ h => h) (ts_run (decide_eq_false (by omega)) (by simp)))
      lnil)
      (fun q hq w v h => by
        simp only [d_each_norm_1, List.mem_cons, List.not_mem_nil, or_false] at hq
        rcases hq with rfl
        · exact (fun h => h) h)) (lbase (onJ [1] (sTrim (z := (upto n z)) (n := n) (k := k) (F := (fun ι w v => NorV w v ((upto n z) ι) k)) (fun _ _ h => ArrO.rw h) (fun _ _ _ h => NorV.i h) (fun _ _ _ _ g h => NorV.kp h g) rfl (by omega) (by omega)))
      lnil)))))
    (ins_ok [.fact 0 (.one (.s)), .lit (.fn 102)] ⟨fun _ _ h => Rw.is (sz := 2) (F := (fun ι w v => IntV w v (z ι) k)) (n := n) h, (fun _ h => by cases h), trivial⟩) (fun _ _ _ h => h)

section
variable {Φ : Nat → World → Value → Prop} {p q x n m k l : Nat} {z y : Nat → Int} {L : List Int}
theorem sEach_norm (hp : ∀ w v, Φ p w v → Rw 2 (fun i w v => IntV w v (z i) k) n w v) (hx : Φ x = fun w v => Rw 2 (fun i w v => NorV w v (coef L i) k) L.length w v) (hn : n ≤ 1000000) (hk : k ≤ 500000) (hL : trimL (mk n z) = L) : SiteOk Φ Tryz.prog ⟨67, [.fact p, .lit (.fn 102)], [⟨.one .s, [(0, 0, x)]⟩], false⟩ :=
  viaG (each_norm hn hk) ⟨hp, rfl, trivial⟩ ⟨⟨rfl, ⟨rfl, rfl, fun _ _ h => hx ▸ hL ▸ rowTrim h⟩, trivial⟩, trivial⟩

end
def b_pnorm (z : Nat → Int) (n k : Nat) : List (World → Value → Prop) := [fun w v => Rw 2 (fun ι w v => IntV w v (z ι) k) n w v, fun w v => Rw 2 (fun ι w v => NorV w v ((coef (trimL (mk n z))) ι) k) ((trimL (mk n z)).length) w v]
def ss_pnorm : List Step := [.base ⟨67, [.fact 0, .lit (.fn 102)], [⟨.one (.s), [(0, 0, 1)]⟩], false⟩]
def ins_pnorm : List Out := [⟨.one (.s), [(0, 0, 0)]⟩]
set_option maxRecDepth 100000 in
theorem pnorm {z : Nat → Int} {n k : Nat} (hn : n ≤ 1000000) (hk : k ≤ 500000) : SiteOk (ph (b_pnorm z n k)) Tryz.prog ⟨93, [.fact 0], [⟨.one (.s), [(0, 0, 1)]⟩], false⟩ := by
  skip
  exact fn_okL ins_pnorm [⟨.one (.s), [(0, 0, 1)]⟩] ss_pnorm Tryz.func93 (by kernel_rfl)
    (lbase (sEach_norm (fun _ _ h => Rw.to (sz := 2) (n := n) (F := (fun ι w v => IntV w v (z ι) k)) (h) (fun i w v _ h => (fun _ _ _ h => h) i w v h)) rfl (by omega) (by omega) rfl)
      lnil)
    (ins_ok [.fact 0 (.one (.s))] ⟨fun _ _ h => Rw.is (sz := 2) (F := (fun ι w v => IntV w v (z ι) k)) (n := n) h, trivial⟩) (fun _ _ _ h => h)

section
variable {z y : Nat → Int} {l j i p : Nat}
end
end Go.Proofs.YteblgmjpociffaaGreat.Sym

namespace Go.Proofs.YteblgmjpociffaaGreat.Sym
open Go.RowKit
def conv (f g : Nat → Int) : Nat → Int
  | 0 => f 0 * g 0
  | p + 1 => f 0 * g (p + 1) + conv (fun x => f (x + 1)) g p
theorem Bd.add1' {A B i : Nat} (h : Bd A i) (k : Bd B i) : Bd (A + B) (i + 1) := by
  unfold Bd at *
  rw [Nat.pow_succ]
  generalize 4294967296 ^ i = M at *
  omega
end Go.Proofs.YteblgmjpociffaaGreat.Sym

namespace Go.Proofs.YteblgmjpociffaaGreat.Sym
open Go.RowKit
section
variable {Φ : Nat → World → Value → Prop} {p q x n m k l c : Nat} {z y : Nat → Int} {L : List Int}
theorem sNormP (hp : ∀ w v, Φ p w v → Rw 2 (fun i w v => IntV w v (z i) k) n w v) (hx : Φ x = fun w v => Rw 2 (fun i w v => NorV w v (coef L i) k) L.length w v) (hn : n ≤ 1000000) (hk : k ≤ 500000) (hL : trimL (mk n z) = L) : SiteOk Φ Tryz.prog ⟨93, [.fact p], [⟨.one .s, [(0, 0, x)]⟩], false⟩ :=
  viaG (pnorm hn hk) ⟨hp, trivial⟩ ⟨⟨rfl, ⟨rfl, rfl, fun _ _ h => hx ▸ hL ▸ h⟩, trivial⟩, trivial⟩
end
end Go.Proofs.YteblgmjpociffaaGreat.Sym
