/- poly.each and both (Norm, Neg, Add, Sub), Mul. Products of polynomials as sums of products: they ask for no order, nor for brackets. poly.Same; contracts of Norm, Neg, Add, Sub, Mul. -/
import Derived.Test.YteblgmjpociffaaPolX
namespace Go.Proofs.Yteblgmjpociffaa.Sym
open Go.RowKit
/-- The numbers of a product behind j whole rounds; and behind i steps of the next one. -/
def cvS (z y : Nat → Int) (l : Nat) : Nat → Nat → Int
  | 0, _ => 0
  | j + 1, p => cvS z y l j p + (if j ≤ p ∧ p < j + l then z j * y (p - j) else 0)
def cvI (z y : Nat → Int) (l : Nat) (j i p : Nat) : Int := cvS z y l j p + (if j ≤ p ∧ p < j + i then z j * y (p - j) else 0)
def b_both_add (z y : Nat → Int) (n m k l : Nat) : List (World → Value → Prop) := [fun w v => Rw 2 (fun ι w v => IntV w v (z ι) k) n w v, fun w v => Rw 2 (fun ι w v => IntV w v (y ι) l) m w v, fun _ v => v = .int .i64 ((n : Nat) : Int), fun _ v => v = .int .i64 ((m : Nat) : Int), fun _ v => v = .int .i64 (((max n m) : Nat) : Int), fun w v => ArrO 2 36 (fun ι w v => NorV w v ((upto 0 (fun i => upto n z i + upto m y i)) ι) (k + l + 1)) (max n m) w v, LenS (max n m), fun _ v => v = .int .i64 (((max n m) : Nat) : Int), fun w v => ArrO 2 36 (fun ι w v => NorV w v ((upto (max n m) (fun i => upto n z i + upto m y i)) ι) (k + l + 1)) (max n m) w v, fun w v => Rw 2 (fun ι w v => NorV w v ((upto (max n m) (fun i => upto n z i + upto m y i)) ι) (k + l + 1)) (tl (upto (max n m) (fun i => upto n z i + upto m y i)) (max n m)) w v]
def l_both_add_1 (z y : Nat → Int) (n m k l : Nat) (j : Nat) : List (World → Value → Prop) := [fun _ v => v = .int .i64 ((j : Nat) : Int), fun w v => ArrO 2 36 (fun ι w v => NorV w v ((upto j (fun i => upto n z i + upto m y i)) ι) (k + l + 1)) (max n m) w v, fun _ _ => True, fun w v => IntV w v (upto n z j) k, fun w v => IntV w v (upto m y j) l, fun w v => NorV w v ((upto n z j) + (upto m y j)) (k + l + 1), At 2, fun w v => Ptr 2 (fun w v => NorV w v ((upto j (fun i => upto n z i + upto m y i)) j) (k + l + 1)) w v, fun w v => ArrO 2 36 (fun ι w v => NorV w v ((upto (j + 1) (fun i => upto n z i + upto m y i)) ι) (k + l + 1)) (max n m) w v, fun _ v => v = .int .i64 (((j + 1) : Nat) : Int)]
def d_both_add_1 : LoopD := ⟨[0, 1, 2, 6, 9, 10, 11, 12, 13, 14, 15, 16], [(.slot 17, .i), (.slot 7, .s)], [(.one 0, 10), (.one 1, .at [1] 11), (.one 1, .lo 1)], [.closed (.one (.ci .i64 0)), .from 5, .from 0], 10, [(11, 8)]⟩
def r_both_add_1_0 : List Step := [.base ⟨0, [.fact 10, .fact 7], [⟨.one (.lit (.cb true)), []⟩], .quiet (mBin .lss)⟩,
      .base ⟨72, [.fact 0, .fact 10], [⟨.agg [.b, .s], [(0, 0, 13)]⟩], false⟩,
      .base ⟨72, [.fact 1, .fact 10], [⟨.agg [.b, .s], [(0, 0, 14)]⟩], false⟩,
      .base ⟨41, [.fact 13, .fact 14], [⟨.agg [.b, .s], [(0, 0, 15)]⟩], false⟩,
      .base ⟨0, [.fact 11, .fact 10], [⟨.one (.p), [(0, 0, 17)]⟩], .joint [1] 16 (mIdx 23)⟩,
      .base ⟨0, [.fact 11, .fact 10, .any, .fact 15], [⟨.one .s, [(0, 0, 18)]⟩], .put [] 1 0 16 (mPut 36 (.tmp 20) (.tmp 21))⟩,
      .base ⟨0, [.fact 10, .lit (.ci .i64 1)], [⟨.one (.i), [(0, 0, 19)]⟩], .quiet (mBin .add)⟩]
def o_both_add_1 : List Step := [.base ⟨0, [.fact 10, .fact 7], [⟨.one (.lit (.cb false)), []⟩], .quiet (mBin .lss)⟩]
def ss_both_add : List Step := [.base ⟨0, [.fact 0], [⟨.one (.i), [(0, 0, 2)]⟩], .quiet (mLen 23)⟩,
      .base ⟨0, [.fact 1], [⟨.one (.i), [(0, 0, 3)]⟩], .quiet (mLen 23)⟩,
      .base ⟨0, [.fact 2, .fact 3], [⟨.one (.i), [(0, 0, 4)]⟩], .quiet (mMax .max)⟩,
      .base ⟨0, [.fact 4, .fact 4], [⟨.one (.s), [(0, 0, 5)]⟩], .loose [] 1 0 (mMake 23)⟩,
      .freed (.one (.s 7 0)) 5 6,
      .base ⟨0, [.fact 6], [⟨.one (.i), [(0, 0, 7)]⟩], .quiet (mLen 23)⟩,
      .loop d_both_add_1 [(r_both_add_1_0, [.from 19, .from 18, .from 0])] o_both_add_1,
      .base ⟨51, [.fact 8], [⟨.one (.s), [(0, 0, 9)]⟩], .callJ [1] false⟩]
def ins_both_add : List Out := [⟨.one (.s), [(0, 0, 0)]⟩, ⟨.one (.s), [(0, 0, 1)]⟩, ⟨.one (.lit (.fn 41)), []⟩]
set_option maxRecDepth 100000 in
theorem both_add {z y : Nat → Int} {n m k l : Nat} (hn : n ≤ 1000000) (hm : m ≤ 1000000) (hk : k ≤ 200000) (hl : l ≤ 200000) : SiteOk (ph (b_both_add z y n m k l)) Try.prog ⟨40, [.fact 0, .fact 1, .lit (.fn 41)], [⟨.one (.s), [(0, 0, 9)]⟩], false⟩ := by
  skip
  exact fn_okL ins_both_add [⟨.one (.s), [(0, 0, 9)]⟩] ss_both_add Try.func40 (by kernel_rfl)
    (lbase (qLen (sz := 2) (n := n) (F := (fun ι w v => IntV w v (z ι) k)) Try.underlying23 (fun _ _ h => Rw.arr h) rfl)
      (lbase (qLen (sz := 2) (n := m) (F := (fun ι w v => IntV w v (y ι) l)) Try.underlying23 (fun _ _ h => Rw.arr h) rfl)
      (lbase (qMax (fun _ _ h => h) (fun _ _ h => h) (by split <;> omega) rfl)
      (lbase (qMakeI (n := (max n m)) (F := (fun ι w v => NorV w v ((upto 0 (fun i => upto n z i + upto m y i)) ι) (k + l + 1))) (fun _ _ h => h) (by omega) (fun i w => NorV.zero w (k + l + 1)) rfl)
      (lfreed (freeLen (e := 36) (sz := 2) (n := (max n m)) (F := (fun ι w v => NorV w v ((upto 0 (fun i => upto n z i + upto m y i)) ι) (k + l + 1))) (fun _ _ h => h) rfl)
      (lbase (qLenS' (n := (max n m)) Try.underlying23 (fun _ _ h => h) rfl)
      (lloop (counted (max n m) (fun j => ph (b_both_add z y n m k l ++ l_both_add_1 z y n m k l j)) (fun _ => 0) (fun j p hp => ph_app' (show p < (b_both_add z y n m k l).length from hp)) ⟨fun _ => rfl, fun _ _ h => h, fun _ _ _ => trivial, trivial⟩ (fun j hj => by
      skip
      exact ⟨(r_both_add_1_0, [.from 19, .from 18, .from 0]), rfl, ⟨fun _ _ h => h, fun _ _ h => h, fun _ _ _ => trivial, trivial⟩, (lbase (qTest (op := .lss) (fun _ _ h => h) (fun _ _ h => h) (ts_run (decide_eq_true (by omega)) (by simp)))
      (lbase (sCoef (z := z) (n := n) (i := j) (fun _ _ h => Rw.to (sz := 2) (n := n) (F := (fun ι w v => IntV w v (z ι) k)) (h) (fun i w v _ h => (fun _ _ _ h => h) i w v h)) (fun _ _ h => h) rfl (by omega) (fun h => (upto_lt h).symm) (fun h => if_neg (by omega)))
      (lbase (sCoef (z := y) (n := m) (i := j) (fun _ _ h => Rw.to (sz := 2) (n := m) (F := (fun ι w v => IntV w v (y ι) l)) (h) (fun i w v _ h => (fun _ _ _ h => h) i w v h)) (fun _ _ h => h) rfl (by omega) (fun h => (upto_lt h).symm) (fun h => if_neg (by omega)))
      (lbase (sAdd iI iI rfl (by omega) rfl)
      (lbase (qIdxJ (i := j) (sz := 2) (n := (max n m)) (F := (fun ι w v => NorV w v ((upto j (fun i => upto n z i + upto m y i)) ι) (k + l + 1))) Try.underlying23 (by kernel_rfl) (fun _ _ h => ArrO.arr h) (fun _ _ h => h) (by omega) rfl rfl)
      (lbase (qPutR (i := j) (n := (max n m)) (F := (fun ι w v => NorV w v ((upto j (fun i => upto n z i + upto m y i)) ι) (k + l + 1))) (F' := (fun ι w v => NorV w v ((upto (j + 1) (fun i => upto n z i + upto m y i)) ι) (k + l + 1))) (G := fun w v => NorV w v ((upto n z j) + (upto m y j)) (k + l + 1)) (.tmp 20) (.tmp 21) (by kernel_rfl) (fun _ _ h => h) (fun _ _ h => h) (by omega) (fun _ _ h => h) rfl (fun _ _ h => NorV.cells h) (fun _ _ _ _ g h => NorV.kp h g) (fun _ _ _ g h => NorV.kp h g) (fun i w v hi h => by rw [upto_ne hi]; exact h) (fun w v h => h.eq (upto_self j (fun i => upto n z i + upto m y i)).symm) rfl)
      (lbase (qAddK (fun _ _ h => h) (by omega) rfl (by omega) (by omega))
      lnil)))))))⟩)
      (lbase (qTest (op := .lss) (fun _ _ h => h) (fun _ _ h => h) (ts_run (decide_eq_false (by omega)) (by simp)))
      lnil)
      (fun q hq w v h => by
        simp only [d_both_add_1, List.mem_cons, List.not_mem_nil, or_false] at hq
        rcases hq with rfl
        · exact (fun h => h) h)) (lbase (onJ [1] (sTrim (z := (upto (max n m) (fun i => upto n z i + upto m y i))) (n := (max n m)) (k := (k + l + 1)) (F := (fun ι w v => NorV w v ((upto (max n m) (fun i => upto n z i + upto m y i)) ι) (k + l + 1))) (fun _ _ h => ArrO.rw h) (fun _ _ _ h => NorV.i h) (fun _ _ _ _ g h => NorV.kp h g) rfl (by omega) (by omega)))
      lnil))))))))
    (ins_ok [.fact 0 (.one (.s)), .fact 1 (.one (.s)), .lit (.fn 41)] ⟨fun _ _ h => Rw.is (sz := 2) (F := (fun ι w v => IntV w v (z ι) k)) (n := n) h, fun _ _ h => Rw.is (sz := 2) (F := (fun ι w v => IntV w v (y ι) l)) (n := m) h, (fun _ h => by cases h), trivial⟩) (fun _ _ _ h => h)

section
variable {Φ : Nat → World → Value → Prop} {p q x n m k l : Nat} {z y : Nat → Int} {L : List Int}
theorem sBoth_add (hp : ∀ w v, Φ p w v → Rw 2 (fun i w v => IntV w v (z i) k) n w v) (hq : ∀ w v, Φ q w v → Rw 2 (fun i w v => IntV w v (y i) l) m w v) (hx : Φ x = fun w v => Rw 2 (fun i w v => NorV w v (coef L i) (k + l + 1)) L.length w v) (hn : n ≤ 1000000) (hm : m ≤ 1000000) (hk : k ≤ 200000) (hl : l ≤ 200000) (hL : trimL (mk (max n m) (fun i => upto n z i + upto m y i)) = L) : SiteOk Φ Try.prog ⟨40, [.fact p, .fact q, .lit (.fn 41)], [⟨.one .s, [(0, 0, x)]⟩], false⟩ :=
  viaG (both_add hn hm hk hl) ⟨hp, hq, rfl, trivial⟩ ⟨⟨rfl, ⟨rfl, rfl, fun _ _ h => hx ▸ hL ▸ rowTrim h⟩, trivial⟩, trivial⟩

end
def b_padd (z y : Nat → Int) (n m k l : Nat) : List (World → Value → Prop) := [fun w v => Rw 2 (fun ι w v => IntV w v (z ι) k) n w v, fun w v => Rw 2 (fun ι w v => IntV w v (y ι) l) m w v, fun w v => Rw 2 (fun ι w v => NorV w v ((coef (trimL (mk (max n m) (fun i => upto n z i + upto m y i)))) ι) (k + l + 1)) ((trimL (mk (max n m) (fun i => upto n z i + upto m y i))).length) w v]
def ss_padd : List Step := [.base ⟨40, [.fact 0, .fact 1, .lit (.fn 41)], [⟨.one (.s), [(0, 0, 2)]⟩], false⟩]
def ins_padd : List Out := [⟨.one (.s), [(0, 0, 0)]⟩, ⟨.one (.s), [(0, 0, 1)]⟩]
set_option maxRecDepth 100000 in
theorem padd {z y : Nat → Int} {n m k l : Nat} (hn : n ≤ 1000000) (hm : m ≤ 1000000) (hk : k ≤ 200000) (hl : l ≤ 200000) : SiteOk (ph (b_padd z y n m k l)) Try.prog ⟨8, [.fact 0, .fact 1], [⟨.one (.s), [(0, 0, 2)]⟩], false⟩ := by
  skip
  exact fn_okL ins_padd [⟨.one (.s), [(0, 0, 2)]⟩] ss_padd Try.func8 (by kernel_rfl)
    (lbase (sBoth_add (fun _ _ h => Rw.to (sz := 2) (n := n) (F := (fun ι w v => IntV w v (z ι) k)) (h) (fun i w v _ h => (fun _ _ _ h => h) i w v h)) (fun _ _ h => Rw.to (sz := 2) (n := m) (F := (fun ι w v => IntV w v (y ι) l)) (h) (fun i w v _ h => (fun _ _ _ h => h) i w v h)) rfl (by omega) (by omega) (by omega) (by omega) rfl)
      lnil)
    (ins_ok [.fact 0 (.one (.s)), .fact 1 (.one (.s))] ⟨fun _ _ h => Rw.is (sz := 2) (F := (fun ι w v => IntV w v (z ι) k)) (n := n) h, fun _ _ h => Rw.is (sz := 2) (F := (fun ι w v => IntV w v (y ι) l)) (n := m) h, trivial⟩) (fun _ _ _ h => h)

section
variable {z y : Nat → Int} {l j i p : Nat}
theorem cvI_zero : cvI z y l j 0 p = cvS z y l j p := by
  unfold cvI
  rw [if_neg (by omega)]; omega
theorem cvI_ne (h : p ≠ j + i) : cvI z y l j (i + 1) p = cvI z y l j i p := by
  unfold cvI
  split <;> split <;> first | rfl | omega
theorem cvI_at : cvI z y l j i (j + i) + z j * y i = cvI z y l j (i + 1) (j + i) := by
  unfold cvI
  rw [if_neg (by omega), if_pos (by omega), show j + i - j = i by omega]; omega
end
def b_pmul (z y : Nat → Int) (n m k l K : Nat) : List (World → Value → Prop) := [fun w v => Rw 2 (fun ι w v => IntV w v (z ι) k) n w v, fun w v => Rw 2 (fun ι w v => IntV w v (y ι) l) m w v, fun w v => Rw 2 (fun ι w v => IntV w v (z ι) k) (tl z n) w v, fun w v => Rw 2 (fun ι w v => IntV w v (y ι) l) (tl y m) w v, fun _ v => v = .int .i64 (((tl z n) : Nat) : Int), fun _ v => v = .int .i64 (((tl y m) : Nat) : Int), fun _ v => v = .int .i64 (((tl z n) : Nat) : Int), fun _ v => v = .int .i64 (((tl y m) : Nat) : Int), fun _ v => v = .int .i64 ((((tl z n) + (tl y m)) : Nat) : Int), fun _ v => v = .int .i64 ((((tl z n) + (tl y m) - 1) : Nat) : Int), fun w v => ArrO 2 36 (fun ι w v => NorV w v ((cvS z y (tl y m) 0) ι) K) ((tl z n) + (tl y m) - 1) w v, fun _ v => v = .int .i64 (((tl z n) : Nat) : Int), fun w v => ArrO 2 36 (fun ι w v => NorV w v ((cvS z y (tl y m) (tl z n)) ι) K) ((tl z n) + (tl y m) - 1) w v]
def l_pmul_2 (z y : Nat → Int) (n m k l K : Nat) (j i : Nat) : List (World → Value → Prop) := [fun _ v => v = .int .i64 ((i : Nat) : Int), fun w v => ArrO 2 36 (fun ι w v => NorV w v ((cvI z y (tl y m) j i) ι) K) ((tl z n) + (tl y m) - 1) w v, fun _ _ => True, fun w v => Ptr 2 (fun w v => IntV w v (y i) l) w v, fun w v => IntV w v (y i) l, fun _ v => v = .int .i64 (((j + i) : Nat) : Int), fun _ v => v = .int .i64 (((j + i) : Nat) : Int), At 2, fun w v => Ptr 2 (fun w v => NorV w v ((cvI z y (tl y m) j i) (j + i)) K) w v, fun w v => NorV w v ((cvI z y (tl y m) j i) (j + i)) K, fun w v => NorV w v ((z j) * (y i)) (k + l), fun w v => NorV w v (((cvI z y (tl y m) j i) (j + i)) + ((z j) * (y i))) (K + (k + l) + 1), At 2, fun w v => Ptr 2 (fun w v => NorV w v ((cvI z y (tl y m) j i) (j + i)) K) w v, fun w v => ArrO 2 36 (fun ι w v => NorV w v ((cvI z y (tl y m) j (i + 1)) ι) K) ((tl z n) + (tl y m) - 1) w v, fun _ v => v = .int .i64 (((i + 1) : Nat) : Int)]
def d_pmul_2 : LoopD := ⟨[0, 1, 4, 6, 7, 10, 11, 12, 13, 14, 15, 16, 17, 18, 19, 20, 21, 22, 23, 24, 25, 26, 27, 28, 29, 30, 31, 32, 33, 34, 35, 36, 37], [(.slot 38, .i), (.slot 5, .s)], [(.one 0, 21), (.one 1, .at [1] 22), (.one 1, .lo 1)], [.closed (.one (.ci .i64 0)), .from 14, .from 0], 21, [(22, 19)]⟩
def r_pmul_2_0 : List Step := [.base ⟨0, [.fact 21, .fact 18], [⟨.one (.lit (.cb true)), []⟩], .quiet (mBin .lss)⟩,
      .base ⟨0, [.fact 3, .fact 21], [⟨.one (.p), [(0, 0, 24)]⟩], .quiet (mIdx 23)⟩,
      .base ⟨0, [.fact 24], [⟨.agg [.b, .s], [(0, 0, 25)]⟩], .quiet (mLoad 36)⟩,
      .base ⟨0, [.fact 13, .fact 21], [⟨.one (.i), [(0, 0, 26)]⟩], .quiet (mBin .add)⟩,
      .base ⟨0, [.fact 13, .fact 21], [⟨.one (.i), [(0, 0, 27)]⟩], .quiet (mBin .add)⟩,
      .base ⟨0, [.fact 22, .fact 27], [⟨.one (.p), [(0, 0, 29)]⟩], .joint [1] 28 (mIdx 23)⟩,
      .base ⟨0, [.fact 29], [⟨.agg [.b, .s], [(0, 0, 30)]⟩], .quietJ [1] (mLoad 36)⟩,
      .base ⟨52, [.fact 17, .fact 25], [⟨.agg [.b, .s], [(0, 0, 31)]⟩], false⟩,
      .base ⟨41, [.fact 30, .fact 31], [⟨.agg [.b, .s], [(0, 0, 32)]⟩], .callJ [1] false⟩,
      .base ⟨0, [.fact 22, .fact 26], [⟨.one (.p), [(0, 0, 34)]⟩], .joint [1] 33 (mIdx 23)⟩,
      .base ⟨0, [.fact 22, .fact 26, .any, .fact 32], [⟨.one .s, [(0, 0, 35)]⟩], .put [] 1 0 33 (mPut 36 (.tmp 43) (.tmp 46))⟩,
      .base ⟨0, [.fact 21, .lit (.ci .i64 1)], [⟨.one (.i), [(0, 0, 36)]⟩], .quiet (mBin .add)⟩]
def o_pmul_2 : List Step := [.base ⟨0, [.fact 21, .fact 18], [⟨.one (.lit (.cb false)), []⟩], .quiet (mBin .lss)⟩]
def l_pmul_1 (z y : Nat → Int) (n m k K : Nat) (j : Nat) : List (World → Value → Prop) := [fun _ v => v = .int .i64 ((j : Nat) : Int), fun w v => ArrO 2 36 (fun ι w v => NorV w v ((cvS z y (tl y m) j) ι) K) ((tl z n) + (tl y m) - 1) w v, fun _ _ => True, fun w v => Ptr 2 (fun w v => IntV w v (z j) k) w v, fun w v => IntV w v (z j) k, fun _ v => v = .int .i64 (((tl y m) : Nat) : Int), fun w v => ArrO 2 36 (fun ι w v => NorV w v ((cvI z y (tl y m) j (tl y m)) ι) K) ((tl z n) + (tl y m) - 1) w v, fun _ v => v = .int .i64 (((j + 1) : Nat) : Int)]
def d_pmul_1 : LoopD := ⟨[0, 1, 4, 10, 11, 12, 13, 14, 15, 16, 17, 18, 19, 20, 21, 22, 23, 24, 25, 26, 27, 28, 29, 30], [(.slot 31, .i), (.slot 5, .s)], [(.one 0, 13), (.one 1, .at [1] 14), (.one 1, .lo 1)], [.closed (.one (.ci .i64 0)), .from 10, .from 0], 13, [(14, 12)]⟩
def r_pmul_1_0 : List Step := [.base ⟨0, [.fact 13, .fact 11], [⟨.one (.lit (.cb true)), []⟩], .quiet (mBin .lss)⟩,
      .base ⟨0, [.fact 2, .fact 13], [⟨.one (.p), [(0, 0, 16)]⟩], .quiet (mIdx 23)⟩,
      .base ⟨0, [.fact 16], [⟨.agg [.b, .s], [(0, 0, 17)]⟩], .quiet (mLoad 36)⟩,
      .base ⟨0, [.fact 3], [⟨.one (.i), [(0, 0, 18)]⟩], .quiet (mLen 23)⟩,
      .loop d_pmul_2 [(r_pmul_2_0, [.from 36, .from 35, .from 0])] o_pmul_2,
      .base ⟨0, [.fact 13, .lit (.ci .i64 1)], [⟨.one (.i), [(0, 0, 20)]⟩], .quiet (mBin .add)⟩]
def o_pmul_1 : List Step := [.base ⟨0, [.fact 13, .fact 11], [⟨.one (.lit (.cb false)), []⟩], .quiet (mBin .lss)⟩]
def ss_pmul : List Step := [.base ⟨51, [.fact 0], [⟨.one (.s), [(0, 0, 2)]⟩], false⟩,
      .base ⟨51, [.fact 1], [⟨.one (.s), [(0, 0, 3)]⟩], false⟩,
      .base ⟨0, [.fact 2], [⟨.one (.i), [(0, 0, 4)]⟩], .quiet (mLen 23)⟩,
      .base ⟨0, [.fact 4, .lit (.ci .i64 0)], [⟨.one (.lit (.cb false)), []⟩], .quiet (mBin .eql)⟩,
      .base ⟨0, [.fact 3], [⟨.one (.i), [(0, 0, 5)]⟩], .quiet (mLen 23)⟩,
      .base ⟨0, [.fact 5, .lit (.ci .i64 0)], [⟨.one (.lit (.cb false)), []⟩], .quiet (mBin .eql)⟩,
      .base ⟨0, [.fact 2], [⟨.one (.i), [(0, 0, 6)]⟩], .quiet (mLen 23)⟩,
      .base ⟨0, [.fact 3], [⟨.one (.i), [(0, 0, 7)]⟩], .quiet (mLen 23)⟩,
      .base ⟨0, [.fact 6, .fact 7], [⟨.one (.i), [(0, 0, 8)]⟩], .quiet (mBin .add)⟩,
      .base ⟨0, [.fact 8, .lit (.ci .i64 1)], [⟨.one (.i), [(0, 0, 9)]⟩], .quiet (mBin .sub)⟩,
      .base ⟨0, [.fact 9, .fact 9], [⟨.one (.s), [(0, 0, 10)]⟩], .loose [] 1 0 (mMake 23)⟩,
      .base ⟨0, [.fact 2], [⟨.one (.i), [(0, 0, 11)]⟩], .quiet (mLen 23)⟩,
      .loop d_pmul_1 [(r_pmul_1_0, [.from 20, .from 19, .from 0])] o_pmul_1]
def ins_pmul : List Out := [⟨.one (.s), [(0, 0, 0)]⟩, ⟨.one (.s), [(0, 0, 1)]⟩]
set_option maxRecDepth 100000 in
theorem pmul {z y : Nat → Int} {n m k l K : Nat} (hn : n ≤ 400000) (hm : m ≤ 400000) (hk : k ≤ 100000) (hl : l ≤ 100000) (hK : K ≤ 300000) (h1 : 0 < (tl z n)) (h2 : 0 < (tl y m)) (hB : ∀ j i p, j < (tl z n) → i ≤ (tl y m) → Bd (cvI z y (tl y m) j i p).natAbs K) : SiteOk (ph (b_pmul z y n m k l K)) Try.prog ⟨16, [.fact 0, .fact 1], [⟨.one (.s), [(0, 0, 12)]⟩], false⟩ := by
  have hz := tl_le z n; have hy := tl_le y m
  exact fn_okL ins_pmul [⟨.one (.s), [(0, 0, 12)]⟩] ss_pmul Try.func16 (by kernel_rfl)
    (lbase (sTrim (z := z) (n := n) (k := k) (F := (fun ι w v => IntV w v (z ι) k)) (fun _ _ h => h) (fun _ _ _ h => h) (fun _ _ _ _ g h => IntV.kp h g) rfl (by omega) (by omega))
      (lbase (sTrim (z := y) (n := m) (k := l) (F := (fun ι w v => IntV w v (y ι) l)) (fun _ _ h => h) (fun _ _ _ h => h) (fun _ _ _ _ g h => IntV.kp h g) rfl (by omega) (by omega))
      (lbase (qLen (sz := 2) (n := (tl z n)) (F := (fun ι w v => IntV w v (z ι) k)) Try.underlying23 (fun _ _ h => Rw.arr h) rfl)
      (lbase (qTestC (op := .eql) (fun _ _ h => h) (ts_run (decide_eq_false (by omega)) (by simp)))
      (lbase (qLen (sz := 2) (n := (tl y m)) (F := (fun ι w v => IntV w v (y ι) l)) Try.underlying23 (fun _ _ h => Rw.arr h) rfl)
      (lbase (qTestC (op := .eql) (fun _ _ h => h) (ts_run (decide_eq_false (by omega)) (by simp)))
      (lbase (qLen (sz := 2) (n := (tl z n)) (F := (fun ι w v => IntV w v (z ι) k)) Try.underlying23 (fun _ _ h => Rw.arr h) rfl)
      (lbase (qLen (sz := 2) (n := (tl y m)) (F := (fun ι w v => IntV w v (y ι) l)) Try.underlying23 (fun _ _ h => Rw.arr h) rfl)
      (lbase (qAddJ (fun _ _ h => h) (fun _ _ h => h) (by omega) rfl (by omega) (by omega))
      (lbase (qSubK (fun _ _ h => h) (by omega) rfl (by omega) (by omega))
      (lbase (qMakeI (n := ((tl z n) + (tl y m) - 1)) (F := (fun ι w v => NorV w v ((cvS z y (tl y m) 0) ι) K)) (fun _ _ h => h) (by omega) (fun i w => NorV.zero w K) rfl)
      (lbase (qLen (sz := 2) (n := (tl z n)) (F := (fun ι w v => IntV w v (z ι) k)) Try.underlying23 (fun _ _ h => Rw.arr h) rfl)
      (lloop (counted (tl z n) (fun j => ph (b_pmul z y n m k l K ++ l_pmul_1 z y n m k K j)) (fun _ => 0) (fun j p hp => ph_app' (show p < (b_pmul z y n m k l K).length from hp)) ⟨fun _ => rfl, fun _ _ h => h, fun _ _ _ => trivial, trivial⟩ (fun j hj => by
      skip
      exact ⟨(r_pmul_1_0, [.from 20, .from 19, .from 0]), rfl, ⟨fun _ _ h => h, fun _ _ h => h, fun _ _ _ => trivial, trivial⟩, (lbase (qTest (op := .lss) (fun _ _ h => h) (fun _ _ h => h) (ts_run (decide_eq_true (by omega)) (by simp)))
      (lbase (qIdx (i := j) (sz := 2) (n := (tl z n)) (F := (fun ι w v => IntV w v (z ι) k)) Try.underlying23 (by kernel_rfl) (fun _ _ h => Rw.arr h) (fun _ _ h => h) (by omega) rfl)
      (lbase (qLoad (sz := 2) (F := fun w v => IntV w v (z j) k) (by kernel_rfl) (by kernel_rfl) (fun _ _ h => h) (fun _ _ _ g h => IntV.kp h g) (fun _ _ h => IntV.is h) rfl)
      (lbase (qLen (sz := 2) (n := (tl y m)) (F := (fun ι w v => IntV w v (y ι) l)) Try.underlying23 (fun _ _ h => Rw.arr h) rfl)
      (lloop (counted (tl y m) (fun i => ph ((b_pmul z y n m k l K ++ l_pmul_1 z y n m k K j) ++ l_pmul_2 z y n m k l K j i)) (fun _ => 0) (fun i p hp => ph_app' (show p < (b_pmul z y n m k l K ++ l_pmul_1 z y n m k K j).length from hp)) ⟨fun _ => rfl, fun _ _ h => ArrO.to (sz := 2) (e := 36) (n := ((tl z n) + (tl y m) - 1)) (F := (fun ι w v => NorV w v ((cvS z y (tl y m) j) ι) K)) (G := (fun ι w v => NorV w v ((cvI z y (tl y m) j 0) ι) K)) h fun a w v ha h => by rw [cvI_zero]; exact h, fun _ _ _ => trivial, trivial⟩ (fun i hi => by
      skip
      exact ⟨(r_pmul_2_0, [.from 36, .from 35, .from 0]), rfl, ⟨fun _ _ h => h, fun _ _ h => h, fun _ _ _ => trivial, trivial⟩, (lbase (qTest (op := .lss) (fun _ _ h => h) (fun _ _ h => h) (ts_run (decide_eq_true (by omega)) (by simp)))
      (lbase (qIdx (i := i) (sz := 2) (n := (tl y m)) (F := (fun ι w v => IntV w v (y ι) l)) Try.underlying23 (by kernel_rfl) (fun _ _ h => Rw.arr h) (fun _ _ h => h) (by omega) rfl)
      (lbase (qLoad (sz := 2) (F := fun w v => IntV w v (y i) l) (by kernel_rfl) (by kernel_rfl) (fun _ _ h => h) (fun _ _ _ g h => IntV.kp h g) (fun _ _ h => IntV.is h) rfl)
      (lbase (qAddJ (fun _ _ h => h) (fun _ _ h => h) (by omega) rfl (by omega) (by omega))
      (lbase (qAddJ (fun _ _ h => h) (fun _ _ h => h) (by omega) rfl (by omega) (by omega))
      (lbase (qIdxJ (i := (j + i)) (sz := 2) (n := ((tl z n) + (tl y m) - 1)) (F := (fun ι w v => NorV w v ((cvI z y (tl y m) j i) ι) K)) Try.underlying23 (by kernel_rfl) (fun _ _ h => ArrO.arr h) (fun _ _ h => h) (by omega) rfl rfl)
      (lbase (qLoad (sz := 2) (F := fun w v => NorV w v ((cvI z y (tl y m) j i) (j + i)) K) (by kernel_rfl) (by kernel_rfl) (fun _ _ h => h) (fun _ _ _ g h => NorV.kp h g) (fun _ _ h => NorV.is h) rfl)
      (lbase (sMul iI iI rfl (by omega) rfl)
      (lbase (onJ [1] (sAdd nI nI rfl (by omega) rfl))
      (lbase (qIdxJ (i := (j + i)) (sz := 2) (n := ((tl z n) + (tl y m) - 1)) (F := (fun ι w v => NorV w v ((cvI z y (tl y m) j i) ι) K)) Try.underlying23 (by kernel_rfl) (fun _ _ h => ArrO.arr h) (fun _ _ h => h) (by omega) rfl rfl)
      (lbase (qPutR (i := (j + i)) (n := ((tl z n) + (tl y m) - 1)) (F := (fun ι w v => NorV w v ((cvI z y (tl y m) j i) ι) K)) (F' := (fun ι w v => NorV w v ((cvI z y (tl y m) j (i + 1)) ι) K)) (G := fun w v => NorV w v (((cvI z y (tl y m) j i) (j + i)) + ((z j) * (y i))) (K + (k + l) + 1)) (.tmp 43) (.tmp 46) (by kernel_rfl) (fun _ _ h => h) (fun _ _ h => h) (by omega) (fun _ _ h => h) rfl (fun _ _ h => NorV.cells h) (fun _ _ _ _ g h => NorV.kp h g) (fun _ _ _ g h => NorV.kp h g) (fun a w v ha h => by rw [cvI_ne ha]; exact h) (fun w v h => NorV.re (h.eq cvI_at) (hB j (i + 1) (j + i) (by omega) (by omega))) rfl)
      (lbase (qAddK (fun _ _ h => h) (by omega) rfl (by omega) (by omega))
      lnil))))))))))))⟩)
      (lbase (qTest (op := .lss) (fun _ _ h => h) (fun _ _ h => h) (ts_run (decide_eq_false (by omega)) (by simp)))
      lnil)
      (fun q hq w v h => by
        simp only [d_pmul_2, List.mem_cons, List.not_mem_nil, or_false] at hq
        rcases hq with rfl
        · exact (fun h => h) h)) (lbase (qAddK (fun _ _ h => h) (by omega) rfl (by omega) (by omega))
      lnil))))))⟩)
      (lbase (qTest (op := .lss) (fun _ _ h => h) (fun _ _ h => h) (ts_run (decide_eq_false (by omega)) (by simp)))
      lnil)
      (fun q hq w v h => by
        simp only [d_pmul_1, List.mem_cons, List.not_mem_nil, or_false] at hq
        rcases hq with rfl
        · exact (fun h => h) h)) lnil)))))))))))))
    (ins_ok [.fact 0 (.one (.s)), .fact 1 (.one (.s))] ⟨fun _ _ h => Rw.is (sz := 2) (F := (fun ι w v => IntV w v (z ι) k)) (n := n) h, fun _ _ h => Rw.is (sz := 2) (F := (fun ι w v => IntV w v (y ι) l)) (n := m) h, trivial⟩) (fun _ _ _ h => h)

def b_pmul_0 (z y : Nat → Int) (n m k l : Nat) : List (World → Value → Prop) := [fun w v => Rw 2 (fun ι w v => IntV w v (z ι) k) n w v, fun w v => Rw 2 (fun ι w v => IntV w v (y ι) l) m w v, fun w v => Rw 2 (fun ι w v => IntV w v (z ι) k) (tl z n) w v, fun w v => Rw 2 (fun ι w v => IntV w v (y ι) l) (tl y m) w v, fun _ v => v = .int .i64 (((tl z n) : Nat) : Int)]
def ss_pmul_0 : List Step := [.base ⟨51, [.fact 0], [⟨.one (.s), [(0, 0, 2)]⟩], false⟩,
      .base ⟨51, [.fact 1], [⟨.one (.s), [(0, 0, 3)]⟩], false⟩,
      .base ⟨0, [.fact 2], [⟨.one (.i), [(0, 0, 4)]⟩], .quiet (mLen 23)⟩,
      .base ⟨0, [.fact 4, .lit (.ci .i64 0)], [⟨.one (.lit (.cb true)), []⟩], .quiet (mBin .eql)⟩]
def ins_pmul_0 : List Out := [⟨.one (.s), [(0, 0, 0)]⟩, ⟨.one (.s), [(0, 0, 1)]⟩]
set_option maxRecDepth 100000 in
theorem pmul_0 {z y : Nat → Int} {n m k l : Nat} (hn : n ≤ 400000) (hm : m ≤ 400000) (hk : k ≤ 100000) (hl : l ≤ 100000) (h1 : (tl z n) = 0) : SiteOk (ph (b_pmul_0 z y n m k l)) Try.prog ⟨16, [.fact 0, .fact 1], [⟨.one (.lit (.nl)), []⟩], false⟩ := by
  have hz := tl_le z n; have hy := tl_le y m
  exact fn_okL ins_pmul_0 [⟨.one (.lit (.nl)), []⟩] ss_pmul_0 Try.func16 (by kernel_rfl)
    (lbase (sTrim (z := z) (n := n) (k := k) (F := (fun ι w v => IntV w v (z ι) k)) (fun _ _ h => h) (fun _ _ _ h => h) (fun _ _ _ _ g h => IntV.kp h g) rfl (by omega) (by omega))
      (lbase (sTrim (z := y) (n := m) (k := l) (F := (fun ι w v => IntV w v (y ι) l)) (fun _ _ h => h) (fun _ _ _ h => h) (fun _ _ _ _ g h => IntV.kp h g) rfl (by omega) (by omega))
      (lbase (qLen (sz := 2) (n := (tl z n)) (F := (fun ι w v => IntV w v (z ι) k)) Try.underlying23 (fun _ _ h => Rw.arr h) rfl)
      (lbase (qTestC (op := .eql) (fun _ _ h => h) (ts_run (decide_eq_true (by omega)) (by simp)))
      lnil))))
    (ins_ok [.fact 0 (.one (.s)), .fact 1 (.one (.s))] ⟨fun _ _ h => Rw.is (sz := 2) (F := (fun ι w v => IntV w v (z ι) k)) (n := n) h, fun _ _ h => Rw.is (sz := 2) (F := (fun ι w v => IntV w v (y ι) l)) (n := m) h, trivial⟩) (fun _ _ _ h => h)

def b_pmul_1 (z y : Nat → Int) (n m k l : Nat) : List (World → Value → Prop) := [fun w v => Rw 2 (fun ι w v => IntV w v (z ι) k) n w v, fun w v => Rw 2 (fun ι w v => IntV w v (y ι) l) m w v, fun w v => Rw 2 (fun ι w v => IntV w v (z ι) k) (tl z n) w v, fun w v => Rw 2 (fun ι w v => IntV w v (y ι) l) (tl y m) w v, fun _ v => v = .int .i64 (((tl z n) : Nat) : Int), fun _ v => v = .int .i64 (((tl y m) : Nat) : Int)]
def ss_pmul_1 : List Step := [.base ⟨51, [.fact 0], [⟨.one (.s), [(0, 0, 2)]⟩], false⟩,
      .base ⟨51, [.fact 1], [⟨.one (.s), [(0, 0, 3)]⟩], false⟩,
      .base ⟨0, [.fact 2], [⟨.one (.i), [(0, 0, 4)]⟩], .quiet (mLen 23)⟩,
      .base ⟨0, [.fact 4, .lit (.ci .i64 0)], [⟨.one (.lit (.cb false)), []⟩], .quiet (mBin .eql)⟩,
      .base ⟨0, [.fact 3], [⟨.one (.i), [(0, 0, 5)]⟩], .quiet (mLen 23)⟩,
      .base ⟨0, [.fact 5, .lit (.ci .i64 0)], [⟨.one (.lit (.cb true)), []⟩], .quiet (mBin .eql)⟩]
def ins_pmul_1 : List Out := [⟨.one (.s), [(0, 0, 0)]⟩, ⟨.one (.s), [(0, 0, 1)]⟩]
set_option maxRecDepth 100000 in
theorem pmul_1 {z y : Nat → Int} {n m k l : Nat} (hn : n ≤ 400000) (hm : m ≤ 400000) (hk : k ≤ 100000) (hl : l ≤ 100000) (h1 : 0 < (tl z n)) (h2 : (tl y m) = 0) : SiteOk (ph (b_pmul_1 z y n m k l)) Try.prog ⟨16, [.fact 0, .fact 1], [⟨.one (.lit (.nl)), []⟩], false⟩ := by
  have hz := tl_le z n; have hy := tl_le y m
  exact fn_okL ins_pmul_1 [⟨.one (.lit (.nl)), []⟩] ss_pmul_1 Try.func16 (by kernel_rfl)
    (lbase (sTrim (z := z) (n := n) (k := k) (F := (fun ι w v => IntV w v (z ι) k)) (fun _ _ h => h) (fun _ _ _ h => h) (fun _ _ _ _ g h => IntV.kp h g) rfl (by omega) (by omega))
      (lbase (sTrim (z := y) (n := m) (k := l) (F := (fun ι w v => IntV w v (y ι) l)) (fun _ _ h => h) (fun _ _ _ h => h) (fun _ _ _ _ g h => IntV.kp h g) rfl (by omega) (by omega))
      (lbase (qLen (sz := 2) (n := (tl z n)) (F := (fun ι w v => IntV w v (z ι) k)) Try.underlying23 (fun _ _ h => Rw.arr h) rfl)
      (lbase (qTestC (op := .eql) (fun _ _ h => h) (ts_run (decide_eq_false (by omega)) (by simp)))
      (lbase (qLen (sz := 2) (n := (tl y m)) (F := (fun ι w v => IntV w v (y ι) l)) Try.underlying23 (fun _ _ h => Rw.arr h) rfl)
      (lbase (qTestC (op := .eql) (fun _ _ h => h) (ts_run (decide_eq_true (by omega)) (by simp)))
      lnil))))))
    (ins_ok [.fact 0 (.one (.s)), .fact 1 (.one (.s))] ⟨fun _ _ h => Rw.is (sz := 2) (F := (fun ι w v => IntV w v (z ι) k)) (n := n) h, fun _ _ h => Rw.is (sz := 2) (F := (fun ι w v => IntV w v (y ι) l)) (n := m) h, trivial⟩) (fun _ _ _ h => h)

end Go.Proofs.Yteblgmjpociffaa.Sym

namespace Go.Proofs.Yteblgmjpociffaa.Sym
open Go.RowKit
def conv (f g : Nat → Int) : Nat → Int
  | 0 => f 0 * g 0
  | p + 1 => f 0 * g (p + 1) + conv (fun x => f (x + 1)) g p
theorem conv_last : ∀ (p : Nat) (f g : Nat → Int), conv f g (p + 1) = conv f (fun x => g (x + 1)) p + f (p + 1) * g 0
  | 0, f, g => rfl
  | p + 1, f, g => by
    rw [conv, conv_last p (fun x => f (x + 1)) g]
    simp only [conv]
    omega
theorem conv_comm : ∀ (p : Nat) (f g : Nat → Int), conv f g p = conv g f p
  | 0, f, g => Int.mul_comm _ _
  | p + 1, f, g => by
    rw [conv, conv_last p g f, conv_comm p (fun x => f (x + 1)) g, Int.mul_comm (f 0)]
    omega
theorem conv_congr : ∀ {p : Nat} {f f' g g' : Nat → Int}, (∀ i, i ≤ p → f i = f' i) → (∀ i, i ≤ p → g i = g' i) → conv f g p = conv f' g' p
  | 0, _, _, _, _, hf, hg => by simp only [conv]; rw [hf 0 (Nat.le_refl _), hg 0 (Nat.le_refl _)]
  | p + 1, _, _, _, _, hf, hg => by
    simp only [conv]
    rw [hf 0 (by omega), hg (p + 1) (Nat.le_refl _), conv_congr (fun i hi => hf (i + 1) (by omega)) (fun i hi => hg i (by omega))]
theorem upto_coef (L : List Int) (i : Nat) : upto L.length (coef L) i = coef L i := by
  unfold upto
  split
  · rfl
  · exact (coef_out (by omega)).symm
theorem coef_fill {n : Nat} {f : Nat → Int} (h : ∀ i, n ≤ i → f i = 0) (i : Nat) : coef (trimL (mk n f)) i = f i := by
  rw [coef_trim, coef_mk]
  split
  · rfl
  · exact (h i (by omega)).symm
theorem upto_out {n i : Nat} {f : Nat → Int} (h : n ≤ i) : upto n f i = 0 := if_neg (by omega)
theorem coef_add (n m : Nat) (z y : Nat → Int) (i : Nat) : coef (trimL (mk (max n m) (fun i => upto n z i + upto m y i))) i = upto n z i + upto m y i :=
  coef_fill (fun i hi => by rw [upto_out (by omega), upto_out (by omega)]; rfl) i
theorem Bd.add1' {A B i : Nat} (h : Bd A i) (k : Bd B i) : Bd (A + B) (i + 1) := by
  unfold Bd at *
  rw [Nat.pow_succ]
  generalize 4294967296 ^ i = M at *
  omega
/-- Sums up to a place. -/
def sumTo (f : Nat → Int) : Nat → Int
  | 0 => 0
  | n + 1 => sumTo f n + f n
theorem sumTo_congr {f g : Nat → Int} : ∀ {n : Nat}, (∀ i, i < n → f i = g i) → sumTo f n = sumTo g n
  | 0, _ => rfl
  | n + 1, h => by simp only [sumTo]; rw [sumTo_congr fun i hi => h i (by omega), h n (by omega)]
theorem sumTo_more {f : Nat → Int} {n : Nat} : ∀ {k : Nat}, (∀ i, n ≤ i → i < n + k → f i = 0) → sumTo f (n + k) = sumTo f n
  | 0, _ => rfl
  | k + 1, h => by
    rw [show n + (k + 1) = (n + k) + 1 by omega, sumTo, sumTo_more fun i h1 h2 => h i h1 (by omega), h (n + k) (by omega) (by omega)]
    omega
theorem sumTo_first (f : Nat → Int) : ∀ n, sumTo f (n + 1) = f 0 + sumTo (fun i => f (i + 1)) n
  | 0 => by simp [sumTo]
  | n + 1 => by
    rw [sumTo, sumTo_first f n]
    simp only [sumTo]
    omega
theorem conv_sum : ∀ (p : Nat) (f g : Nat → Int), conv f g p = sumTo (fun x => f x * g (p - x)) (p + 1)
  | 0, f, g => by simp [conv, sumTo]
  | p + 1, f, g => by
    rw [conv, conv_sum p, sumTo_first (fun x => f x * g (p + 1 - x)) (p + 1)]
    refine congrArg (f 0 * g (p + 1) + ·) (sumTo_congr fun i _ => ?_)
    show f (i + 1) * g (p - i) = f (i + 1) * g (p + 1 - (i + 1))
    rw [Nat.add_sub_add_right]
theorem cvS_sum (z y : Nat → Int) (l p : Nat) : ∀ j, cvS z y l j p = sumTo (fun x => if x ≤ p ∧ p < x + l then z x * y (p - x) else 0) j
  | 0 => rfl
  | j + 1 => by rw [cvS, cvS_sum z y l p j]; rfl
theorem tl_out {z : Nat → Int} {n i : Nat} (h : tl z n ≤ i) : upto n z i = 0 := by
  unfold upto
  split
  · rename_i hi
    exact tl_zero z n i h hi
  · rfl
/-- The numbers that Mul leaves are those of the product. -/
theorem cvS_conv (z y : Nat → Int) (n m p : Nat) : cvS z y (tl y m) (tl z n) p = conv (upto n z) (upto m y) p := by
  rw [cvS_sum, conv_sum]
  have hz := tl_le z n
  have hy := tl_le y m
  have e1 : sumTo (fun x => if x ≤ p ∧ p < x + tl y m then z x * y (p - x) else 0) (tl z n) = sumTo (fun x => if x ≤ p then upto n z x * upto m y (p - x) else 0) (tl z n) := sumTo_congr fun x hx => by
    by_cases h1 : x ≤ p
    · rw [if_pos h1, upto_lt (by omega)]
      by_cases h2 : p < x + tl y m
      · rw [if_pos ⟨h1, h2⟩, upto_lt (by omega)]
      · rw [if_neg (fun h => h2 h.2), tl_out (by omega), Int.mul_zero]
    · rw [if_neg (fun h => h1 h.1), if_neg h1]
  have e2 : sumTo (fun x => upto n z x * upto m y (p - x)) (p + 1) = sumTo (fun x => if x ≤ p then upto n z x * upto m y (p - x) else 0) (p + 1) := sumTo_congr fun x hx => (if_pos (by omega)).symm
  rw [e1, e2]
  rcases Nat.le_total (tl z n) (p + 1) with h | h
  · have := sumTo_more (f := fun x => if x ≤ p then upto n z x * upto m y (p - x) else 0) (n := tl z n) (k := p + 1 - tl z n) fun i h1 _ => by
      rw [tl_out h1, Int.zero_mul]
      split <;> rfl
    rw [show tl z n + (p + 1 - tl z n) = p + 1 by omega] at this
    exact this.symm
  · have := sumTo_more (f := fun x => if x ≤ p then upto n z x * upto m y (p - x) else 0) (n := p + 1) (k := tl z n - (p + 1)) fun i h1 _ => if_neg (by omega)
    rw [show p + 1 + (tl z n - (p + 1)) = tl z n by omega] at this
    exact this
/-- A product's length, and its top. -/
theorem cvS_top {z y : Nat → Int} {l m : Nat} (hl : 0 < l) : ∀ {j}, j ≤ m → cvS z y l j (m + l - 1) = 0
  | 0, _ => rfl
  | j + 1, h => by
    rw [cvS, cvS_top hl (by omega), if_neg (by omega)]; rfl
theorem cvS_lead {z y : Nat → Int} {l m : Nat} (hl : 0 < l) : cvS z y l (m + 1) (m + l - 1) = z m * y (l - 1) := by
  rw [cvS, cvS_top hl (Nat.le_refl _), if_pos (by omega), show m + l - 1 - m = l - 1 by omega, Int.zero_add]
def mulL (z : Nat → Int) (n : Nat) (y : Nat → Int) (m : Nat) : List Int := if tl z n = 0 ∨ tl y m = 0 then [] else mk (tl z n + tl y m - 1) (cvS z y (tl y m) (tl z n))
theorem conv_zeroL : ∀ {f g : Nat → Int}, (∀ i, f i = 0) → ∀ p, conv f g p = 0
  | _, _, h, 0 => by simp only [conv]; rw [h, Int.zero_mul]
  | _, _, h, p + 1 => by
    simp only [conv]
    rw [h, Int.zero_mul, Int.zero_add, conv_zeroL (fun i => h (i + 1)) p]
theorem conv_out {f g : Nat → Int} {a b p : Nat} (hf : ∀ i, a ≤ i → f i = 0) (hg : ∀ i, b ≤ i → g i = 0) (h : a + b ≤ p + 1) : conv f g p = 0 := by
  rw [conv_sum, show p + 1 = 0 + (p + 1) by omega, sumTo_more (n := 0) fun i _ hi => ?_]
  · rfl
  · rcases Nat.lt_or_ge i a with h1 | h1
    · rw [hg _ (by omega), Int.mul_zero]
    · rw [hf _ h1, Int.zero_mul]
theorem coef_mul (z : Nat → Int) (n : Nat) (y : Nat → Int) (m p : Nat) : coef (mulL z n y m) p = conv (upto n z) (upto m y) p := by
  unfold mulL
  split
  · rename_i h
    rw [coef_out (by simp)]
    rcases h with h | h
    · exact (conv_zeroL (fun i => tl_out (by omega)) p).symm
    · rw [conv_comm]; exact (conv_zeroL (fun i => tl_out (by omega)) p).symm
  · rename_i h
    rw [coef_mk]
    split
    · exact cvS_conv z y n m p
    · exact (conv_out (a := tl z n) (b := tl y m) (fun i hi => tl_out hi) (fun i hi => tl_out hi) (by omega)).symm
theorem mulL_length {z : Nat → Int} {n : Nat} {y : Nat → Int} {m : Nat} (h1 : 0 < tl z n) (h2 : 0 < tl y m) : (mulL z n y m).length = tl z n + tl y m - 1 := by
  unfold mulL
  rw [if_neg (by omega), mk_length]
theorem mulL_le (z : Nat → Int) (n : Nat) (y : Nat → Int) (m : Nat) : (mulL z n y m).length ≤ n + m := by
  have := tl_le z n
  have := tl_le y m
  unfold mulL
  split
  · simp
  · rw [mk_length]; omega
theorem mulL_top {z : Nat → Int} {n : Nat} {y : Nat → Int} {m : Nat} (h1 : 0 < tl z n) (h2 : 0 < tl y m) : coef (mulL z n y m) (tl z n + tl y m - 2) = z (tl z n - 1) * y (tl y m - 1) := by
  unfold mulL
  rw [if_neg (by omega), coef_mk, if_pos (by omega)]
  obtain ⟨a, ha⟩ : ∃ a, tl z n = a + 1 := ⟨tl z n - 1, by omega⟩
  have := cvS_lead (z := z) (y := y) (l := tl y m) (m := a) h2
  rw [ha, show a + 1 + tl y m - 2 = a + tl y m - 1 by omega, this, Nat.add_sub_cancel]
theorem mulL_nrm (z : Nat → Int) (n : Nat) (y : Nat → Int) (m : Nat) : Nrm (mulL z n y m) := fun h => by
  by_cases h0 : tl z n = 0 ∨ tl y m = 0
  · unfold mulL at h
    rw [if_pos h0] at h
    simp at h
  · rw [mulL_length (by omega) (by omega), show tl z n + tl y m - 1 - 1 = tl z n + tl y m - 2 by omega, mulL_top (by omega) (by omega)]
    exact Int.mul_ne_zero (tl_last z n (by omega)) (tl_last y m (by omega))
/-- The sizes on the way to a product. -/
theorem cvS_bd {z y : Nat → Int} {l k k' c n : Nat} (hz : ∀ i, i < n → Bd (z i).natAbs k) (hy : ∀ i, i < l → Bd (y i).natAbs k') : ∀ {j}, j ≤ n → j ≤ c → ∀ p, Bd (cvS z y l j p).natAbs (k + k' + j)
  | 0, _, _, p => Nat.pow_pos (by omega)
  | j + 1, h1, h2, p => by
    have h3 := cvS_bd (c := c) hz hy (j := j) (by omega) (by omega) p
    rw [cvS]
    have h4 : Bd (if j ≤ p ∧ p < j + l then z j * y (p - j) else 0).natAbs (k + k' + j) := by
      split
      · rw [Int.natAbs_mul]
        exact (Bd.mul (hz j (by omega)) (hy _ (by omega))).more (by omega)
      · exact Nat.pow_pos (by omega)
    exact (Bd.add1' h3 h4).le (Int.natAbs_add_le _ _)
theorem cvI_bd {z y : Nat → Int} {l k k' c n i : Nat} (hz : ∀ i, i < n → Bd (z i).natAbs k) (hy : ∀ i, i < l → Bd (y i).natAbs k') {j : Nat} (h1 : j < n) (h2 : n ≤ c) (hi : i ≤ l) (p : Nat) : Bd (cvI z y l j i p).natAbs (k + k' + c + 1) := by
  have h3 := cvS_bd (c := c) hz hy (j := j) (by omega) (by omega) p
  have h4 : Bd (if j ≤ p ∧ p < j + i then z j * y (p - j) else 0).natAbs (k + k' + j) := by
    split
    · rw [Int.natAbs_mul]
      exact (Bd.mul (hz j h1) (hy _ (by omega))).more (by omega)
    · exact Nat.pow_pos (by omega)
  exact ((Bd.add1' h3 h4).le (Int.natAbs_add_le _ _)).more (by omega)
end Go.Proofs.Yteblgmjpociffaa.Sym

namespace Go.Proofs.Yteblgmjpociffaa.Sym
open Go.RowKit
section
variable {Φ : Nat → World → Value → Prop} {p q x n m k l c : Nat} {z y : Nat → Int} {L : List Int}
theorem sAddP (hp : ∀ w v, Φ p w v → Rw 2 (fun i w v => IntV w v (z i) k) n w v) (hq : ∀ w v, Φ q w v → Rw 2 (fun i w v => IntV w v (y i) l) m w v) (hx : Φ x = fun w v => Rw 2 (fun i w v => NorV w v (coef L i) (k + l + 1)) L.length w v) (hn : n ≤ 1000000) (hm : m ≤ 1000000) (hk : k ≤ 200000) (hl : l ≤ 200000) (hL : trimL (mk (max n m) (fun i => upto n z i + upto m y i)) = L) : SiteOk Φ Try.prog ⟨8, [.fact p, .fact q], [⟨.one .s, [(0, 0, x)]⟩], false⟩ :=
  viaG (padd hn hm hk hl) ⟨hp, hq, trivial⟩ ⟨⟨rfl, ⟨rfl, rfl, fun _ _ h => hx ▸ hL ▸ h⟩, trivial⟩, trivial⟩
theorem row_bd {w : World} {v : Value} (h : Rw 2 (fun i w v => IntV w v (z i) k) n w v) (i : Nat) (hi : i < n) : Bd (z i).natAbs k := by
  obtain ⟨_, _, _, _, h1⟩ := h
  obtain ⟨_, _, _, l, _, _, h2⟩ := h1 i hi
  exact IntV.bd' h2
theorem nil_is {X : Nat → Prop} {w : World} {us : List Value} {K : Nat} (hx : Φ x = fun w v => Rw 2 (fun i w v => NorV w v (coef L i) K) L.length w v) (hL : L = []) (h : outsOk Φ X w [⟨.one (.lit .nl), []⟩] us) : outsOk Φ X w [⟨.one .s, [(0, 0, x)]⟩] us := by
  subst hL
  match us, h with
  | [u], h =>
    obtain rfl : u = .slice none 0 0 := h.1.1.1
    exact one_out ⟨⟨_, _, _, rfl⟩, fun _ h => by cases h⟩ hx fun w1 _ => Rw.nil 2 _ w1
theorem sPMul (hp : ∀ w v, Φ p w v → Rw 2 (fun i w v => IntV w v (z i) k) n w v) (hq : ∀ w v, Φ q w v → Rw 2 (fun i w v => IntV w v (y i) l) m w v) (hx : Φ x = fun w v => Rw 2 (fun i w v => NorV w v (coef L i) (k + l + c + 1)) L.length w v) (hn : n ≤ c) (hm : m ≤ 400000) (hc : c ≤ 1000) (hk : k ≤ 100000) (hl : l ≤ 100000) (hL : mulL z n y m = L) : SiteOk Φ Try.prog ⟨16, [.fact p, .fact q], [⟨.one .s, [(0, 0, x)]⟩], false⟩ := fun X w vs hX ha => by
  match vs, ha with
  | [v, u], ha =>
    have hz := row_bd (hp _ _ (ha.1 w (Off.refl _ _)))
    have hy := row_bd (hq _ _ (ha.2.1 w (Off.refl _ _)))
    have hzl := tl_le z n
    have hyl := tl_le y m
    rcases Nat.eq_zero_or_pos (tl z n) with h1 | h1
    · exact (viaG (outs := [⟨.one (.lit .nl), []⟩]) (Φ := Φ) (ar := [.fact p, .fact q]) (pmul_0 (z := z) (y := y) (n := n) (m := m) (k := k) (l := l) (by omega) hm hk hl h1) ⟨hp, hq, trivial⟩ ⟨⟨rfl, trivial⟩, trivial⟩ X w [v, u] hX ha).mono fun e w' ⟨hg, us, he, h2⟩ => ⟨hg, us, he, nil_is hx (by rw [← hL, mulL, if_pos (.inl h1)]) h2⟩
    rcases Nat.eq_zero_or_pos (tl y m) with h2 | h2
    · exact (viaG (outs := [⟨.one (.lit .nl), []⟩]) (Φ := Φ) (ar := [.fact p, .fact q]) (pmul_1 (z := z) (y := y) (n := n) (m := m) (k := k) (l := l) (by omega) hm hk hl h1 h2) ⟨hp, hq, trivial⟩ ⟨⟨rfl, trivial⟩, trivial⟩ X w [v, u] hX ha).mono fun e w' ⟨hg, us, he, h2'⟩ => ⟨hg, us, he, nil_is hx (by rw [← hL, mulL, if_pos (.inr h2)]) h2'⟩
    · refine viaG (Φ := Φ) (ar := [.fact p, .fact q]) (outs := [⟨.one .s, [(0, 0, x)]⟩]) (pmul (z := z) (y := y) (n := n) (m := m) (k := k) (l := l) (K := k + l + c + 1) (by omega) hm hk hl (by omega) h1 h2 fun j i p hj hi => cvI_bd (n := tl z n) (l := tl y m) (c := c) (fun i hi => hz i (by omega)) (fun i hi => hy i (by omega)) hj (by omega) hi p) ⟨hp, hq, trivial⟩ ⟨⟨rfl, ⟨rfl, rfl, fun w v h => ?_⟩, trivial⟩, trivial⟩ X w [v, u] hX ha
      rw [hx, ← hL, mulL, if_neg (by omega), mk_length]
      exact Rw.to (ArrO.rw (e := 36) (F := fun i w v => NorV w v (cvS z y (tl y m) (tl z n) i) (k + l + c + 1)) h) fun i w v hi h => h.eq (by rw [coef_mk, if_pos hi])
end
end Go.Proofs.Yteblgmjpociffaa.Sym
