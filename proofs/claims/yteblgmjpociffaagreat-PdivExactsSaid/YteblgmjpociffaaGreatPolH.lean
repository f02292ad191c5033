/- poly.each and both (Norm, Neg, Add, Sub), Mul. Products of polynomials as sums of products: they ask for no order, nor for brackets. poly.Same; contracts of Norm, Neg, Add, Sub, Mul. -/
import Derived.Test.YteblgmjpociffaaGreatPolX
namespace Go.Proofs.YteblgmjpociffaaGreat.Sym
open Go.RowKit
theorem sSub5 {Φ : Nat -> World -> Value -> Prop} {p q x i j : Nat} {z y t : Int} (hp : ∀ w v, Φ p w v -> IntV w v z i) (hq : ∀ w v, Φ q w v -> IntV w v y j) (hx : Φ x = fun w v => NorV w v t (i + j + 1)) (hi : i + j <= 1000000) (ht : z - y = t) : SiteOk Φ Tryz.prog ⟨60, [.fact p, .fact q], [⟨iS, [(0, 0, x)]⟩], false⟩ :=
 site2 fun _ _ _ _ h0 h1 => ((Sub_i (hp _ _ (get h0)) (hq _ _ (get h1)) hi).mono fun _ _ h => h.got).mono fun _ _ h => pstI (ht ▸ hx) h
def cvS (z y : Nat -> Int) (l : Nat) : Nat -> Nat -> Int
 | 0, _ => 0
 | j + 1, p => cvS z y l j p + (if j <= p ∧ p < j + l then z j * y (p - j) else 0)
def cvI (z y : Nat -> Int) (l : Nat) (j i p : Nat) : Int := cvS z y l j p + (if j <= p ∧ p < j + i then z j * y (p - j) else 0)
def b_each_norm (z : Nat -> Int) (n k : Nat) : List (World -> Value -> Prop) := [fun w v => Rw 2 (fun ι w v => IntV w v (z ι) k) n w v, fun _ v => v = .int .i64 ((n : Nat) : Int), fun w v => ArrO 2 26 (fun ι w v => NorV w v ((upto 0 z) ι) k) n w v, fun _ v => v = .int .i64 ((n : Nat) : Int), fun w v => ArrO 2 26 (fun ι w v => NorV w v ((upto n z) ι) k) n w v, fun w v => Rw 2 (fun ι w v => NorV w v ((upto n z) ι) k) (tl (upto n z) n) w v]
def l_each_norm_1 (z : Nat -> Int) (n k : Nat) (j : Nat) : List (World -> Value -> Prop) := [fun _ v => v = .int .i64 ((j : Nat) : Int), fun w v => ArrO 2 26 (fun ι w v => NorV w v ((upto j z) ι) k) n w v, fun _ _ => True, fun w v => Ptr 2 (fun w v => IntV w v (z j) k) w v, fun w v => IntV w v (z j) k, fun w v => NorV w v (z j) k, At 2, fun w v => Ptr 2 (fun w v => NorV w v ((upto j z) j) k) w v, fun w v => ArrO 2 26 (fun ι w v => NorV w v ((upto (j + 1) z) ι) k) n w v, fun _ v => v = .int .i64 (((j + 1) : Nat) : Int)]
def d_each_norm_1 : LoopD := ⟨[0, 1, 4, 8, 9, 10, 11, 12], [(.slot 13, .i), (.slot 5, .s)], [(.one 0, 6), (.one 1, .at [1] 7), (.one 1, .lo 1)], [.closed (.one (.ci .i64 0)), .from 2, .from 0], 6, [(7, 4)]⟩
def r_each_norm_1_0 : List Step := [.base ⟨0, [.fact 6, .fact 3], [⟨.one (.lit (.cb true)), []⟩], .quiet (mBin .lss)⟩,
   .base ⟨0, [.fact 0, .fact 6], [⟨.one (.p), [(0, 0, 9)]⟩], .quiet (mIdx 23)⟩,
   .base ⟨0, [.fact 9], [⟨.agg [.b, .s], [(0, 0, 10)]⟩], .quiet (mLoad 26)⟩,
   .base ⟨102, [.fact 10], [⟨.agg [.b, .s], [(0, 0, 11)]⟩], false⟩,
   .base ⟨0, [.fact 7, .fact 6], [⟨.one (.p), [(0, 0, 13)]⟩], .joint [1] 12 (mIdx 23)⟩,
   .base ⟨0, [.fact 7, .fact 6, .any, .fact 11], [⟨.one .s, [(0, 0, 14)]⟩], .put [] 1 0 12 (mPut 26 (.tmp 18) (.tmp 19))⟩,
   .base ⟨0, [.fact 6, .lit (.ci .i64 1)], [⟨.one (.i), [(0, 0, 15)]⟩], .quiet (mBin .add)⟩]
def o_each_norm_1 : List Step := [.base ⟨0, [.fact 6, .fact 3], [⟨.one (.lit (.cb false)), []⟩], .quiet (mBin .lss)⟩]
def ss_each_norm : List Step := [.base ⟨0, [.fact 0], [⟨.one (.i), [(0, 0, 1)]⟩], .quiet (mLen 23)⟩,
   .base ⟨0, [.fact 1, .fact 1], [⟨.one (.s), [(0, 0, 2)]⟩], .loose [] 1 0 (mMake 23)⟩,
   .base ⟨0, [.fact 0], [⟨.one (.i), [(0, 0, 3)]⟩], .quiet (mLen 23)⟩,
   .loop d_each_norm_1 [(r_each_norm_1_0, [.from 15, .from 14, .from 0])] o_each_norm_1,
   .base ⟨53, [.fact 4], [⟨.one (.s), [(0, 0, 5)]⟩], .callJ [1] false⟩]
def ins_each_norm : List Out := [⟨.one (.s), [(0, 0, 0)]⟩, ⟨.one (.lit (.fn 102)), []⟩]
set_option maxRecDepth 100000 in
theorem each_norm {z : Nat -> Int} {n k : Nat} (hn : n <= 1000000) (hk : k <= 500000) : SiteOk (ph (b_each_norm z n k)) Tryz.prog ⟨67, [.fact 0, .lit (.fn 102)], [⟨.one (.s), [(0, 0, 5)]⟩], false⟩ := by
 skip
 exact fn_okL ins_each_norm [⟨.one (.s), [(0, 0, 5)]⟩] ss_each_norm Tryz.func67 (by kernel_rfl)
  (lbase (qLen (sz := 2) (n := n) (F := (fun ι w v => IntV w v (z ι) k)) Tryz.underlying23 (fun _ _ h => Rw.arr h) rfl)
   (lbase (qMakeI (n := n) (F := (fun ι w v => NorV w v ((upto 0 z) ι) k)) (fun _ _ h => h) (by omega) (fun i w => NorV.zero w k) rfl)
   (lbase (qLen (sz := 2) (n := n) (F := (fun ι w v => IntV w v (z ι) k)) Tryz.underlying23 (fun _ _ h => Rw.arr h) rfl)
   (lloop (counted n (fun j => ph (b_each_norm z n k ++ l_each_norm_1 z n k j)) (fun _ => 0) (fun j p hp => ph_app' (show p < (b_each_norm z n k).length from hp)) ⟨fun _ => rfl, fun _ _ h => h, fun _ _ _ => trivial, trivial⟩ (fun j hj => by
   skip
   exact ⟨(r_each_norm_1_0, [.from 15, .from 14, .from 0]), rfl, ⟨fun _ _ h => h, fun _ _ h => h, fun _ _ _ => trivial, trivial⟩, (lbase (qTest (op := .lss) (fun _ _ h => h) (fun _ _ h => h) (ts_run (decide_eq_true (by omega)) (by simp)))
   (lbase (qIdx (i := j) (sz := 2) (n := n) (F := (fun ι w v => IntV w v (z ι) k)) Tryz.underlying23 (by kernel_rfl) (fun _ _ h => Rw.arr h) (fun _ _ h => h) (by omega) rfl)
   (lbase (qLoad (sz := 2) (F := fun w v => IntV w v (z j) k) (by kernel_rfl) (by kernel_rfl) (fun _ _ h => h) (fun _ _ _ g h => IntV.kp h g) (fun _ _ h => IntV.is h) rfl)
   (lbase (sNorm iI rfl (by omega) rfl)
   (lbase (qIdxJ (i := j) (sz := 2) (n := n) (F := (fun ι w v => NorV w v ((upto j z) ι) k)) Tryz.underlying23 (by kernel_rfl) (fun _ _ h => ArrO.arr h) (fun _ _ h => h) (by omega) rfl rfl)
   (lbase (qPutR (i := j) (n := n) (F := (fun ι w v => NorV w v ((upto j z) ι) k)) (F' := (fun ι w v => NorV w v ((upto (j + 1) z) ι) k)) (G := fun w v => NorV w v (z j) k) (.tmp 18) (.tmp 19) (by kernel_rfl) (fun _ _ h => h) (fun _ _ h => h) (by omega) (fun _ _ h => h) rfl (fun _ _ h => NorV.cells h) (fun _ _ _ _ g h => NorV.kp h g) (fun _ _ _ g h => NorV.kp h g) (fun i w v hi h => by rw [upto_ne hi]; exact h) (fun w v h => h.eq (upto_self j z).symm) rfl)
   (lbase (qAddK (fun _ _ h => h) (by omega) rfl (by omega) (by omega))
   lnil)))))))⟩)
   (lbase (qTest (op := .lss) (fun _ _ h => h) (fun _ _ h => h) (ts_run (decide_eq_false (by omega)) (by simp)))
   lnil)
   (fun q hq w v h => by
    simp only [d_each_norm_1, List.mem_cons, List.not_mem_nil, or_false] at hq
    rcases hq with rfl
    ·exact (fun h => h) h)) (lbase (onJ [1] (sTrim (z := (upto n z)) (n := n) (k := k) (F := (fun ι w v => NorV w v ((upto n z) ι) k)) (fun _ _ h => ArrO.rw h) (fun _ _ _ h => NorV.i h) (fun _ _ _ _ g h => NorV.kp h g) rfl (by omega) (by omega)))
   lnil)))))
  (ins_ok [.fact 0 (.one (.s)), .lit (.fn 102)] ⟨fun _ _ h => Rw.is (sz := 2) (F := (fun ι w v => IntV w v (z ι) k)) (n := n) h, (fun _ h => by cases h), trivial⟩) (fun _ _ _ h => h)
section
variable {Φ : Nat -> World -> Value -> Prop} {p q x n m k l : Nat} {z y : Nat -> Int} {L : List Int}
theorem sEach_norm (hp : ∀ w v, Φ p w v -> Rw 2 (fun i w v => IntV w v (z i) k) n w v) (hx : Φ x = fun w v => Rw 2 (fun i w v => NorV w v (coef L i) k) L.length w v) (hn : n <= 1000000) (hk : k <= 500000) (hL : trimL (mk n z) = L) : SiteOk Φ Tryz.prog ⟨67, [.fact p, .lit (.fn 102)], [⟨.one .s, [(0, 0, x)]⟩], false⟩ :=
 viaG (each_norm hn hk) ⟨hp, rfl, trivial⟩ ⟨⟨rfl, ⟨rfl, rfl, fun _ _ h => hx ▸ hL ▸ rowTrim h⟩, trivial⟩, trivial⟩
end
def b_pnorm (z : Nat -> Int) (n k : Nat) : List (World -> Value -> Prop) := [fun w v => Rw 2 (fun ι w v => IntV w v (z ι) k) n w v, fun w v => Rw 2 (fun ι w v => NorV w v ((coef (trimL (mk n z))) ι) k) ((trimL (mk n z)).length) w v]
def ss_pnorm : List Step := [.base ⟨67, [.fact 0, .lit (.fn 102)], [⟨.one (.s), [(0, 0, 1)]⟩], false⟩]
def ins_pnorm : List Out := [⟨.one (.s), [(0, 0, 0)]⟩]
set_option maxRecDepth 100000 in
theorem pnorm {z : Nat -> Int} {n k : Nat} (hn : n <= 1000000) (hk : k <= 500000) : SiteOk (ph (b_pnorm z n k)) Tryz.prog ⟨93, [.fact 0], [⟨.one (.s), [(0, 0, 1)]⟩], false⟩ := by
 skip
 exact fn_okL ins_pnorm [⟨.one (.s), [(0, 0, 1)]⟩] ss_pnorm Tryz.func93 (by kernel_rfl)
  (lbase (sEach_norm (fun _ _ h => Rw.to (sz := 2) (n := n) (F := (fun ι w v => IntV w v (z ι) k)) (h) (fun i w v _ h => (fun _ _ _ h => h) i w v h)) rfl (by omega) (by omega) rfl)
   lnil)
  (ins_ok [.fact 0 (.one (.s))] ⟨fun _ _ h => Rw.is (sz := 2) (F := (fun ι w v => IntV w v (z ι) k)) (n := n) h, trivial⟩) (fun _ _ _ h => h)
section
variable {z y : Nat -> Int} {l j i p : Nat}
end
end Go.Proofs.YteblgmjpociffaaGreat.Sym
namespace Go.Proofs.YteblgmjpociffaaGreat.Sym
open Go.RowKit
def conv (f g : Nat -> Int) : Nat -> Int
 | 0 => f 0 * g 0
 | p + 1 => f 0 * g (p + 1) + conv (fun x => f (x + 1)) g p
theorem conv_last : ∀ (p : Nat) (f g : Nat -> Int), conv f g (p + 1) = conv f (fun x => g (x + 1)) p + f (p + 1) * g 0
 | 0, f, g => rfl
 | p + 1, f, g => by
  rw [conv, conv_last p (fun x => f (x + 1)) g]
  simp only [conv]
  omega
theorem conv_comm : ∀ (p : Nat) (f g : Nat -> Int), conv f g p = conv g f p
 | 0, f, g => Int.mul_comm _ _
 | p + 1, f, g => by
  rw [conv, conv_last p g f, conv_comm p (fun x => f (x + 1)) g, Int.mul_comm (f 0)]
  omega
theorem conv_congr : ∀ {p : Nat} {f f' g g' : Nat -> Int}, (∀ i, i <= p -> f i = f' i) -> (∀ i, i <= p -> g i = g' i) -> conv f g p = conv f' g' p
 | 0, _, _, _, _, hf, hg => by simp only [conv]; rw [hf 0 (Nat.le_refl _), hg 0 (Nat.le_refl _)]
 | p + 1, _, _, _, _, hf, hg => by
  simp only [conv]
  rw [hf 0 (by omega), hg (p + 1) (Nat.le_refl _), conv_congr (fun i hi => hf (i + 1) (by omega)) (fun i hi => hg i (by omega))]
theorem conv_addL : ∀ (p : Nat) (f f' g : Nat -> Int), conv (fun x => f x + f' x) g p = conv f g p + conv f' g p
 | 0, f, f', g => Int.add_mul _ _ _
 | p + 1, f, f', g => by
  simp only [conv]
  rw [conv_addL p, Int.add_mul]
  omega
theorem upto_coef (L : List Int) (i : Nat) : upto L.length (coef L) i = coef L i := by
 unfold upto
 split
 ·rfl
 ·exact (coef_out (by omega)).symm
theorem upto_out {n i : Nat} {f : Nat -> Int} (h : n <= i) : upto n f i = 0 := if_neg (by omega)
theorem Bd.add1' {A B i : Nat} (h : Bd A i) (k : Bd B i) : Bd (A + B) (i + 1) := by
 unfold Bd at *
 rw [Nat.pow_succ]
 generalize 4294967296 ^ i = M at *
 omega
def sumTo (f : Nat -> Int) : Nat -> Int
 | 0 => 0
 | n + 1 => sumTo f n + f n
theorem sumTo_congr {f g : Nat -> Int} : ∀ {n : Nat}, (∀ i, i < n -> f i = g i) -> sumTo f n = sumTo g n
 | 0, _ => rfl
 | n + 1, h => by simp only [sumTo]; rw [sumTo_congr fun i hi => h i (by omega), h n (by omega)]
theorem sumTo_more {f : Nat -> Int} {n : Nat} : ∀ {k : Nat}, (∀ i, n <= i -> i < n + k -> f i = 0) -> sumTo f (n + k) = sumTo f n
 | 0, _ => rfl
 | k + 1, h => by
  rw [show n + (k + 1) = (n + k) + 1 by omega, sumTo, sumTo_more fun i h1 h2 => h i h1 (by omega), h (n + k) (by omega) (by omega)]
  omega
theorem sumTo_first (f : Nat -> Int) : ∀ n, sumTo f (n + 1) = f 0 + sumTo (fun i => f (i + 1)) n
 | 0 => by simp [sumTo]
 | n + 1 => by
  rw [sumTo, sumTo_first f n]
  simp only [sumTo]
  omega
theorem conv_sum : ∀ (p : Nat) (f g : Nat -> Int), conv f g p = sumTo (fun x => f x * g (p - x)) (p + 1)
 | 0, f, g => by simp [conv, sumTo]
 | p + 1, f, g => by
  rw [conv, conv_sum p, sumTo_first (fun x => f x * g (p + 1 - x)) (p + 1)]
  refine congrArg (f 0 * g (p + 1) + ·) (sumTo_congr fun i _ => ?_)
  show f (i + 1) * g (p - i) = f (i + 1) * g (p + 1 - (i + 1))
  rw [Nat.add_sub_add_right]
theorem cvS_sum (z y : Nat -> Int) (l p : Nat) : ∀ j, cvS z y l j p = sumTo (fun x => if x <= p ∧ p < x + l then z x * y (p - x) else 0) j
 | 0 => rfl
 | j + 1 => by rw [cvS, cvS_sum z y l p j]; rfl
theorem tl_out {z : Nat -> Int} {n i : Nat} (h : tl z n <= i) : upto n z i = 0 := by
 unfold upto
 split
 ·rename_i hi
  exact tl_zero z n i h hi
 ·rfl
theorem cvS_conv (z y : Nat -> Int) (n m p : Nat) : cvS z y (tl y m) (tl z n) p = conv (upto n z) (upto m y) p := by
 rw [cvS_sum, conv_sum]
 have hz := tl_le z n
 have hy := tl_le y m
 have e1 : sumTo (fun x => if x <= p ∧ p < x + tl y m then z x * y (p - x) else 0) (tl z n) = sumTo (fun x => if x <= p then upto n z x * upto m y (p - x) else 0) (tl z n) := sumTo_congr fun x hx => by
  by_cases h1 : x <= p
  ·rw [if_pos h1, upto_lt (by omega)]
   by_cases h2 : p < x + tl y m
   ·rw [if_pos ⟨h1, h2⟩, upto_lt (by omega)]
   ·rw [if_neg (fun h => h2 h.2), tl_out (by omega), Int.mul_zero]
  ·rw [if_neg (fun h => h1 h.1), if_neg h1]
 have e2 : sumTo (fun x => upto n z x * upto m y (p - x)) (p + 1) = sumTo (fun x => if x <= p then upto n z x * upto m y (p - x) else 0) (p + 1) := sumTo_congr fun x hx => (if_pos (by omega)).symm
 rw [e1, e2]
 rcases Nat.le_total (tl z n) (p + 1) with h | h
 ·have := sumTo_more (f := fun x => if x <= p then upto n z x * upto m y (p - x) else 0) (n := tl z n) (k := p + 1 - tl z n) fun i h1 _ => by
   rw [tl_out h1, Int.zero_mul]
   split <;> rfl
  rw [show tl z n + (p + 1 - tl z n) = p + 1 by omega] at this
  exact this.symm
 ·have := sumTo_more (f := fun x => if x <= p then upto n z x * upto m y (p - x) else 0) (n := p + 1) (k := tl z n - (p + 1)) fun i h1 _ => if_neg (by omega)
  rw [show p + 1 + (tl z n - (p + 1)) = tl z n by omega] at this
  exact this
theorem cvS_top {z y : Nat -> Int} {l m : Nat} (hl : 0 < l) : ∀ {j}, j <= m -> cvS z y l j (m + l - 1) = 0
 | 0, _ => rfl
 | j + 1, h => by
  rw [cvS, cvS_top hl (by omega), if_neg (by omega)]; rfl
theorem cvS_lead {z y : Nat -> Int} {l m : Nat} (hl : 0 < l) : cvS z y l (m + 1) (m + l - 1) = z m * y (l - 1) := by
 rw [cvS, cvS_top hl (Nat.le_refl _), if_pos (by omega), show m + l - 1 - m = l - 1 by omega, Int.zero_add]
def mulL (z : Nat -> Int) (n : Nat) (y : Nat -> Int) (m : Nat) : List Int := if tl z n = 0 ∨ tl y m = 0 then [] else mk (tl z n + tl y m - 1) (cvS z y (tl y m) (tl z n))
theorem conv_zeroL : ∀ {f g : Nat -> Int}, (∀ i, f i = 0) -> ∀ p, conv f g p = 0
 | _, _, h, 0 => by simp only [conv]; rw [h, Int.zero_mul]
 | _, _, h, p + 1 => by
  simp only [conv]
  rw [h, Int.zero_mul, Int.zero_add, conv_zeroL (fun i => h (i + 1)) p]
theorem conv_out {f g : Nat -> Int} {a b p : Nat} (hf : ∀ i, a <= i -> f i = 0) (hg : ∀ i, b <= i -> g i = 0) (h : a + b <= p + 1) : conv f g p = 0 := by
 rw [conv_sum, show p + 1 = 0 + (p + 1) by omega, sumTo_more (n := 0) fun i _ hi => ?_]
 ·rfl
 ·rcases Nat.lt_or_ge i a with h1 | h1
  ·rw [hg _ (by omega), Int.mul_zero]
  ·rw [hf _ h1, Int.zero_mul]
theorem coef_mul (z : Nat -> Int) (n : Nat) (y : Nat -> Int) (m p : Nat) : coef (mulL z n y m) p = conv (upto n z) (upto m y) p := by
 unfold mulL
 split
 ·rename_i h
  rw [coef_out (by simp)]
  rcases h with h | h
  ·exact (conv_zeroL (fun i => tl_out (by omega)) p).symm
  ·rw [conv_comm]; exact (conv_zeroL (fun i => tl_out (by omega)) p).symm
 ·rename_i h
  rw [coef_mk]
  split
  ·exact cvS_conv z y n m p
  ·exact (conv_out (a := tl z n) (b := tl y m) (fun i hi => tl_out hi) (fun i hi => tl_out hi) (by omega)).symm
theorem mulL_length {z : Nat -> Int} {n : Nat} {y : Nat -> Int} {m : Nat} (h1 : 0 < tl z n) (h2 : 0 < tl y m) : (mulL z n y m).length = tl z n + tl y m - 1 := by
 unfold mulL
 rw [if_neg (by omega), mk_length]
theorem mulL_top {z : Nat -> Int} {n : Nat} {y : Nat -> Int} {m : Nat} (h1 : 0 < tl z n) (h2 : 0 < tl y m) : coef (mulL z n y m) (tl z n + tl y m - 2) = z (tl z n - 1) * y (tl y m - 1) := by
 unfold mulL
 rw [if_neg (by omega), coef_mk, if_pos (by omega)]
 obtain ⟨a, ha⟩ : ∃ a, tl z n = a + 1 := ⟨tl z n - 1, by omega⟩
 have := cvS_lead (z := z) (y := y) (l := tl y m) (m := a) h2
 rw [ha, show a + 1 + tl y m - 2 = a + tl y m - 1 by omega, this, Nat.add_sub_cancel]
theorem mulL_nrm (z : Nat -> Int) (n : Nat) (y : Nat -> Int) (m : Nat) : Nrm (mulL z n y m) := fun h => by
 by_cases h0 : tl z n = 0 ∨ tl y m = 0
 ·unfold mulL at h
  rw [if_pos h0] at h
  simp at h
 ·rw [mulL_length (by omega) (by omega), show tl z n + tl y m - 1 - 1 = tl z n + tl y m - 2 by omega, mulL_top (by omega) (by omega)]
  exact Int.mul_ne_zero (tl_last z n (by omega)) (tl_last y m (by omega))
theorem cvS_bd {z y : Nat -> Int} {l k k' c n : Nat} (hz : ∀ i, i < n -> Bd (z i).natAbs k) (hy : ∀ i, i < l -> Bd (y i).natAbs k') : ∀ {j}, j <= n -> j <= c -> ∀ p, Bd (cvS z y l j p).natAbs (k + k' + j)
 | 0, _, _, p => Nat.pow_pos (by omega)
 | j + 1, h1, h2, p => by
  have h3 := cvS_bd (c := c) hz hy (j := j) (by omega) (by omega) p
  rw [cvS]
  have h4 : Bd (if j <= p ∧ p < j + l then z j * y (p - j) else 0).natAbs (k + k' + j) := by
   split
   ·rw [Int.natAbs_mul]
    exact (Bd.mul (hz j (by omega)) (hy _ (by omega))).more (by omega)
   ·exact Nat.pow_pos (by omega)
  exact (Bd.add1' h3 h4).le (Int.natAbs_add_le _ _)
theorem cvI_bd {z y : Nat -> Int} {l k k' c n i : Nat} (hz : ∀ i, i < n -> Bd (z i).natAbs k) (hy : ∀ i, i < l -> Bd (y i).natAbs k') {j : Nat} (h1 : j < n) (h2 : n <= c) (hi : i <= l) (p : Nat) : Bd (cvI z y l j i p).natAbs (k + k' + c + 1) := by
 have h3 := cvS_bd (c := c) hz hy (j := j) (by omega) (by omega) p
 have h4 : Bd (if j <= p ∧ p < j + i then z j * y (p - j) else 0).natAbs (k + k' + j) := by
  split
  ·rw [Int.natAbs_mul]
   exact (Bd.mul (hz j h1) (hy _ (by omega))).more (by omega)
  ·exact Nat.pow_pos (by omega)
 exact ((Bd.add1' h3 h4).le (Int.natAbs_add_le _ _)).more (by omega)
end Go.Proofs.YteblgmjpociffaaGreat.Sym
namespace Go.Proofs.YteblgmjpociffaaGreat.Sym
open Go.RowKit
section
variable {Φ : Nat -> World -> Value -> Prop} {p q x n m k l c : Nat} {z y : Nat -> Int} {L : List Int}
theorem sNormP (hp : ∀ w v, Φ p w v -> Rw 2 (fun i w v => IntV w v (z i) k) n w v) (hx : Φ x = fun w v => Rw 2 (fun i w v => NorV w v (coef L i) k) L.length w v) (hn : n <= 1000000) (hk : k <= 500000) (hL : trimL (mk n z) = L) : SiteOk Φ Tryz.prog ⟨93, [.fact p], [⟨.one .s, [(0, 0, x)]⟩], false⟩ :=
 viaG (pnorm hn hk) ⟨hp, trivial⟩ ⟨⟨rfl, ⟨rfl, rfl, fun _ _ h => hx ▸ hL ▸ h⟩, trivial⟩, trivial⟩
end
end Go.Proofs.YteblgmjpociffaaGreat.Sym
