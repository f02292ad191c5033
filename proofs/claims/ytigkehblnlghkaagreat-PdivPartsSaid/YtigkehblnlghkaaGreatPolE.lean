/- poly.each and both (Norm, Neg, Add, Sub), Mul. -/
import Derived.Test.YtigkehblnlghkaaGreatPolX
namespace Go.Proofs.YtigkehblnlghkaaGreat.Sym
open Go.RowKit
theorem sSub5 {Φ : Nat → World → Value → Prop} {p q x i j : Nat} {z y t : Int} (hp : ∀ w v, Φ p w v → IntV w v z i) (hq : ∀ w v, Φ q w v → IntV w v y j) (hx : Φ x = fun w v => NorV w v t (i + j + 1)) (hi : i + j ≤ 1000000) (ht : z - y = t) : SiteOk Φ Tryz.prog ⟨60, [.fact p, .fact q], [⟨iS, [(0, 0, x)]⟩], false⟩ :=
  site2 fun _ _ _ _ h0 h1 => ((Sub_i (hp _ _ (get h0)) (hq _ _ (get h1)) hi).mono fun _ _ h => h.got).mono fun _ _ h => pstI (ht ▸ hx) h
/-- The numbers of a product behind j whole rounds; and behind i steps of the next one. -/
def cvS (z y : Nat → Int) (l : Nat) : Nat → Nat → Int
  | 0, _ => 0
  | j + 1, p => cvS z y l j p + (if j ≤ p ∧ p < j + l then z j * y (p - j) else 0)
def cvI (z y : Nat → Int) (l : Nat) (j i p : Nat) : Int := cvS z y l j p + (if j ≤ p ∧ p < j + i then z j * y (p - j) else 0)
section
variable {Φ : Nat → World → Value → Prop} {p q x n m k l : Nat} {z y : Nat → Int} {L : List Int}
end
section
variable {z y : Nat → Int} {l j i p : Nat}
theorem cvI_zero : cvI z y l j 0 p = cvS z y l j p := by
  unfold cvI
  rw [if_neg (by omega)]; omega
theorem cvI_ne (h : p ≠ j + i) : cvI z y l j (i + 1) p = cvI z y l j i p := by
  unfold cvI
  split <;> split <;> first | rfl | omega
theorem cvI_at : cvI z y l j i (j + i) + z j * y i = cvI z y l j (i + 1) (j + i) := by
  unfold cvI
  rw [if_neg (by omega), if_pos (by omega), show j + i - j = i by omega]; omega
end
def b_pmul (z y : Nat → Int) (n m k l K : Nat) : List (World → Value → Prop) := [fun w v => Rw 2 (fun ι w v => IntV w v (z ι) k) n w v, fun w v => Rw 2 (fun ι w v => IntV w v (y ι) l) m w v, fun w v => Rw 2 (fun ι w v => IntV w v (z ι) k) (tl z n) w v, fun w v => Rw 2 (fun ι w v => IntV w v (y ι) l) (tl y m) w v, fun _ v => v = .int .i64 (((tl z n) : Nat) : Int), fun _ v => v = .int .i64 (((tl y m) : Nat) : Int), fun _ v => v = .int .i64 (((tl z n) : Nat) : Int), fun _ v => v = .int .i64 (((tl y m) : Nat) : Int), fun _ v => v = .int .i64 ((((tl z n) + (tl y m)) : Nat) : Int), fun _ v => v = .int .i64 ((((tl z n) + (tl y m) - 1) : Nat) : Int), fun w v => ArrO 2 26 (fun ι w v => NorV w v ((cvS z y (tl y m) 0) ι) K) ((tl z n) + (tl y m) - 1) w v, fun _ v => v = .int .i64 (((tl z n) : Nat) : Int), fun w v => ArrO 2 26 (fun ι w v => NorV w v ((cvS z y (tl y m) (tl z n)) ι) K) ((tl z n) + (tl y m) - 1) w v]
def l_pmul_2 (z y : Nat → Int) (n m k l K : Nat) (j i : Nat) : List (World → Value → Prop) := [fun _ v => v = .int .i64 ((i : Nat) : Int), fun w v => ArrO 2 26 (fun ι w v => NorV w v ((cvI z y (tl y m) j i) ι) K) ((tl z n) + (tl y m) - 1) w v, fun _ _ => True, fun w v => Ptr 2 (fun w v => IntV w v (y i) l) w v, fun w v => IntV w v (y i) l, fun _ v => v = .int .i64 (((j + i) : Nat) : Int), fun _ v => v = .int .i64 (((j + i) : Nat) : Int), At 2, fun w v => Ptr 2 (fun w v => NorV w v ((cvI z y (tl y m) j i) (j + i)) K) w v, fun w v => NorV w v ((cvI z y (tl y m) j i) (j + i)) K, fun w v => NorV w v ((z j) * (y i)) (k + l), fun w v => NorV w v (((cvI z y (tl y m) j i) (j + i)) + ((z j) * (y i))) (K + (k + l) + 1), At 2, fun w v => Ptr 2 (fun w v => NorV w v ((cvI z y (tl y m) j i) (j + i)) K) w v, fun w v => ArrO 2 26 (fun ι w v => NorV w v ((cvI z y (tl y m) j (i + 1)) ι) K) ((tl z n) + (tl y m) - 1) w v, fun _ v => v = .int .i64 (((i + 1) : Nat) : Int)]
def d_pmul_2 : LoopD := ⟨[0, 1, 4, 6, 7, 10, 11, 12, 13, 14, 15, 16, 17, 18, 19, 20, 21, 22, 23, 24, 25, 26, 27, 28, 29, 30, 31, 32, 33, 34, 35, 36, 37], [(.slot 38, .i), (.slot 5, .s)], [(.one 0, 21), (.one 1, .at [1] 22), (.one 1, .lo 1)], [.closed (.one (.ci .i64 0)), .from 14, .from 0], 21, [(22, 19)]⟩
def r_pmul_2_0 : List Step := [.base ⟨0, [.fact 21, .fact 18], [⟨.one (.lit (.cb true)), []⟩], .quiet (mBin .lss)⟩,
      .base ⟨0, [.fact 3, .fact 21], [⟨.one (.p), [(0, 0, 24)]⟩], .quiet (mIdx 23)⟩,
      .base ⟨0, [.fact 24], [⟨.agg [.b, .s], [(0, 0, 25)]⟩], .quiet (mLoad 26)⟩,
      .base ⟨0, [.fact 13, .fact 21], [⟨.one (.i), [(0, 0, 26)]⟩], .quiet (mBin .add)⟩,
      .base ⟨0, [.fact 13, .fact 21], [⟨.one (.i), [(0, 0, 27)]⟩], .quiet (mBin .add)⟩,
      .base ⟨0, [.fact 22, .fact 27], [⟨.one (.p), [(0, 0, 29)]⟩], .joint [1] 28 (mIdx 23)⟩,
      .base ⟨0, [.fact 29], [⟨.agg [.b, .s], [(0, 0, 30)]⟩], .quietJ [1] (mLoad 26)⟩,
      .base ⟨48, [.fact 17, .fact 25], [⟨.agg [.b, .s], [(0, 0, 31)]⟩], false⟩,
      .base ⟨54, [.fact 30, .fact 31], [⟨.agg [.b, .s], [(0, 0, 32)]⟩], .callJ [1] false⟩,
      .base ⟨0, [.fact 22, .fact 26], [⟨.one (.p), [(0, 0, 34)]⟩], .joint [1] 33 (mIdx 23)⟩,
      .base ⟨0, [.fact 22, .fact 26, .any, .fact 32], [⟨.one .s, [(0, 0, 35)]⟩], .put [] 1 0 33 (mPut 26 (.tmp 43) (.tmp 46))⟩,
      .base ⟨0, [.fact 21, .lit (.ci .i64 1)], [⟨.one (.i), [(0, 0, 36)]⟩], .quiet (mBin .add)⟩]
def o_pmul_2 : List Step := [.base ⟨0, [.fact 21, .fact 18], [⟨.one (.lit (.cb false)), []⟩], .quiet (mBin .lss)⟩]
def l_pmul_1 (z y : Nat → Int) (n m k K : Nat) (j : Nat) : List (World → Value → Prop) := [fun _ v => v = .int .i64 ((j : Nat) : Int), fun w v => ArrO 2 26 (fun ι w v => NorV w v ((cvS z y (tl y m) j) ι) K) ((tl z n) + (tl y m) - 1) w v, fun _ _ => True, fun w v => Ptr 2 (fun w v => IntV w v (z j) k) w v, fun w v => IntV w v (z j) k, fun _ v => v = .int .i64 (((tl y m) : Nat) : Int), fun w v => ArrO 2 26 (fun ι w v => NorV w v ((cvI z y (tl y m) j (tl y m)) ι) K) ((tl z n) + (tl y m) - 1) w v, fun _ v => v = .int .i64 (((j + 1) : Nat) : Int)]
def d_pmul_1 : LoopD := ⟨[0, 1, 4, 10, 11, 12, 13, 14, 15, 16, 17, 18, 19, 20, 21, 22, 23, 24, 25, 26, 27, 28, 29, 30], [(.slot 31, .i), (.slot 5, .s)], [(.one 0, 13), (.one 1, .at [1] 14), (.one 1, .lo 1)], [.closed (.one (.ci .i64 0)), .from 10, .from 0], 13, [(14, 12)]⟩
def r_pmul_1_0 : List Step := [.base ⟨0, [.fact 13, .fact 11], [⟨.one (.lit (.cb true)), []⟩], .quiet (mBin .lss)⟩,
      .base ⟨0, [.fact 2, .fact 13], [⟨.one (.p), [(0, 0, 16)]⟩], .quiet (mIdx 23)⟩,
      .base ⟨0, [.fact 16], [⟨.agg [.b, .s], [(0, 0, 17)]⟩], .quiet (mLoad 26)⟩,
      .base ⟨0, [.fact 3], [⟨.one (.i), [(0, 0, 18)]⟩], .quiet (mLen 23)⟩,
      .loop d_pmul_2 [(r_pmul_2_0, [.from 36, .from 35, .from 0])] o_pmul_2,
      .base ⟨0, [.fact 13, .lit (.ci .i64 1)], [⟨.one (.i), [(0, 0, 20)]⟩], .quiet (mBin .add)⟩]
def o_pmul_1 : List Step := [.base ⟨0, [.fact 13, .fact 11], [⟨.one (.lit (.cb false)), []⟩], .quiet (mBin .lss)⟩]
def ss_pmul : List Step := [.base ⟨53, [.fact 0], [⟨.one (.s), [(0, 0, 2)]⟩], false⟩,
      .base ⟨53, [.fact 1], [⟨.one (.s), [(0, 0, 3)]⟩], false⟩,
      .base ⟨0, [.fact 2], [⟨.one (.i), [(0, 0, 4)]⟩], .quiet (mLen 23)⟩,
      .base ⟨0, [.fact 4, .lit (.ci .i64 0)], [⟨.one (.lit (.cb false)), []⟩], .quiet (mBin .eql)⟩,
      .base ⟨0, [.fact 3], [⟨.one (.i), [(0, 0, 5)]⟩], .quiet (mLen 23)⟩,
      .base ⟨0, [.fact 5, .lit (.ci .i64 0)], [⟨.one (.lit (.cb false)), []⟩], .quiet (mBin .eql)⟩,
      .base ⟨0, [.fact 2], [⟨.one (.i), [(0, 0, 6)]⟩], .quiet (mLen 23)⟩,
      .base ⟨0, [.fact 3], [⟨.one (.i), [(0, 0, 7)]⟩], .quiet (mLen 23)⟩,
      .base ⟨0, [.fact 6, .fact 7], [⟨.one (.i), [(0, 0, 8)]⟩], .quiet (mBin .add)⟩,
      .base ⟨0, [.fact 8, .lit (.ci .i64 1)], [⟨.one (.i), [(0, 0, 9)]⟩], .quiet (mBin .sub)⟩,
      .base ⟨0, [.fact 9, .fact 9], [⟨.one (.s), [(0, 0, 10)]⟩], .loose [] 1 0 (mMake 23)⟩,
      .base ⟨0, [.fact 2], [⟨.one (.i), [(0, 0, 11)]⟩], .quiet (mLen 23)⟩,
      .loop d_pmul_1 [(r_pmul_1_0, [.from 20, .from 19, .from 0])] o_pmul_1]
def ins_pmul : List Out := [⟨.one (.s), [(0, 0, 0)]⟩, ⟨.one (.s), [(0, 0, 1)]⟩]
set_option maxRecDepth 100000 in
theorem pmul {z y : Nat → Int} {n m k l K : Nat} (hn : n ≤ 400000) (hm : m ≤ 400000) (hk : k ≤ 100000) (hl : l ≤ 100000) (hK : K ≤ 300000) (h1 : 0 < (tl z n)) (h2 : 0 < (tl y m)) (hB : ∀ j i p, j < (tl z n) → i ≤ (tl y m) → Bd (cvI z y (tl y m) j i p).natAbs K) : SiteOk (ph (b_pmul z y n m k l K)) Tryz.prog ⟨13, [.fact 0, .fact 1], [⟨.one (.s), [(0, 0, 12)]⟩], false⟩ := by
  have hz := tl_le z n; have hy := tl_le y m
  exact fn_okL ins_pmul [⟨.one (.s), [(0, 0, 12)]⟩] ss_pmul Tryz.func13 (by kernel_rfl)
    (lbase (sTrim (z := z) (n := n) (k := k) (F := (fun ι w v => IntV w v (z ι) k)) (fun _ _ h => h) (fun _ _ _ h => h) (fun _ _ _ _ g h => IntV.kp h g) rfl (by omega) (by omega))
      (lbase (sTrim (z := y) (n := m) (k := l) (F := (fun ι w v => IntV w v (y ι) l)) (fun _ _ h => h) (fun _ _ _ h => h) (fun _ _ _ _ g h => IntV.kp h g) rfl (by omega) (by omega))
      (lbase (qLen (sz := 2) (n := (tl z n)) (F := (fun ι w v => IntV w v (z ι) k)) Tryz.underlying23 (fun _ _ h => Rw.arr h) rfl)
      (lbase (qTestC (op := .eql) (fun _ _ h => h) (ts_run (decide_eq_false (by omega)) (by simp)))
      (lbase (qLen (sz := 2) (n := (tl y m)) (F := (fun ι w v => IntV w v (y ι) l)) Tryz.underlying23 (fun _ _ h => Rw.arr h) rfl)
      (lbase (qTestC (op := .eql) (fun _ _ h => h) (ts_run (decide_eq_false (by omega)) (by simp)))
      (lbase (qLen (sz := 2) (n := (tl z n)) (F := (fun ι w v => IntV w v (z ι) k)) Tryz.underlying23 (fun _ _ h => Rw.arr h) rfl)
      (lbase (qLen (sz := 2) (n := (tl y m)) (F := (fun ι w v => IntV w v (y ι) l)) Tryz.underlying23 (fun _ _ h => Rw.arr h) rfl)
      (lbase (qAddJ (fun _ _ h => h) (fun _ _ h => h) (by omega) rfl (by omega) (by omega))
      (lbase (qSubK (fun _ _ h => h) (by omega) rfl (by omega) (by omega))
      (lbase (qMakeI (n := ((tl z n) + (tl y m) - 1)) (F := (fun ι w v => NorV w v ((cvS z y (tl y m) 0) ι) K)) (fun _ _ h => h) (by omega) (fun i w => NorV.zero w K) rfl)
      (lbase (qLen (sz := 2) (n := (tl z n)) (F := (fun ι w v => IntV w v (z ι) k)) Tryz.underlying23 (fun _ _ h => Rw.arr h) rfl)
      (lloop (counted (tl z n) (fun j => ph (b_pmul z y n m k l K ++ l_pmul_1 z y n m k K j)) (fun _ => 0) (fun j p hp => ph_app' (show p < (b_pmul z y n m k l K).length from hp)) ⟨fun _ => rfl, fun _ _ h => h, fun _ _ _ => trivial, trivial⟩ (fun j hj => by
      skip
      exact ⟨(r_pmul_1_0, [.from 20, .from 19, .from 0]), rfl, ⟨fun _ _ h => h, fun _ _ h => h, fun _ _ _ => trivial, trivial⟩, (lbase (qTest (op := .lss) (fun _ _ h => h) (fun _ _ h => h) (ts_run (decide_eq_true (by omega)) (by simp)))
      (lbase (qIdx (i := j) (sz := 2) (n := (tl z n)) (F := (fun ι w v => IntV w v (z ι) k)) Tryz.underlying23 (by kernel_rfl) (fun _ _ h => Rw.arr h) (fun _ _ h => h) (by omega) rfl)
      (lbase (qLoad (sz := 2) (F := fun w v => IntV w v (z j) k) (by kernel_rfl) (by kernel_rfl) (fun _ _ h => h) (fun _ _ _ g h => IntV.kp h g) (fun _ _ h => IntV.is h) rfl)
      (lbase (qLen (sz := 2) (n := (tl y m)) (F := (fun ι w v => IntV w v (y ι) l)) Tryz.underlying23 (fun _ _ h => Rw.arr h) rfl)
      (lloop (counted (tl y m) (fun i => ph ((b_pmul z y n m k l K ++ l_pmul_1 z y n m k K j) ++ l_pmul_2 z y n m k l K j i)) (fun _ => 0) (fun i p hp => ph_app' (show p < (b_pmul z y n m k l K ++ l_pmul_1 z y n m k K j).length from hp)) ⟨fun _ => rfl, fun _ _ h => ArrO.to (sz := 2) (e := 26) (n := ((tl z n) + (tl y m) - 1)) (F := (fun ι w v => NorV w v ((cvS z y (tl y m) j) ι) K)) (G := (fun ι w v => NorV w v ((cvI z y (tl y m) j 0) ι) K)) h fun a w v ha h => by rw [cvI_zero]; exact h, fun _ _ _ => trivial, trivial⟩ (fun i hi => by
      skip
      exact ⟨(r_pmul_2_0, [.from 36, .from 35, .from 0]), rfl, ⟨fun _ _ h => h, fun _ _ h => h, fun _ _ _ => trivial, trivial⟩, (lbase (qTest (op := .lss) (fun _ _ h => h) (fun _ _ h => h) (ts_run (decide_eq_true (by omega)) (by simp)))
      (lbase (qIdx (i := i) (sz := 2) (n := (tl y m)) (F := (fun ι w v => IntV w v (y ι) l)) Tryz.underlying23 (by kernel_rfl) (fun _ _ h => Rw.arr h) (fun _ _ h => h) (by omega) rfl)
      (lbase (qLoad (sz := 2) (F := fun w v => IntV w v (y i) l) (by kernel_rfl) (by kernel_rfl) (fun _ _ h => h) (fun _ _ _ g h => IntV.kp h g) (fun _ _ h => IntV.is h) rfl)
      (lbase (qAddJ (fun _ _ h => h) (fun _ _ h => h) (by omega) rfl (by omega) (by omega))
      (lbase (qAddJ (fun _ _ h => h) (fun _ _ h => h) (by omega) rfl (by omega) (by omega))
      (lbase (qIdxJ (i := (j + i)) (sz := 2) (n := ((tl z n) + (tl y m) - 1)) (F := (fun ι w v => NorV w v ((cvI z y (tl y m) j i) ι) K)) Tryz.underlying23 (by kernel_rfl) (fun _ _ h => ArrO.arr h) (fun _ _ h => h) (by omega) rfl rfl)
      (lbase (qLoad (sz := 2) (F := fun w v => NorV w v ((cvI z y (tl y m) j i) (j + i)) K) (by kernel_rfl) (by kernel_rfl) (fun _ _ h => h) (fun _ _ _ g h => NorV.kp h g) (fun _ _ h => NorV.is h) rfl)
      (lbase (sMul iI iI rfl (by omega) rfl)
      (lbase (onJ [1] (sAdd nI nI rfl (by omega) rfl))
      (lbase (qIdxJ (i := (j + i)) (sz := 2) (n := ((tl z n) + (tl y m) - 1)) (F := (fun ι w v => NorV w v ((cvI z y (tl y m) j i) ι) K)) Tryz.underlying23 (by kernel_rfl) (fun _ _ h => ArrO.arr h) (fun _ _ h => h) (by omega) rfl rfl)
      (lbase (qPutR (i := (j + i)) (n := ((tl z n) + (tl y m) - 1)) (F := (fun ι w v => NorV w v ((cvI z y (tl y m) j i) ι) K)) (F' := (fun ι w v => NorV w v ((cvI z y (tl y m) j (i + 1)) ι) K)) (G := fun w v => NorV w v (((cvI z y (tl y m) j i) (j + i)) + ((z j) * (y i))) (K + (k + l) + 1)) (.tmp 43) (.tmp 46) (by kernel_rfl) (fun _ _ h => h) (fun _ _ h => h) (by omega) (fun _ _ h => h) rfl (fun _ _ h => NorV.cells h) (fun _ _ _ _ g h => NorV.kp h g) (fun _ _ _ g h => NorV.kp h g) (fun a w v ha h => by rw [cvI_ne ha]; exact h) (fun w v h => NorV.re (h.eq cvI_at) (hB j (i + 1) (j + i) (by omega) (by omega))) rfl)
      (lbase (qAddK (fun _ _ h => h) (by omega) rfl (by omega) (by omega))
      lnil))))))))))))⟩)
      (lbase (qTest (op := .lss) (fun _ _ h => h) (fun _ _ h => h) (ts_run (decide_eq_false (by omega)) (by simp)))
      lnil)
      (fun q hq w v h => by
        simp only [d_pmul_2, List.mem_cons, List.not_mem_nil, or_false] at hq
        rcases hq with rfl
        · exact (fun h => h) h)) (lbase (qAddK (fun _ _ h => h) (by omega) rfl (by omega) (by omega))
      lnil))))))⟩)
      (lbase (qTest (op := .lss) (fun _ _ h => h) (fun _ _ h => h) (ts_run (decide_eq_false (by omega)) (by simp)))
      lnil)
      (fun q hq w v h => by
        simp only [d_pmul_1, List.mem_cons, List.not_mem_nil, or_false] at hq
        rcases hq with rfl
        · exact (fun h => h) h)) lnil)))))))))))))
    (ins_ok [.fact 0 (.one (.s)), .fact 1 (.one (.s))] ⟨fun _ _ h => Rw.is (sz := 2) (F := (fun ι w v => IntV w v (z ι) k)) (n := n) h, fun _ _ h => Rw.is (sz := 2) (F := (fun ι w v => IntV w v (y ι) l)) (n := m) h, trivial⟩) (fun _ _ _ h => h)

def b_pmul_0 (z y : Nat → Int) (n m k l : Nat) : List (World → Value → Prop) := [fun w v => Rw 2 (fun ι w v => IntV w v (z ι) k) n w v, fun w v => Rw 2 (fun ι w v => IntV w v (y ι) l) m w v, fun w v => Rw 2 (fun ι w v => IntV w v (z ι) k) (tl z n) w v, fun w v => Rw 2 (fun ι w v => IntV w v (y ι) l) (tl y m) w v, fun _ v => v = .int .i64 (((tl z n) : Nat) : Int)]
def ss_pmul_0 : List Step := [.base ⟨53, [.fact 0], [⟨.one (.s), [(0, 0, 2)]⟩], false⟩,
      .base ⟨53, [.fact 1], [⟨.one (.s), [(0, 0, 3)]⟩], false⟩,
      .base ⟨0, [.fact 2], [⟨.one (.i), [(0, 0, 4)]⟩], .quiet (mLen 23)⟩,
      .base ⟨0, [.fact 4, .lit (.ci .i64 0)], [⟨.one (.lit (.cb true)), []⟩], .quiet (mBin .eql)⟩]
def ins_pmul_0 : List Out := [⟨.one (.s), [(0, 0, 0)]⟩, ⟨.one (.s), [(0, 0, 1)]⟩]
set_option maxRecDepth 100000 in
theorem pmul_0 {z y : Nat → Int} {n m k l : Nat} (hn : n ≤ 400000) (hm : m ≤ 400000) (hk : k ≤ 100000) (hl : l ≤ 100000) (h1 : (tl z n) = 0) : SiteOk (ph (b_pmul_0 z y n m k l)) Tryz.prog ⟨13, [.fact 0, .fact 1], [⟨.one (.lit (.nl)), []⟩], false⟩ := by
  have hz := tl_le z n; have hy := tl_le y m
  exact fn_okL ins_pmul_0 [⟨.one (.lit (.nl)), []⟩] ss_pmul_0 Tryz.func13 (by kernel_rfl)
    (lbase (sTrim (z := z) (n := n) (k := k) (F := (fun ι w v => IntV w v (z ι) k)) (fun _ _ h => h) (fun _ _ _ h => h) (fun _ _ _ _ g h => IntV.kp h g) rfl (by omega) (by omega))
      (lbase (sTrim (z := y) (n := m) (k := l) (F := (fun ι w v => IntV w v (y ι) l)) (fun _ _ h => h) (fun _ _ _ h => h) (fun _ _ _ _ g h => IntV.kp h g) rfl (by omega) (by omega))
      (lbase (qLen (sz := 2) (n := (tl z n)) (F := (fun ι w v => IntV w v (z ι) k)) Tryz.underlying23 (fun _ _ h => Rw.arr h) rfl)
      (lbase (qTestC (op := .eql) (fun _ _ h => h) (ts_run (decide_eq_true (by omega)) (by simp)))
      lnil))))
    (ins_ok [.fact 0 (.one (.s)), .fact 1 (.one (.s))] ⟨fun _ _ h => Rw.is (sz := 2) (F := (fun ι w v => IntV w v (z ι) k)) (n := n) h, fun _ _ h => Rw.is (sz := 2) (F := (fun ι w v => IntV w v (y ι) l)) (n := m) h, trivial⟩) (fun _ _ _ h => h)

def b_pmul_1 (z y : Nat → Int) (n m k l : Nat) : List (World → Value → Prop) := [fun w v => Rw 2 (fun ι w v => IntV w v (z ι) k) n w v, fun w v => Rw 2 (fun ι w v => IntV w v (y ι) l) m w v, fun w v => Rw 2 (fun ι w v => IntV w v (z ι) k) (tl z n) w v, fun w v => Rw 2 (fun ι w v => IntV w v (y ι) l) (tl y m) w v, fun _ v => v = .int .i64 (((tl z n) : Nat) : Int), fun _ v => v = .int .i64 (((tl y m) : Nat) : Int)]
def ss_pmul_1 : List Step := [.base ⟨53, [.fact 0], [⟨.one (.s), [(0, 0, 2)]⟩], false⟩,
      .base ⟨53, [.fact 1], [⟨.one (.s), [(0, 0, 3)]⟩], false⟩,
      .base ⟨0, [.fact 2], [⟨.one (.i), [(0, 0, 4)]⟩], .quiet (mLen 23)⟩,
      .base ⟨0, [.fact 4, .lit (.ci .i64 0)], [⟨.one (.lit (.cb false)), []⟩], .quiet (mBin .eql)⟩,
      .base ⟨0, [.fact 3], [⟨.one (.i), [(0, 0, 5)]⟩], .quiet (mLen 23)⟩,
      .base ⟨0, [.fact 5, .lit (.ci .i64 0)], [⟨.one (.lit (.cb true)), []⟩], .quiet (mBin .eql)⟩]
def ins_pmul_1 : List Out := [⟨.one (.s), [(0, 0, 0)]⟩, ⟨.one (.s), [(0, 0, 1)]⟩]
set_option maxRecDepth 100000 in
theorem pmul_1 {z y : Nat → Int} {n m k l : Nat} (hn : n ≤ 400000) (hm : m ≤ 400000) (hk : k ≤ 100000) (hl : l ≤ 100000) (h1 : 0 < (tl z n)) (h2 : (tl y m) = 0) : SiteOk (ph (b_pmul_1 z y n m k l)) Tryz.prog ⟨13, [.fact 0, .fact 1], [⟨.one (.lit (.nl)), []⟩], false⟩ := by
  have hz := tl_le z n; have hy := tl_le y m
  exact fn_okL ins_pmul_1 [⟨.one (.lit (.nl)), []⟩] ss_pmul_1 Tryz.func13 (by kernel_rfl)
    (lbase (sTrim (z := z) (n := n) (k := k) (F := (fun ι w v => IntV w v (z ι) k)) (fun _ _ h => h) (fun _ _ _ h => h) (fun _ _ _ _ g h => IntV.kp h g) rfl (by omega) (by omega))
      (lbase (sTrim (z := y) (n := m) (k := l) (F := (fun ι w v => IntV w v (y ι) l)) (fun _ _ h => h) (fun _ _ _ h => h) (fun _ _ _ _ g h => IntV.kp h g) rfl (by omega) (by omega))
      (lbase (qLen (sz := 2) (n := (tl z n)) (F := (fun ι w v => IntV w v (z ι) k)) Tryz.underlying23 (fun _ _ h => Rw.arr h) rfl)
      (lbase (qTestC (op := .eql) (fun _ _ h => h) (ts_run (decide_eq_false (by omega)) (by simp)))
      (lbase (qLen (sz := 2) (n := (tl y m)) (F := (fun ι w v => IntV w v (y ι) l)) Tryz.underlying23 (fun _ _ h => Rw.arr h) rfl)
      (lbase (qTestC (op := .eql) (fun _ _ h => h) (ts_run (decide_eq_true (by omega)) (by simp)))
      lnil))))))
    (ins_ok [.fact 0 (.one (.s)), .fact 1 (.one (.s))] ⟨fun _ _ h => Rw.is (sz := 2) (F := (fun ι w v => IntV w v (z ι) k)) (n := n) h, fun _ _ h => Rw.is (sz := 2) (F := (fun ι w v => IntV w v (y ι) l)) (n := m) h, trivial⟩) (fun _ _ _ h => h)

end Go.Proofs.YtigkehblnlghkaaGreat.Sym
