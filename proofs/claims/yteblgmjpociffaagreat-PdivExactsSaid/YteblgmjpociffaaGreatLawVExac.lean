/- PdivExacts holds: for every two polynomials the law returns true and leaves them as they were. No condition. -/
import Derived.Test.YteblgmjpociffaaGreatDivW
import Derived.Test.YteblgmjpociffaaGreatPolQ
import Derived.Test.YteblgmjpociffaaGreatDivQ
import Derived.Test.YteblgmjpociffaaGreatPolF
import Derived.Test.YteblgmjpociffaaGreatDivP
namespace Go.Proofs.YteblgmjpociffaaGreat.Sym
open Go.RowKit
theorem sExactN {Φ : Nat -> World -> Value -> Prop} {p q i j : Nat} {z y : Int} (hp : ∀ w v, Φ p w v -> IntV w v z i) (hq : ∀ w v, Φ q w v -> IntV w v y j) (hi : i + j <= 900000) (h : z % y ≠ 0) (h0 : y ≠ 0) : SiteOk Φ Tryz.prog ⟨97, [.fact p, .fact q], [⟨.agg [.lit (.cb false), .lit .nl], []⟩, ⟨.one (.lit (.ci .i64 3)), []⟩], true⟩ :=
 site2 fun _ _ _ _ h1 h2 => (Exact_odd (hp _ _ (get h1)) (hq _ _ (get h2)) hi ⟨h0, h⟩).mono fun _ _ ⟨he, hg⟩ => ⟨hg, [_, _], he, ⟨⟨_, rfl, rfl, rfl, trivial⟩, fun _ h => by cases h⟩, o0 ⟨rfl, fun _ h => by cases h⟩, trivial⟩
def b_pexact_x (z0 z1 : Nat -> Int) (n0 n1 k k1 nb m K : Nat) (c : Int) (Z Y : List Int) : List (World -> Value -> Prop) := [fun w v => Rw 2 (fun ι w v => IntV w v (z0 ι) k) n0 w v, fun w v => Rw 2 (fun ι w v => IntV w v (z1 ι) k1) n1 w v, fun w v => ArrO 2 26 (fun ι w v => NorV w v ((coef Z) ι) k) Z.length w v, fun w v => Rw 2 (fun ι w v => NorV w v ((coef Y) ι) k1) (nb + 1) w v, fun _ v => v = .int .i64 (((nb + 1) : Nat) : Int), fun _ v => v = .int .i64 ((nb : Nat) : Int), fun w v => NorV w v c k1, LenS Z.length, fun _ v => v = .int .i64 ((Z.length : Nat) : Int), fun _ v => v = .int .i64 (((Z.length : Nat) : Int) - ((nb : Nat) : Int)), fun _ v => v = .int .i64 ((m : Nat) : Int), fun w v => ArrO 2 26 (fun ι w v => NorV w v ((dto m 0 (exT (coef Z) (coef Y) nb m c)) ι) K) m w v, LenS m, fun _ v => v = .int .i64 ((m : Nat) : Int), fun _ v => v = .int .i64 (((m : Nat) : Int) - 1)]
def l_pexact_x_2 (k1 nb m K : Nat) (c : Int) (Z Y : List Int) (j i : Nat) : List (World -> Value -> Prop) := [fun _ v => v = .int .i64 ((i : Nat) : Int), fun w v => ArrO 2 26 (fun ι w v => NorV w v ((exM (coef Z) (coef Y) nb m c j i) ι) K) Z.length w v, fun _ _ => True, fun w v => Ptr 2 (fun w v => NorV w v ((coef Y) i) k1) w v, fun w v => NorV w v ((coef Y) i) k1, fun _ v => v = .int .i64 (((m - 1 - j + i) : Nat) : Int), fun _ v => v = .int .i64 (((m - 1 - j + i) : Nat) : Int), At 2, fun w v => Ptr 2 (fun w v => NorV w v ((exM (coef Z) (coef Y) nb m c j i) (m - 1 - j + i)) K) w v, fun w v => NorV w v ((exM (coef Z) (coef Y) nb m c j i) (m - 1 - j + i)) K, fun w v => NorV w v ((((exA (coef Z) (coef Y) nb m c j) (m - 1 - j + nb)) / c) * ((coef Y) i)) (K + k1), fun w v => NorV w v (((exM (coef Z) (coef Y) nb m c j i) (m - 1 - j + i)) - ((((exA (coef Z) (coef Y) nb m c j) (m - 1 - j + nb)) / c) * ((coef Y) i))) (K + (K + k1) + 1), At 2, fun w v => Ptr 2 (fun w v => NorV w v ((exM (coef Z) (coef Y) nb m c j i) (m - 1 - j + i)) K) w v, fun w v => ArrO 2 26 (fun ι w v => NorV w v ((exM (coef Z) (coef Y) nb m c j (i + 1)) ι) K) Z.length w v, fun _ v => v = .int .i64 (((i + 1) : Nat) : Int)]
def d_pexact_x_2 : LoopD := ⟨[0, 1, 4, 5, 7, 8, 9, 10, 11, 12, 15, 16, 17, 18, 19, 20, 21, 22, 23, 24, 25, 26, 27, 28, 29, 30, 31, 32, 33, 34, 35, 36, 39, 40, 41, 42, 43, 44, 45, 46, 47, 48, 49, 50, 51, 53, 54, 55, 56, 57, 58, 59, 60], [(.slot 61, .i), (.slot 6, .s)], [(.one 0, 36), (.one 1, .at [1] 37), (.one 1, .lo 1)], [.closed (.one (.ci .i64 0)), .from 16, .from 0], 36, [(37, 30)]⟩
def r_pexact_x_2_0 : List Step := [.base ⟨0, [.fact 36, .fact 29], [⟨.one (.lit (.cb true)), []⟩], .quiet (mBin .lss)⟩,
   .base ⟨0, [.fact 28, .fact 36], [⟨.one (.p), [(0, 0, 39)]⟩], .quiet (mIdx 23)⟩,
   .base ⟨0, [.fact 39], [⟨.agg [.b, .s], [(0, 0, 40)]⟩], .quiet (mLoad 26)⟩,
   .base ⟨0, [.fact 15, .fact 36], [⟨.one (.i), [(0, 0, 41)]⟩], .quiet (mBin .add)⟩,
   .base ⟨0, [.fact 15, .fact 36], [⟨.one (.i), [(0, 0, 42)]⟩], .quiet (mBin .add)⟩,
   .base ⟨0, [.fact 37, .fact 42], [⟨.one (.p), [(0, 0, 44)]⟩], .joint [1] 43 (mIdx 23)⟩,
   .base ⟨0, [.fact 44], [⟨.agg [.b, .s], [(0, 0, 45)]⟩], .quietF [1] (mLoad 26)⟩,
   .base ⟨48, [.fact 24, .fact 40], [⟨.agg [.b, .s], [(0, 0, 46)]⟩], false⟩,
   .base ⟨60, [.fact 45, .fact 46], [⟨.agg [.b, .s], [(0, 0, 47)]⟩], false⟩,
   .base ⟨0, [.fact 37, .fact 41], [⟨.one (.p), [(0, 0, 49)]⟩], .joint [1] 48 (mIdx 23)⟩,
   .base ⟨0, [.fact 37, .fact 41, .any, .fact 47], [⟨.one .s, [(0, 0, 50)]⟩], .put [] 1 0 48 (mPut 26 (.tmp 66) (.tmp 69))⟩,
   .base ⟨0, [.fact 36, .lit (.ci .i64 1)], [⟨.one (.i), [(0, 0, 51)]⟩], .quiet (mBin .add)⟩]
def o_pexact_x_2 : List Step := [.base ⟨0, [.fact 36, .fact 29], [⟨.one (.lit (.cb false)), []⟩], .quiet (mBin .lss)⟩]
def l_pexact_x_1 (k1 nb m K : Nat) (c : Int) (Z Y : List Int) (j : Nat) : List (World -> Value -> Prop) := [fun _ v => v = .int .i64 (((m : Nat) : Int) - 1 - ((j : Nat) : Int)), fun w v => ArrO 2 26 (fun ι w v => NorV w v ((exA (coef Z) (coef Y) nb m c j) ι) K) Z.length w v, fun _ _ => True, fun w v => ArrO 2 26 (fun ι w v => NorV w v ((dto m j (exT (coef Z) (coef Y) nb m c)) ι) K) m w v, fun _ _ => True, fun _ v => v = .int .i64 (((m - 1 - j + nb) : Nat) : Int), At 2, fun w v => Ptr 2 (fun w v => NorV w v ((exA (coef Z) (coef Y) nb m c j) (m - 1 - j + nb)) K) w v, fun w v => NorV w v ((exA (coef Z) (coef Y) nb m c j) (m - 1 - j + nb)) K, fun w v => NorV w v (((exA (coef Z) (coef Y) nb m c j) (m - 1 - j + nb)) / c) K, At 2, fun w v => Ptr 2 (fun w v => NorV w v ((dto m j (exT (coef Z) (coef Y) nb m c)) (m - 1 - j)) K) w v, fun w v => ArrO 2 26 (fun ι w v => NorV w v ((dto m (j + 1) (exT (coef Z) (coef Y) nb m c)) ι) K) m w v, fun w v => Rw 2 (fun ι w v => NorV w v ((coef Y) ι) k1) nb w v, fun _ v => v = .int .i64 ((nb : Nat) : Int), fun w v => ArrO 2 26 (fun ι w v => NorV w v ((exA (coef Z) (coef Y) nb m c (j + 1)) ι) K) Z.length w v, fun _ v => v = .int .i64 ((((m : Nat) : Int) - 1 - ((j : Nat) : Int)) - 1), fun _ v => v = .int .i64 (((m - 1 - j + nb) : Nat) : Int), At 2, fun w v => Ptr 2 (fun w v => NorV w v ((exA (coef Z) (coef Y) nb m c j) (m - 1 - j + nb)) K) w v, fun w v => NorV w v ((exA (coef Z) (coef Y) nb m c j) (m - 1 - j + nb)) K]
def d_pexact_x_1 : LoopD := ⟨[0, 1, 4, 5, 7, 8, 15, 16, 17, 18, 19, 20, 21, 22, 23, 24, 25, 26, 27, 28, 29, 30, 31, 32, 33, 34], [(.slot 10, .i), (.slot 6, .s), (.slot 9, .s)], [(.one 0, 15), (.one 1, .at [1] 16), (.one 1, .lo 1), (.one 2, .at [2] 18), (.one 2, .lo 2)], [.from 14, .from 2, .from 0, .from 11, .from 0], 15, []⟩
def r_pexact_x_1_0 : List Step := [.base ⟨0, [.fact 15, .lit (.ci .i64 0)], [⟨.one (.lit (.cb true)), []⟩], .quiet (mBin .geq)⟩,
   .base ⟨0, [.fact 15, .fact 5], [⟨.one (.i), [(0, 0, 20)]⟩], .quiet (mBin .add)⟩,
   .base ⟨0, [.fact 16, .fact 20], [⟨.one (.p), [(0, 0, 22)]⟩], .joint [1] 21 (mIdx 23)⟩,
   .base ⟨0, [.fact 22], [⟨.agg [.b, .s], [(0, 0, 23)]⟩], .quietF [1] (mLoad 26)⟩,
   .base ⟨97, [.fact 23, .fact 6], [⟨.agg [.b, .s], [(0, 0, 24)]⟩, ⟨.one (.lit (.ci .i64 0)), []⟩], true⟩,
   .base ⟨0, [.fact 18, .fact 15], [⟨.one (.p), [(0, 0, 26)]⟩], .joint [2] 25 (mIdx 23)⟩,
   .base ⟨0, [.fact 18, .fact 15, .any, .fact 24], [⟨.one .s, [(0, 0, 27)]⟩], .put [] 2 0 25 (mPut 26 (.tmp 53) (.tmp 54))⟩,
   .base ⟨0, [.fact 3, .fact 5], [⟨.one (.s), [(0, 0, 28)]⟩], .quiet (mTo' 23)⟩,
   .base ⟨0, [.fact 28], [⟨.one (.i), [(0, 0, 29)]⟩], .quiet (mLen 23)⟩,
   .loop d_pexact_x_2 [(r_pexact_x_2_0, [.from 51, .from 50, .from 0])] o_pexact_x_2,
   .base ⟨0, [.fact 15, .lit (.ci .i64 1)], [⟨.one (.i), [(0, 0, 31)]⟩], .quiet (mBin .sub)⟩]
def o_pexact_x_1 : List Step := [.base ⟨0, [.fact 15, .lit (.ci .i64 0)], [⟨.one (.lit (.cb true)), []⟩], .quiet (mBin .geq)⟩,
   .base ⟨0, [.fact 15, .fact 5], [⟨.one (.i), [(0, 0, 32)]⟩], .quiet (mBin .add)⟩,
   .base ⟨0, [.fact 16, .fact 32], [⟨.one (.p), [(0, 0, 34)]⟩], .joint [1] 33 (mIdx 23)⟩,
   .base ⟨0, [.fact 34], [⟨.agg [.b, .s], [(0, 0, 35)]⟩], .quietF [1] (mLoad 26)⟩,
   .base ⟨97, [.fact 35, .fact 6], [⟨.agg [.lit (.cb false), .lit (.nl)], []⟩, ⟨.one (.lit (.ci .i64 3)), []⟩], true⟩]
def ss_pexact_x : List Step := [.base ⟨93, [.fact 0], [⟨.one (.s), [(0, 0, 2)]⟩], .callN [] 1⟩,
   .base ⟨93, [.fact 1], [⟨.one (.s), [(0, 0, 3)]⟩], false⟩,
   .base ⟨0, [.fact 3], [⟨.one (.i), [(0, 0, 4)]⟩], .quiet (mLen 23)⟩,
   .base ⟨0, [.fact 4, .lit (.ci .i64 0)], [⟨.one (.lit (.cb false)), []⟩], .quiet (mBin .eql)⟩,
   .base ⟨58, [.fact 3], [⟨.one (.i), [(0, 0, 5)]⟩], false⟩,
   .base ⟨45, [.fact 3], [⟨.agg [.b, .s], [(0, 0, 6)]⟩], false⟩,
   .freed (.one (.s 4 0)) 2 7,
   .base ⟨0, [.fact 7], [⟨.one (.i), [(0, 0, 8)]⟩], .quiet (mLen 23)⟩,
   .base ⟨0, [.fact 8, .fact 5], [⟨.one (.i), [(0, 0, 9)]⟩], .quiet (mBin .sub)⟩,
   .base ⟨0, [.lit (.ci .i64 0), .fact 9], [⟨.one (.i), [(0, 0, 10)]⟩], .quiet (mMax .max)⟩,
   .base ⟨0, [.fact 10, .fact 10], [⟨.one (.s), [(0, 0, 11)]⟩], .loose [] 2 0 (mMake 23)⟩,
   .freed (.one (.s 24 0)) 11 12,
   .base ⟨0, [.fact 12], [⟨.one (.i), [(0, 0, 13)]⟩], .quiet (mLen 23)⟩,
   .base ⟨0, [.fact 13, .lit (.ci .i64 1)], [⟨.one (.i), [(0, 0, 14)]⟩], .quiet (mBin .sub)⟩,
   .loop d_pexact_x_1 [(r_pexact_x_1_0, [.from 31, .from 30, .from 0, .from 27, .from 0])] o_pexact_x_1]
def ins_pexact_x : List Out := [⟨.one (.s), [(0, 0, 0)]⟩, ⟨.one (.s), [(0, 0, 1)]⟩]
set_option maxRecDepth 100000 in
theorem pexact_x {z0 z1 : Nat -> Int} {n0 n1 k k1 nb m K J : Nat} {c : Int} {Z Y : List Int} (hn0 : n0 <= 1000000) (hn1 : n1 <= 1000000) (hk : k <= 90000) (hk1 : k1 <= 90000) (hY : trimL (mk n1 z1) = Y) (hkK : k <= K) (hYl : Y.length = nb + 1) (hnb : nb <= 800000) (hZ : trimL (mk n0 z0) = Z) (hZl : Z.length <= 1000000) (hm : m = Z.length - nb) (hK : K <= 90000) (hc : ldZ (coef Y) (nb + 1) = c) (hc0 : c ≠ 0) (hJ : J < m) (hdv : ∀ j, j < J -> c ∣ exA (coef Z) (coef Y) nb m c j (m - 1 - j + nb)) (hnd : exA (coef Z) (coef Y) nb m c J (m - 1 - J + nb) % c ≠ 0) (hM : ∀ j i p, j < m -> Bd (exM (coef Z) (coef Y) nb m c j i p).natAbs K) : SiteOk (ph (b_pexact_x z0 z1 n0 n1 k k1 nb m K c Z Y)) Tryz.prog ⟨41, [.fact 0, .fact 1], [⟨.one (.lit (.nl)), []⟩, ⟨.one (.lit (.ci .i64 3)), []⟩], true⟩ := by
 skip
 exact fn_okL ins_pexact_x [⟨.one (.lit (.nl)), []⟩, ⟨.one (.lit (.ci .i64 3)), []⟩] ss_pexact_x Tryz.func41 (by kernel_rfl)
  (lbase (sNormN (fun _ _ h => Rw.to (sz := 2) (n := n0) (F := (fun ι w v => IntV w v (z0 ι) k)) (h) (fun i w v _ h => (fun _ _ _ h => h) i w v h)) rfl (by omega) (by omega) hZ)
   (lbase (sNormPn (L := Y) (m := (nb + 1)) (fun _ _ h => Rw.to (sz := 2) (n := n1) (F := (fun ι w v => IntV w v (z1 ι) k1)) (h) (fun i w v _ h => (fun _ _ _ h => h) i w v h)) rfl (by omega) (by omega) hY hYl)
   (lbase (qLen (sz := 2) (n := (nb + 1)) (F := (fun ι w v => NorV w v ((coef Y) ι) k1)) Tryz.underlying23 (fun _ _ h => Rw.arr h) rfl)
   (lbase (qTestC (op := .eql) (fun _ _ h => h) (ts_run (show decide ((((nb + 1) : Nat) : Int) = 0) = false from decide_eq_false (by omega)) (by simp)))
   (lbase (sDeg (n := (nb + 1)) (fun _ _ h => Rw.lenS (sz := 2) (F := (fun ι w v => NorV w v ((coef Y) ι) k1)) (n := (nb + 1)) h) rfl (by omega) (by omega))
   (lbase (sLead (z := (coef Y)) (n := (nb + 1)) (fun _ _ h => Rw.to (sz := 2) (n := (nb + 1)) (F := (fun ι w v => NorV w v ((coef Y) ι) k1)) (h) (fun i w v _ h => (fun _ _ _ h => NorV.i h) i w v h)) rfl (by omega) (by omega) (hc))
   (lfreed (freeLen (e := 26) (sz := 2) (n := Z.length) (F := (fun ι w v => NorV w v ((coef Z) ι) k)) (fun _ _ h => h) rfl)
   (lbase (qLenS' (n := Z.length) Tryz.underlying23 (fun _ _ h => h) rfl)
   (lbase (qSubJ (fun _ _ h => h) (fun _ _ h => h) (rfl) rfl (by omega) (by omega))
   (lbase (qMaxD (fun _ _ h => h) (by split <;> omega) rfl)
   (lbase (qMakeI (n := m) (F := (fun ι w v => NorV w v ((dto m 0 (exT (coef Z) (coef Y) nb m c)) ι) K)) (fun _ _ h => h) (by omega) (fun i w => by rw [dto_zero]; exact NorV.zero w K) rfl)
   (lfreed (freeLen (e := 26) (sz := 2) (n := m) (F := (fun ι w v => NorV w v ((dto m 0 (exT (coef Z) (coef Y) nb m c)) ι) K)) (fun _ _ h => h) rfl)
   (lbase (qLenS' (n := m) Tryz.underlying23 (fun _ _ h => h) rfl)
   (lbase (qSubK (fun _ _ h => h) (rfl) rfl (by omega) (by omega))
   (lloop (counted J (fun j => ph (b_pexact_x z0 z1 n0 n1 k k1 nb m K c Z Y ++ l_pexact_x_1 k1 nb m K c Z Y j)) (fun _ => 0) (fun j p hp => ph_app' (show p < (b_pexact_x z0 z1 n0 n1 k k1 nb m K c Z Y).length from hp)) ⟨fun _ _ h => h.trans (congrArg (Value.int .i64) (by omega)), fun _ _ h => ArrO.to (sz := 2) (e := 26) (n := Z.length) (F := fun ι w v => NorV w v (coef Z ι) k) (G := (fun ι w v => NorV w v ((exA (coef Z) (coef Y) nb m c 0) ι) K)) h fun a w v ha h => NorV.more h (by omega), fun _ _ _ => trivial, fun _ _ h => h, fun _ _ _ => trivial, trivial⟩ (fun j hj => by
   have hjm : j < m := by omega
   exact ⟨(r_pexact_x_1_0, [.from 31, .from 30, .from 0, .from 27, .from 0]), rfl, ⟨fun _ _ h => h.trans (congrArg (Value.int .i64) (by omega)), fun _ _ h => h, fun _ _ _ => trivial, fun _ _ h => h, fun _ _ _ => trivial, trivial⟩, (lbase (qTestC (op := .geq) (fun _ _ h => h) (ts_run (decide_eq_true (by omega)) (by simp)))
   (lbase (qAddJ (fun _ _ h => h) (fun _ _ h => h) (by omega) rfl (by omega) (by omega))
   (lbase (qIdxJ (i := (m - 1 - j + nb)) (sz := 2) (n := Z.length) (F := (fun ι w v => NorV w v ((exA (coef Z) (coef Y) nb m c j) ι) K)) Tryz.underlying23 (by kernel_rfl) (fun _ _ h => ArrO.arr h) (fun _ _ h => h) (by omega) rfl rfl)
   (lbase (qLoadF (sz := 2) (F := fun w v => NorV w v ((exA (coef Z) (coef Y) nb m c j) (m - 1 - j + nb)) K) (by kernel_rfl) (by kernel_rfl) (fun _ _ h => h) (fun _ _ _ g h => NorV.kp h g) (fun _ _ h => NorV.is h) rfl)
   (lbase (sExact nI nI rfl (by omega) (hc0) (hdv j hj) rfl)
   (lbase (qIdxJ (i := (m - 1 - j)) (sz := 2) (n := m) (F := (fun ι w v => NorV w v ((dto m j (exT (coef Z) (coef Y) nb m c)) ι) K)) Tryz.underlying23 (by kernel_rfl) (fun _ _ h => ArrO.arr h) (fun _ _ h => h.trans (congrArg (Value.int .i64) (by omega))) (by omega) rfl rfl)
   (lbase (qPutR (i := (m - 1 - j)) (n := m) (F := (fun ι w v => NorV w v ((dto m j (exT (coef Z) (coef Y) nb m c)) ι) K)) (F' := (fun ι w v => NorV w v ((dto m (j + 1) (exT (coef Z) (coef Y) nb m c)) ι) K)) (G := fun w v => NorV w v (((exA (coef Z) (coef Y) nb m c j) (m - 1 - j + nb)) / c) K) (.tmp 53) (.tmp 54) (by kernel_rfl) (fun _ _ h => h) (fun _ _ h => h.trans (congrArg (Value.int .i64) (by omega))) (by omega) (fun _ _ h => h) rfl (fun _ _ h => NorV.cells h) (fun _ _ _ _ g h => NorV.kp h g) (fun _ _ _ g h => NorV.kp h g) (fun i w v hi h => by rw [dto_ne (by omega) hi]; exact h) (fun w v h => h.eq (exT_at (by omega))) rfl)
   (lbase (qToA (m := nb) (n := (nb + 1)) (F := (fun ι w v => NorV w v ((coef Y) ι) k1)) Tryz.underlying23 (by kernel_rfl) (fun _ _ h => h) (fun _ _ h => h) (by first | omega | exact tl_le _ _) rfl)
   (lbase (qLen (sz := 2) (n := nb) (F := (fun ι w v => NorV w v ((coef Y) ι) k1)) Tryz.underlying23 (fun _ _ h => Rw.arr h) rfl)
   (lloop (counted nb (fun i => ph ((b_pexact_x z0 z1 n0 n1 k k1 nb m K c Z Y ++ l_pexact_x_1 k1 nb m K c Z Y j) ++ l_pexact_x_2 k1 nb m K c Z Y j i)) (fun _ => 0) (fun i p hp => ph_app' (show p < (b_pexact_x z0 z1 n0 n1 k k1 nb m K c Z Y ++ l_pexact_x_1 k1 nb m K c Z Y j).length from hp)) ⟨fun _ => rfl, fun _ _ h => ArrO.to (sz := 2) (e := 26) (n := Z.length) (F := (fun ι w v => NorV w v ((exA (coef Z) (coef Y) nb m c j) ι) K)) (G := (fun ι w v => NorV w v ((exM (coef Z) (coef Y) nb m c j 0) ι) K)) h fun a w v ha h => by rw [exM_zero]; exact h, fun _ _ _ => trivial, trivial⟩ (fun i hi => by
   skip
   exact ⟨(r_pexact_x_2_0, [.from 51, .from 50, .from 0]), rfl, ⟨fun _ _ h => h, fun _ _ h => h, fun _ _ _ => trivial, trivial⟩, (lbase (qTest (op := .lss) (fun _ _ h => h) (fun _ _ h => h) (ts_run (decide_eq_true (by omega)) (by simp)))
   (lbase (qIdx (i := i) (sz := 2) (n := nb) (F := (fun ι w v => NorV w v ((coef Y) ι) k1)) Tryz.underlying23 (by kernel_rfl) (fun _ _ h => Rw.arr h) (fun _ _ h => h) (by omega) rfl)
   (lbase (qLoad (sz := 2) (F := fun w v => NorV w v ((coef Y) i) k1) (by kernel_rfl) (by kernel_rfl) (fun _ _ h => h) (fun _ _ _ g h => NorV.kp h g) (fun _ _ h => NorV.is h) rfl)
   (lbase (qAddJ (fun _ _ h => h) (fun _ _ h => h) (by omega) rfl (by omega) (by omega))
   (lbase (qAddJ (fun _ _ h => h) (fun _ _ h => h) (by omega) rfl (by omega) (by omega))
   (lbase (qIdxJ (i := (m - 1 - j + i)) (sz := 2) (n := Z.length) (F := (fun ι w v => NorV w v ((exM (coef Z) (coef Y) nb m c j i) ι) K)) Tryz.underlying23 (by kernel_rfl) (fun _ _ h => ArrO.arr h) (fun _ _ h => h) (by omega) rfl rfl)
   (lbase (qLoadF (sz := 2) (F := fun w v => NorV w v ((exM (coef Z) (coef Y) nb m c j i) (m - 1 - j + i)) K) (by kernel_rfl) (by kernel_rfl) (fun _ _ h => h) (fun _ _ _ g h => NorV.kp h g) (fun _ _ h => NorV.is h) rfl)
   (lbase (sMul nI nI rfl (by omega) rfl)
   (lbase (sSub5 nI nI rfl (by omega) rfl)
   (lbase (qIdxJ (i := (m - 1 - j + i)) (sz := 2) (n := Z.length) (F := (fun ι w v => NorV w v ((exM (coef Z) (coef Y) nb m c j i) ι) K)) Tryz.underlying23 (by kernel_rfl) (fun _ _ h => ArrO.arr h) (fun _ _ h => h) (by omega) rfl rfl)
   (lbase (qPutR (i := (m - 1 - j + i)) (n := Z.length) (F := (fun ι w v => NorV w v ((exM (coef Z) (coef Y) nb m c j i) ι) K)) (F' := (fun ι w v => NorV w v ((exM (coef Z) (coef Y) nb m c j (i + 1)) ι) K)) (G := fun w v => NorV w v (((exM (coef Z) (coef Y) nb m c j i) (m - 1 - j + i)) - ((((exA (coef Z) (coef Y) nb m c j) (m - 1 - j + nb)) / c) * ((coef Y) i))) (K + (K + k1) + 1)) (.tmp 66) (.tmp 69) (by kernel_rfl) (fun _ _ h => h) (fun _ _ h => h) (by omega) (fun _ _ h => h) rfl (fun _ _ h => NorV.cells h) (fun _ _ _ _ g h => NorV.kp h g) (fun _ _ _ g h => NorV.kp h g) (fun a w v ha h => by rw [exM_ne ha]; exact h) (fun w v h => NorV.re (h.eq (exM_at (by omega))) (hM j (i + 1) _ (by omega))) rfl)
   (lbase (qAddK (fun _ _ h => h) (by omega) rfl (by omega) (by omega))
   lnil))))))))))))⟩)
   (lbase (qTest (op := .lss) (fun _ _ h => h) (fun _ _ h => h) (ts_run (decide_eq_false (by omega)) (by simp)))
   lnil)
   (fun q hq w v h => by
    simp only [d_pexact_x_2, List.mem_cons, List.not_mem_nil, or_false] at hq
    rcases hq with rfl
    ·exact (fun h => h) h)) (lbase (qSubK (fun _ _ h => h) (rfl) rfl (by omega) (by omega))
   lnil)))))))))))⟩)
   (by
   obtain ⟨j, rfl⟩ : ∃ j, j = J := ⟨J, rfl⟩
   exact (lbase (qTestC (op := .geq) (fun _ _ h => h) (ts_run (decide_eq_true (by omega)) (by simp)))
   (lbase (qAddJ (fun _ _ h => h) (fun _ _ h => h) (by omega) rfl (by omega) (by omega))
   (lbase (qIdxJ (i := (m - 1 - j + nb)) (sz := 2) (n := Z.length) (F := (fun ι w v => NorV w v ((exA (coef Z) (coef Y) nb m c j) ι) K)) Tryz.underlying23 (by kernel_rfl) (fun _ _ h => ArrO.arr h) (fun _ _ h => h) (by omega) rfl rfl)
   (lbase (qLoadF (sz := 2) (F := fun w v => NorV w v ((exA (coef Z) (coef Y) nb m c j) (m - 1 - j + nb)) K) (by kernel_rfl) (by kernel_rfl) (fun _ _ h => h) (fun _ _ _ g h => NorV.kp h g) (fun _ _ h => NorV.is h) rfl)
   (lbase (sExactN nI nI (by omega) hnd hc0)
   lnil))))))
   (fun q hq => by cases hq)) lnil)))))))))))))))
  (ins_ok [.fact 0 (.one (.s)), .fact 1 (.one (.s))] ⟨fun _ _ h => Rw.is (sz := 2) (F := (fun ι w v => IntV w v (z0 ι) k)) (n := n0) h, fun _ _ h => Rw.is (sz := 2) (F := (fun ι w v => IntV w v (z1 ι) k1)) (n := n1) h, trivial⟩) (fun _ _ _ h => h)
def b_pexact_r (z0 z1 : Nat -> Int) (n0 n1 k k1 nb m K : Nat) (c : Int) (Z Y L2 : List Int) : List (World -> Value -> Prop) := [fun w v => Rw 2 (fun ι w v => IntV w v (z0 ι) k) n0 w v, fun w v => Rw 2 (fun ι w v => IntV w v (z1 ι) k1) n1 w v, fun w v => ArrO 2 26 (fun ι w v => NorV w v ((coef Z) ι) k) Z.length w v, fun w v => Rw 2 (fun ι w v => NorV w v ((coef Y) ι) k1) (nb + 1) w v, fun _ v => v = .int .i64 (((nb + 1) : Nat) : Int), fun _ v => v = .int .i64 ((nb : Nat) : Int), fun w v => NorV w v c k1, LenS Z.length, fun _ v => v = .int .i64 ((Z.length : Nat) : Int), fun _ v => v = .int .i64 (((Z.length : Nat) : Int) - ((nb : Nat) : Int)), fun _ v => v = .int .i64 ((m : Nat) : Int), fun w v => ArrO 2 26 (fun ι w v => NorV w v ((dto m 0 (exT (coef Z) (coef Y) nb m c)) ι) K) m w v, LenS m, fun _ v => v = .int .i64 ((m : Nat) : Int), fun _ v => v = .int .i64 (((m : Nat) : Int) - 1), fun w v => ArrO 2 26 (fun ι w v => NorV w v ((exA (coef Z) (coef Y) nb m c m) ι) K) Z.length w v, fun w v => ArrO 2 26 (fun ι w v => NorV w v ((dto m m (exT (coef Z) (coef Y) nb m c)) ι) K) m w v, fun w v => Rw 2 (fun ι w v => NorV w v ((coef L2) ι) K) L2.length w v, fun _ v => v = .int .i64 ((L2.length : Nat) : Int)]
def l_pexact_r_2 (k1 nb m K : Nat) (c : Int) (Z Y : List Int) (j i : Nat) : List (World -> Value -> Prop) := [fun _ v => v = .int .i64 ((i : Nat) : Int), fun w v => ArrO 2 26 (fun ι w v => NorV w v ((exM (coef Z) (coef Y) nb m c j i) ι) K) Z.length w v, fun _ _ => True, fun w v => Ptr 2 (fun w v => NorV w v ((coef Y) i) k1) w v, fun w v => NorV w v ((coef Y) i) k1, fun _ v => v = .int .i64 (((m - 1 - j + i) : Nat) : Int), fun _ v => v = .int .i64 (((m - 1 - j + i) : Nat) : Int), At 2, fun w v => Ptr 2 (fun w v => NorV w v ((exM (coef Z) (coef Y) nb m c j i) (m - 1 - j + i)) K) w v, fun w v => NorV w v ((exM (coef Z) (coef Y) nb m c j i) (m - 1 - j + i)) K, fun w v => NorV w v ((((exA (coef Z) (coef Y) nb m c j) (m - 1 - j + nb)) / c) * ((coef Y) i)) (K + k1), fun w v => NorV w v (((exM (coef Z) (coef Y) nb m c j i) (m - 1 - j + i)) - ((((exA (coef Z) (coef Y) nb m c j) (m - 1 - j + nb)) / c) * ((coef Y) i))) (K + (K + k1) + 1), At 2, fun w v => Ptr 2 (fun w v => NorV w v ((exM (coef Z) (coef Y) nb m c j i) (m - 1 - j + i)) K) w v, fun w v => ArrO 2 26 (fun ι w v => NorV w v ((exM (coef Z) (coef Y) nb m c j (i + 1)) ι) K) Z.length w v, fun _ v => v = .int .i64 (((i + 1) : Nat) : Int)]
def d_pexact_r_2 : LoopD := ⟨[0, 1, 4, 5, 7, 8, 9, 10, 11, 12, 15, 16, 17, 18, 19, 20, 21, 22, 23, 24, 25, 26, 27, 28, 29, 30, 31, 32, 33, 34, 35, 36, 39, 40, 41, 42, 43, 44, 45, 46, 47, 48, 49, 50, 51, 53, 54, 55, 56, 57, 58, 59, 60], [(.slot 61, .i), (.slot 6, .s)], [(.one 0, 36), (.one 1, .at [1] 37), (.one 1, .lo 1)], [.closed (.one (.ci .i64 0)), .from 20, .from 0], 36, [(37, 34)]⟩
def r_pexact_r_2_0 : List Step := [.base ⟨0, [.fact 36, .fact 33], [⟨.one (.lit (.cb true)), []⟩], .quiet (mBin .lss)⟩,
   .base ⟨0, [.fact 32, .fact 36], [⟨.one (.p), [(0, 0, 39)]⟩], .quiet (mIdx 23)⟩,
   .base ⟨0, [.fact 39], [⟨.agg [.b, .s], [(0, 0, 40)]⟩], .quiet (mLoad 26)⟩,
   .base ⟨0, [.fact 19, .fact 36], [⟨.one (.i), [(0, 0, 41)]⟩], .quiet (mBin .add)⟩,
   .base ⟨0, [.fact 19, .fact 36], [⟨.one (.i), [(0, 0, 42)]⟩], .quiet (mBin .add)⟩,
   .base ⟨0, [.fact 37, .fact 42], [⟨.one (.p), [(0, 0, 44)]⟩], .joint [1] 43 (mIdx 23)⟩,
   .base ⟨0, [.fact 44], [⟨.agg [.b, .s], [(0, 0, 45)]⟩], .quietF [1] (mLoad 26)⟩,
   .base ⟨48, [.fact 28, .fact 40], [⟨.agg [.b, .s], [(0, 0, 46)]⟩], false⟩,
   .base ⟨60, [.fact 45, .fact 46], [⟨.agg [.b, .s], [(0, 0, 47)]⟩], false⟩,
   .base ⟨0, [.fact 37, .fact 41], [⟨.one (.p), [(0, 0, 49)]⟩], .joint [1] 48 (mIdx 23)⟩,
   .base ⟨0, [.fact 37, .fact 41, .any, .fact 47], [⟨.one .s, [(0, 0, 50)]⟩], .put [] 1 0 48 (mPut 26 (.tmp 66) (.tmp 69))⟩,
   .base ⟨0, [.fact 36, .lit (.ci .i64 1)], [⟨.one (.i), [(0, 0, 51)]⟩], .quiet (mBin .add)⟩]
def o_pexact_r_2 : List Step := [.base ⟨0, [.fact 36, .fact 33], [⟨.one (.lit (.cb false)), []⟩], .quiet (mBin .lss)⟩]
def l_pexact_r_1 (k1 nb m K : Nat) (c : Int) (Z Y : List Int) (j : Nat) : List (World -> Value -> Prop) := [fun _ v => v = .int .i64 (((m : Nat) : Int) - 1 - ((j : Nat) : Int)), fun w v => ArrO 2 26 (fun ι w v => NorV w v ((exA (coef Z) (coef Y) nb m c j) ι) K) Z.length w v, fun _ _ => True, fun w v => ArrO 2 26 (fun ι w v => NorV w v ((dto m j (exT (coef Z) (coef Y) nb m c)) ι) K) m w v, fun _ _ => True, fun _ v => v = .int .i64 (((m - 1 - j + nb) : Nat) : Int), At 2, fun w v => Ptr 2 (fun w v => NorV w v ((exA (coef Z) (coef Y) nb m c j) (m - 1 - j + nb)) K) w v, fun w v => NorV w v ((exA (coef Z) (coef Y) nb m c j) (m - 1 - j + nb)) K, fun w v => NorV w v (((exA (coef Z) (coef Y) nb m c j) (m - 1 - j + nb)) / c) K, At 2, fun w v => Ptr 2 (fun w v => NorV w v ((dto m j (exT (coef Z) (coef Y) nb m c)) (m - 1 - j)) K) w v, fun w v => ArrO 2 26 (fun ι w v => NorV w v ((dto m (j + 1) (exT (coef Z) (coef Y) nb m c)) ι) K) m w v, fun w v => Rw 2 (fun ι w v => NorV w v ((coef Y) ι) k1) nb w v, fun _ v => v = .int .i64 ((nb : Nat) : Int), fun w v => ArrO 2 26 (fun ι w v => NorV w v ((exA (coef Z) (coef Y) nb m c (j + 1)) ι) K) Z.length w v, fun _ v => v = .int .i64 ((((m : Nat) : Int) - 1 - ((j : Nat) : Int)) - 1)]
def d_pexact_r_1 : LoopD := ⟨[0, 1, 4, 5, 7, 8, 15, 16, 17, 18, 19, 20, 21, 22, 23, 24, 25, 26, 27, 28, 29, 30, 31, 32, 33, 34], [(.slot 10, .i), (.slot 6, .s), (.slot 9, .s)], [(.one 0, 19), (.one 1, .at [1] 20), (.one 1, .lo 1), (.one 2, .at [2] 22), (.one 2, .lo 2)], [.from 14, .from 2, .from 0, .from 11, .from 0], 19, [(20, 15), (22, 16)]⟩
def r_pexact_r_1_0 : List Step := [.base ⟨0, [.fact 19, .lit (.ci .i64 0)], [⟨.one (.lit (.cb true)), []⟩], .quiet (mBin .geq)⟩,
   .base ⟨0, [.fact 19, .fact 5], [⟨.one (.i), [(0, 0, 24)]⟩], .quiet (mBin .add)⟩,
   .base ⟨0, [.fact 20, .fact 24], [⟨.one (.p), [(0, 0, 26)]⟩], .joint [1] 25 (mIdx 23)⟩,
   .base ⟨0, [.fact 26], [⟨.agg [.b, .s], [(0, 0, 27)]⟩], .quietF [1] (mLoad 26)⟩,
   .base ⟨97, [.fact 27, .fact 6], [⟨.agg [.b, .s], [(0, 0, 28)]⟩, ⟨.one (.lit (.ci .i64 0)), []⟩], true⟩,
   .base ⟨0, [.fact 22, .fact 19], [⟨.one (.p), [(0, 0, 30)]⟩], .joint [2] 29 (mIdx 23)⟩,
   .base ⟨0, [.fact 22, .fact 19, .any, .fact 28], [⟨.one .s, [(0, 0, 31)]⟩], .put [] 2 0 29 (mPut 26 (.tmp 53) (.tmp 54))⟩,
   .base ⟨0, [.fact 3, .fact 5], [⟨.one (.s), [(0, 0, 32)]⟩], .quiet (mTo' 23)⟩,
   .base ⟨0, [.fact 32], [⟨.one (.i), [(0, 0, 33)]⟩], .quiet (mLen 23)⟩,
   .loop d_pexact_r_2 [(r_pexact_r_2_0, [.from 51, .from 50, .from 0])] o_pexact_r_2,
   .base ⟨0, [.fact 19, .lit (.ci .i64 1)], [⟨.one (.i), [(0, 0, 35)]⟩], .quiet (mBin .sub)⟩]
def o_pexact_r_1 : List Step := [.base ⟨0, [.fact 19, .lit (.ci .i64 0)], [⟨.one (.lit (.cb false)), []⟩], .quiet (mBin .geq)⟩]
def ss_pexact_r : List Step := [.base ⟨93, [.fact 0], [⟨.one (.s), [(0, 0, 2)]⟩], .callN [] 1⟩,
   .base ⟨93, [.fact 1], [⟨.one (.s), [(0, 0, 3)]⟩], false⟩,
   .base ⟨0, [.fact 3], [⟨.one (.i), [(0, 0, 4)]⟩], .quiet (mLen 23)⟩,
   .base ⟨0, [.fact 4, .lit (.ci .i64 0)], [⟨.one (.lit (.cb false)), []⟩], .quiet (mBin .eql)⟩,
   .base ⟨58, [.fact 3], [⟨.one (.i), [(0, 0, 5)]⟩], false⟩,
   .base ⟨45, [.fact 3], [⟨.agg [.b, .s], [(0, 0, 6)]⟩], false⟩,
   .freed (.one (.s 4 0)) 2 7,
   .base ⟨0, [.fact 7], [⟨.one (.i), [(0, 0, 8)]⟩], .quiet (mLen 23)⟩,
   .base ⟨0, [.fact 8, .fact 5], [⟨.one (.i), [(0, 0, 9)]⟩], .quiet (mBin .sub)⟩,
   .base ⟨0, [.lit (.ci .i64 0), .fact 9], [⟨.one (.i), [(0, 0, 10)]⟩], .quiet (mMax .max)⟩,
   .base ⟨0, [.fact 10, .fact 10], [⟨.one (.s), [(0, 0, 11)]⟩], .loose [] 2 0 (mMake 23)⟩,
   .freed (.one (.s 24 0)) 11 12,
   .base ⟨0, [.fact 12], [⟨.one (.i), [(0, 0, 13)]⟩], .quiet (mLen 23)⟩,
   .base ⟨0, [.fact 13, .lit (.ci .i64 1)], [⟨.one (.i), [(0, 0, 14)]⟩], .quiet (mBin .sub)⟩,
   .loop d_pexact_r_1 [(r_pexact_r_1_0, [.from 35, .from 34, .from 0, .from 31, .from 0])] o_pexact_r_1,
   .base ⟨98, [.fact 15, .fact 5], [⟨.one (.s), [(0, 0, 17)]⟩], .callJ [1] false⟩,
   .base ⟨0, [.fact 17], [⟨.one (.i), [(0, 0, 18)]⟩], .quietJ [1] (mLen 23)⟩,
   .base ⟨0, [.fact 18, .lit (.ci .i64 0)], [⟨.one (.lit (.cb true)), []⟩], .quietJ [1] (mBin .gtr)⟩]
def ins_pexact_r : List Out := [⟨.one (.s), [(0, 0, 0)]⟩, ⟨.one (.s), [(0, 0, 1)]⟩]
set_option maxRecDepth 100000 in
theorem pexact_r {z0 z1 : Nat -> Int} {n0 n1 k k1 nb m K : Nat} {c : Int} {Z Y L2 : List Int} (hn0 : n0 <= 1000000) (hn1 : n1 <= 1000000) (hk : k <= 90000) (hk1 : k1 <= 90000) (hY : trimL (mk n1 z1) = Y) (hkK : k <= K) (hYl : Y.length = nb + 1) (hnb : nb <= 800000) (hZ : trimL (mk n0 z0) = Z) (hZl : Z.length <= 1000000) (hm : m = Z.length - nb) (hK : K <= 90000) (hc : ldZ (coef Y) (nb + 1) = c) (hc0 : c ≠ 0) (hdv : ∀ j, j < m -> c ∣ exA (coef Z) (coef Y) nb m c j (m - 1 - j + nb)) (hM : ∀ j i p, j < m -> Bd (exM (coef Z) (coef Y) nb m c j i p).natAbs K) (hL2 : trimL (mk (min nb Z.length) (exA (coef Z) (coef Y) nb m c m)) = L2) (hL2p : 0 < L2.length) : SiteOk (ph (b_pexact_r z0 z1 n0 n1 k k1 nb m K c Z Y L2)) Tryz.prog ⟨41, [.fact 0, .fact 1], [⟨.one (.lit (.nl)), []⟩, ⟨.one (.lit (.ci .i64 3)), []⟩], true⟩ := by
 skip
 exact fn_okL ins_pexact_r [⟨.one (.lit (.nl)), []⟩, ⟨.one (.lit (.ci .i64 3)), []⟩] ss_pexact_r Tryz.func41 (by kernel_rfl)
  (lbase (sNormN (fun _ _ h => Rw.to (sz := 2) (n := n0) (F := (fun ι w v => IntV w v (z0 ι) k)) (h) (fun i w v _ h => (fun _ _ _ h => h) i w v h)) rfl (by omega) (by omega) hZ)
   (lbase (sNormPn (L := Y) (m := (nb + 1)) (fun _ _ h => Rw.to (sz := 2) (n := n1) (F := (fun ι w v => IntV w v (z1 ι) k1)) (h) (fun i w v _ h => (fun _ _ _ h => h) i w v h)) rfl (by omega) (by omega) hY hYl)
   (lbase (qLen (sz := 2) (n := (nb + 1)) (F := (fun ι w v => NorV w v ((coef Y) ι) k1)) Tryz.underlying23 (fun _ _ h => Rw.arr h) rfl)
   (lbase (qTestC (op := .eql) (fun _ _ h => h) (ts_run (show decide ((((nb + 1) : Nat) : Int) = 0) = false from decide_eq_false (by omega)) (by simp)))
   (lbase (sDeg (n := (nb + 1)) (fun _ _ h => Rw.lenS (sz := 2) (F := (fun ι w v => NorV w v ((coef Y) ι) k1)) (n := (nb + 1)) h) rfl (by omega) (by omega))
   (lbase (sLead (z := (coef Y)) (n := (nb + 1)) (fun _ _ h => Rw.to (sz := 2) (n := (nb + 1)) (F := (fun ι w v => NorV w v ((coef Y) ι) k1)) (h) (fun i w v _ h => (fun _ _ _ h => NorV.i h) i w v h)) rfl (by omega) (by omega) (hc))
   (lfreed (freeLen (e := 26) (sz := 2) (n := Z.length) (F := (fun ι w v => NorV w v ((coef Z) ι) k)) (fun _ _ h => h) rfl)
   (lbase (qLenS' (n := Z.length) Tryz.underlying23 (fun _ _ h => h) rfl)
   (lbase (qSubJ (fun _ _ h => h) (fun _ _ h => h) (rfl) rfl (by omega) (by omega))
   (lbase (qMaxD (fun _ _ h => h) (by split <;> omega) rfl)
   (lbase (qMakeI (n := m) (F := (fun ι w v => NorV w v ((dto m 0 (exT (coef Z) (coef Y) nb m c)) ι) K)) (fun _ _ h => h) (by omega) (fun i w => by rw [dto_zero]; exact NorV.zero w K) rfl)
   (lfreed (freeLen (e := 26) (sz := 2) (n := m) (F := (fun ι w v => NorV w v ((dto m 0 (exT (coef Z) (coef Y) nb m c)) ι) K)) (fun _ _ h => h) rfl)
   (lbase (qLenS' (n := m) Tryz.underlying23 (fun _ _ h => h) rfl)
   (lbase (qSubK (fun _ _ h => h) (rfl) rfl (by omega) (by omega))
   (lloop (counted m (fun j => ph (b_pexact_r z0 z1 n0 n1 k k1 nb m K c Z Y L2 ++ l_pexact_r_1 k1 nb m K c Z Y j)) (fun _ => 0) (fun j p hp => ph_app' (show p < (b_pexact_r z0 z1 n0 n1 k k1 nb m K c Z Y L2).length from hp)) ⟨fun _ _ h => h.trans (congrArg (Value.int .i64) (by omega)), fun _ _ h => ArrO.to (sz := 2) (e := 26) (n := Z.length) (F := fun ι w v => NorV w v (coef Z ι) k) (G := (fun ι w v => NorV w v ((exA (coef Z) (coef Y) nb m c 0) ι) K)) h fun a w v ha h => NorV.more h (by omega), fun _ _ _ => trivial, fun _ _ h => h, fun _ _ _ => trivial, trivial⟩ (fun j hj => by
   skip
   exact ⟨(r_pexact_r_1_0, [.from 35, .from 34, .from 0, .from 31, .from 0]), rfl, ⟨fun _ _ h => h.trans (congrArg (Value.int .i64) (by omega)), fun _ _ h => h, fun _ _ _ => trivial, fun _ _ h => h, fun _ _ _ => trivial, trivial⟩, (lbase (qTestC (op := .geq) (fun _ _ h => h) (ts_run (decide_eq_true (by omega)) (by simp)))
   (lbase (qAddJ (fun _ _ h => h) (fun _ _ h => h) (by omega) rfl (by omega) (by omega))
   (lbase (qIdxJ (i := (m - 1 - j + nb)) (sz := 2) (n := Z.length) (F := (fun ι w v => NorV w v ((exA (coef Z) (coef Y) nb m c j) ι) K)) Tryz.underlying23 (by kernel_rfl) (fun _ _ h => ArrO.arr h) (fun _ _ h => h) (by omega) rfl rfl)
   (lbase (qLoadF (sz := 2) (F := fun w v => NorV w v ((exA (coef Z) (coef Y) nb m c j) (m - 1 - j + nb)) K) (by kernel_rfl) (by kernel_rfl) (fun _ _ h => h) (fun _ _ _ g h => NorV.kp h g) (fun _ _ h => NorV.is h) rfl)
   (lbase (sExact nI nI rfl (by omega) (hc0) (hdv j hj) rfl)
   (lbase (qIdxJ (i := (m - 1 - j)) (sz := 2) (n := m) (F := (fun ι w v => NorV w v ((dto m j (exT (coef Z) (coef Y) nb m c)) ι) K)) Tryz.underlying23 (by kernel_rfl) (fun _ _ h => ArrO.arr h) (fun _ _ h => h.trans (congrArg (Value.int .i64) (by omega))) (by omega) rfl rfl)
   (lbase (qPutR (i := (m - 1 - j)) (n := m) (F := (fun ι w v => NorV w v ((dto m j (exT (coef Z) (coef Y) nb m c)) ι) K)) (F' := (fun ι w v => NorV w v ((dto m (j + 1) (exT (coef Z) (coef Y) nb m c)) ι) K)) (G := fun w v => NorV w v (((exA (coef Z) (coef Y) nb m c j) (m - 1 - j + nb)) / c) K) (.tmp 53) (.tmp 54) (by kernel_rfl) (fun _ _ h => h) (fun _ _ h => h.trans (congrArg (Value.int .i64) (by omega))) (by omega) (fun _ _ h => h) rfl (fun _ _ h => NorV.cells h) (fun _ _ _ _ g h => NorV.kp h g) (fun _ _ _ g h => NorV.kp h g) (fun i w v hi h => by rw [dto_ne (by omega) hi]; exact h) (fun w v h => h.eq (exT_at hj)) rfl)
   (lbase (qToA (m := nb) (n := (nb + 1)) (F := (fun ι w v => NorV w v ((coef Y) ι) k1)) Tryz.underlying23 (by kernel_rfl) (fun _ _ h => h) (fun _ _ h => h) (by first | omega | exact tl_le _ _) rfl)
   (lbase (qLen (sz := 2) (n := nb) (F := (fun ι w v => NorV w v ((coef Y) ι) k1)) Tryz.underlying23 (fun _ _ h => Rw.arr h) rfl)
   (lloop (counted nb (fun i => ph ((b_pexact_r z0 z1 n0 n1 k k1 nb m K c Z Y L2 ++ l_pexact_r_1 k1 nb m K c Z Y j) ++ l_pexact_r_2 k1 nb m K c Z Y j i)) (fun _ => 0) (fun i p hp => ph_app' (show p < (b_pexact_r z0 z1 n0 n1 k k1 nb m K c Z Y L2 ++ l_pexact_r_1 k1 nb m K c Z Y j).length from hp)) ⟨fun _ => rfl, fun _ _ h => ArrO.to (sz := 2) (e := 26) (n := Z.length) (F := (fun ι w v => NorV w v ((exA (coef Z) (coef Y) nb m c j) ι) K)) (G := (fun ι w v => NorV w v ((exM (coef Z) (coef Y) nb m c j 0) ι) K)) h fun a w v ha h => by rw [exM_zero]; exact h, fun _ _ _ => trivial, trivial⟩ (fun i hi => by
   skip
   exact ⟨(r_pexact_r_2_0, [.from 51, .from 50, .from 0]), rfl, ⟨fun _ _ h => h, fun _ _ h => h, fun _ _ _ => trivial, trivial⟩, (lbase (qTest (op := .lss) (fun _ _ h => h) (fun _ _ h => h) (ts_run (decide_eq_true (by omega)) (by simp)))
   (lbase (qIdx (i := i) (sz := 2) (n := nb) (F := (fun ι w v => NorV w v ((coef Y) ι) k1)) Tryz.underlying23 (by kernel_rfl) (fun _ _ h => Rw.arr h) (fun _ _ h => h) (by omega) rfl)
   (lbase (qLoad (sz := 2) (F := fun w v => NorV w v ((coef Y) i) k1) (by kernel_rfl) (by kernel_rfl) (fun _ _ h => h) (fun _ _ _ g h => NorV.kp h g) (fun _ _ h => NorV.is h) rfl)
   (lbase (qAddJ (fun _ _ h => h) (fun _ _ h => h) (by omega) rfl (by omega) (by omega))
   (lbase (qAddJ (fun _ _ h => h) (fun _ _ h => h) (by omega) rfl (by omega) (by omega))
   (lbase (qIdxJ (i := (m - 1 - j + i)) (sz := 2) (n := Z.length) (F := (fun ι w v => NorV w v ((exM (coef Z) (coef Y) nb m c j i) ι) K)) Tryz.underlying23 (by kernel_rfl) (fun _ _ h => ArrO.arr h) (fun _ _ h => h) (by omega) rfl rfl)
   (lbase (qLoadF (sz := 2) (F := fun w v => NorV w v ((exM (coef Z) (coef Y) nb m c j i) (m - 1 - j + i)) K) (by kernel_rfl) (by kernel_rfl) (fun _ _ h => h) (fun _ _ _ g h => NorV.kp h g) (fun _ _ h => NorV.is h) rfl)
   (lbase (sMul nI nI rfl (by omega) rfl)
   (lbase (sSub5 nI nI rfl (by omega) rfl)
   (lbase (qIdxJ (i := (m - 1 - j + i)) (sz := 2) (n := Z.length) (F := (fun ι w v => NorV w v ((exM (coef Z) (coef Y) nb m c j i) ι) K)) Tryz.underlying23 (by kernel_rfl) (fun _ _ h => ArrO.arr h) (fun _ _ h => h) (by omega) rfl rfl)
   (lbase (qPutR (i := (m - 1 - j + i)) (n := Z.length) (F := (fun ι w v => NorV w v ((exM (coef Z) (coef Y) nb m c j i) ι) K)) (F' := (fun ι w v => NorV w v ((exM (coef Z) (coef Y) nb m c j (i + 1)) ι) K)) (G := fun w v => NorV w v (((exM (coef Z) (coef Y) nb m c j i) (m - 1 - j + i)) - ((((exA (coef Z) (coef Y) nb m c j) (m - 1 - j + nb)) / c) * ((coef Y) i))) (K + (K + k1) + 1)) (.tmp 66) (.tmp 69) (by kernel_rfl) (fun _ _ h => h) (fun _ _ h => h) (by omega) (fun _ _ h => h) rfl (fun _ _ h => NorV.cells h) (fun _ _ _ _ g h => NorV.kp h g) (fun _ _ _ g h => NorV.kp h g) (fun a w v ha h => by rw [exM_ne ha]; exact h) (fun w v h => NorV.re (h.eq (exM_at hj)) (hM j (i + 1) _ (by omega))) rfl)
   (lbase (qAddK (fun _ _ h => h) (by omega) rfl (by omega) (by omega))
   lnil))))))))))))⟩)
   (lbase (qTest (op := .lss) (fun _ _ h => h) (fun _ _ h => h) (ts_run (decide_eq_false (by omega)) (by simp)))
   lnil)
   (fun q hq w v h => by
    simp only [d_pexact_r_2, List.mem_cons, List.not_mem_nil, or_false] at hq
    rcases hq with rfl
    ·exact (fun h => h) h)) (lbase (qSubK (fun _ _ h => h) (rfl) rfl (by omega) (by omega))
   lnil)))))))))))⟩)
   (lbase (qTestC (op := .geq) (fun _ _ h => h) (ts_run (decide_eq_false (by omega)) (by simp)))
   lnil)
   (fun q hq w v h => by
    simp only [d_pexact_r_1, List.mem_cons, List.not_mem_nil, or_false] at hq
    rcases hq with rfl | rfl
    ·exact (fun h => h) h
    ·exact (fun h => h) h)) (lbase (onJ [1] (sBelowR (L := L2) (z := (exA (coef Z) (coef Y) nb m c m)) (l := Z.length) (fun _ _ h => Rw.to (sz := 2) (n := Z.length) (F := (fun ι w v => NorV w v ((exA (coef Z) (coef Y) nb m c m) ι) K)) (ArrO.rw h) (fun i w v _ h => (fun _ _ _ h => NorV.i h) i w v h)) (fun _ _ h => h) rfl (by omega) (by omega) hL2))
   (lbase (qLen (sz := 2) (n := L2.length) (F := (fun ι w v => NorV w v ((coef L2) ι) K)) Tryz.underlying23 (fun _ _ h => Rw.arr h) rfl)
   (lbase (qTestC (op := .gtr) (fun _ _ h => h) (ts_run (decide_eq_true (by omega)) (by simp)))
   lnil))))))))))))))))))
  (ins_ok [.fact 0 (.one (.s)), .fact 1 (.one (.s))] ⟨fun _ _ h => Rw.is (sz := 2) (F := (fun ι w v => IntV w v (z0 ι) k)) (n := n0) h, fun _ _ h => Rw.is (sz := 2) (F := (fun ι w v => IntV w v (z1 ι) k1)) (n := n1) h, trivial⟩) (fun _ _ _ h => h)
end Go.Proofs.YteblgmjpociffaaGreat.Sym
namespace Go.Proofs.YteblgmjpociffaaGreat.vexacts
open Go.ChangeShapes Go.WideShapes Go.ChangeAt Go.RowKit
open Go.Proofs.YteblgmjpociffaaGreat.Sym hiding val run start
section
variable {P : Program} {Φ : Nat -> World -> Value -> Prop}
theorem qLenNil {T e : TypeId} (hT : P.underlying T = some (.slice e)) : SiteOk Φ P ⟨0, [.lit .nl], [⟨.one (.lit (.ci .i64 0)), []⟩], .quiet (mLen T)⟩ := fun X w ac o xs _ hm ha => by
 unfold mLen at hm
 split at hm
 case h_2 => cases hm
 rename_i args ts ho
 split at hm
 case isFalse => cases hm
 rename_i hts
 subst hts
 simp only [Option.some.injEq] at hm
 subst hm
 match hl : args.toList, ha with
 | [y], ha =>
  have hv : ac.eval y = .slice none 0 0 := ha.1
  have hargs : args = #[y] := by apply Array.ext'; simpa using hl
  subst hargs
  refine ⟨.int .i64 0, w, ?_, grown_refl w none, ⟨⟨⟨rfl, fun _ h => by cases h⟩, fun r hr => by cases hr⟩, trivial⟩⟩
  unfold execOp
  simp [ho, resolve, invoke, builtin, Builtin.len_, run_underlying hT, hv, goInt]
end
section
variable {Φ : Nat -> World -> Value -> Prop} {p q x r n m n0 n1 M nv kz ky kx kb k k1 K nb : Nat} {z y z0 z1 : Nat -> Int} {c : Int} {Z Y QL ML : List Int}
def mMove (i : Nat) : Op -> Option (List Operand)
 | .move (.tmp t) => if t = i then some [.tmp t] else none
 | _ => none
theorem qMoveB {P : Program} {b : Bool} {i : Nat} (hp : ∀ w v, Φ p w v -> v = .bool b) : SiteOk Φ P ⟨0, [.fact p], [⟨.one (.lit (.cb b)), []⟩], .fresh [] (mMove i)⟩ := fun X w ac o xs _ hm ha => by
 unfold mMove at hm
 split at hm
 case h_2 => cases hm
 rename_i y ho
 split at hm
 case isFalse => cases hm
 simp only [Option.some.injEq] at hm
 subst hm
 have hv : ac.eval (.tmp y) = .bool b := hp _ _ (ha.1 w (Off.refl _ _))
 refine ⟨.bool b, w, ?_, grown_refl w none, ⟨⟨⟨rfl, fun _ h => by cases h⟩, fun r hr => by cases hr⟩, trivial⟩⟩
 unfold execOp
 simp [ho, hv]
theorem sExact0 (hp : ∀ w v, Φ p w v -> Rw 2 (fun i w v => IntV w v (z0 i) k) n0 w v) (hq : ∀ w v, Φ q w v -> Rw 2 (fun i w v => IntV w v (z1 i) k1) n1 w v) (hn0 : n0 <= 1000000) (hn1 : n1 <= 1000000) (hk : k <= 90000) (hk1 : k1 <= 90000) (hY : (trimL (mk n1 z1)).length = 0) :
  SiteOk Φ Tryz.prog ⟨41, [.fact p, .fact q], [⟨.one (.lit .nl), []⟩, ⟨.one (.lit (.ci .i64 2)), []⟩], true⟩ :=
 viaG (pexact_0 (Z := trimL (mk n0 z0)) hn0 hn1 hk hk1 rfl rfl hY) ⟨hp, hq, trivial⟩ ⟨⟨rfl, trivial⟩, ⟨rfl, trivial⟩, trivial⟩
theorem sExactQ (hp : ∀ w v, Φ p w v -> Rw 2 (fun i w v => IntV w v (z0 i) k) n0 w v) (hq : ∀ w v, Φ q w v -> Rw 2 (fun i w v => IntV w v (z1 i) k1) n1 w v) (hx : Φ x = fun w v => Rw 2 (fun i w v => NorV w v (coef QL i) K) m w v)
  (hn0 : n0 <= 1000000) (hn1 : n1 <= 1000000) (hk : k <= 90000) (hk1 : k1 <= 90000) (hY : trimL (mk n1 z1) = Y) (hkK : k <= K) (hYl : Y.length = nb + 1) (hnb : nb <= 800000) (hZ : trimL (mk n0 z0) = Z) (hZl : Z.length <= 1000000) (hm : m = Z.length - nb) (hK : K <= 90000) (hc : ldZ (coef Y) (nb + 1) = c) (hc0 : c ≠ 0) (hdv : ∀ j, j < m -> c ∣ exA (coef Z) (coef Y) nb m c j (m - 1 - j + nb)) (hM : ∀ j i p, j < m -> Bd (exM (coef Z) (coef Y) nb m c j i p).natAbs K) (hL2 : trimL (mk (min nb Z.length) (exA (coef Z) (coef Y) nb m c m)) = []) (hE : ∀ i, i < m -> dto m m (exT (coef Z) (coef Y) nb m c) i = coef QL i) :
  SiteOk Φ Tryz.prog ⟨41, [.fact p, .fact q], [⟨.one .s, [(0, 0, x)]⟩, ⟨.one (.lit (.ci .i64 0)), []⟩], true⟩ :=
 viaG (pexact hn0 hn1 hk hk1 hY hkK hYl hnb hZ hZl hm hK hc hc0 hdv hM hL2) ⟨hp, hq, trivial⟩ ⟨⟨rfl, ⟨rfl, rfl, fun w v h => by
  rw [hx]
  exact Rw.to (sz := 2) (n := m) (F := fun i w v => NorV w v (dto m m (exT (coef Z) (coef Y) nb m c) i) K) (ArrO.rw (e := 26) h) fun i w v hi h => h.eq (hE i hi)⟩, trivial⟩, ⟨rfl, trivial⟩, trivial⟩
theorem sDModW (hp : ∀ w v, Φ p w v -> Rw 4 (fun i w v => DecQ w v ((z i : Int) : Rat) kx) n0 w v) (hq : ∀ w v, Φ q w v -> Rw 4 (fun i w v => DecQ w v ((y i : Int) : Rat) kb) (n + 1) w v)
  (hx : Φ x = fun w v => Rw 4 (fun i w v => DecQ w v (rqQ (fun i => ((z i : Int) : Rat)) (fun i => ((y i : Int) : Rat)) n M i) K) M w v) (hr : Φ r = fun w v => Rw 4 (fun i w v => DecQ w v (rq (fun i => ((z i : Int) : Rat)) (fun i => ((y i : Int) : Rat)) n M M i) K) nv w v) (hM : n0 - n = M) (hnq : tl (fun i => (rqQ (fun i => ((z i : Int) : Rat)) (fun i => ((y i : Int) : Rat)) n M i).num) M = M) (hnv : tl (fun i => (rq (fun i => ((z i : Int) : Rat)) (fun i => ((y i : Int) : Rat)) n M M i).num) n = nv)
  (hn : n <= 900) (hn0 : n0 <= 1000) (hkx : kx <= K) (hkb : kb <= 1000) (hK : K <= 1000) (hbz : ∀ i, Bd (z i).natAbs kz) (hby : ∀ i, Bd (y i).natAbs ky) (hKb : kz + (n0 - n + 1) * (ky + 1) <= K) (hz0 : ∀ i, n0 <= i -> z i = 0) (hzt : 0 < n0 -> z (n0 - 1) ≠ 0) (hy0 : ∀ i, n < i -> y i = 0) (hyt : y n ≠ 0) :
  SiteOk Φ Tryz.prog ⟨39, [.fact p, .fact q], [⟨.one .s, [(0, 0, x)]⟩, ⟨.one .s, [(0, 0, r)]⟩], true⟩ := by
 subst hM
 exact viaG (sDMod (Φ := ph [fun w v => Rw 4 (fun i w v => DecQ w v ((z i : Int) : Rat) kx) n0 w v, fun w v => Rw 4 (fun i w v => DecQ w v ((y i : Int) : Rat) kb) (n + 1) w v, fun w v => Rw 4 (fun i w v => DecQ w v (rqQ (fun i => ((z i : Int) : Rat)) (fun i => ((y i : Int) : Rat)) n (n0 - n) i) K) (tl (fun i => (rqQ (fun i => ((z i : Int) : Rat)) (fun i => ((y i : Int) : Rat)) n (n0 - n) i).num) (n0 - n)) w v, fun w v => Rw 4 (fun i w v => DecQ w v (rq (fun i => ((z i : Int) : Rat)) (fun i => ((y i : Int) : Rat)) n (n0 - n) (n0 - n) i) K) (tl (fun i => (rq (fun i => ((z i : Int) : Rat)) (fun i => ((y i : Int) : Rat)) n (n0 - n) (n0 - n) i).num) n) w v]) (p := 0) (q := 1) (x := 2) (r := 3) (fun _ _ h => h) (fun _ _ h => h) rfl rfl rfl rfl hn hn0 hkx hkb hK hbz hby hKb hz0 hzt hy0 hyt)
  ⟨hp, hq, trivial⟩ ⟨⟨rfl, ⟨rfl, rfl, fun w v h => by
   have h : Rw 4 (fun i w v => DecQ w v (rqQ (fun i => ((z i : Int) : Rat)) (fun i => ((y i : Int) : Rat)) n (n0 - n) i) K) (tl (fun i => (rqQ (fun i => ((z i : Int) : Rat)) (fun i => ((y i : Int) : Rat)) n (n0 - n) i).num) (n0 - n)) w v := h
   rw [hx]; exact Rw.len h hnq⟩, trivial⟩, ⟨rfl, ⟨rfl, rfl, fun w v h => by
   have h : Rw 4 (fun i w v => DecQ w v (rq (fun i => ((z i : Int) : Rat)) (fun i => ((y i : Int) : Rat)) n (n0 - n) (n0 - n) i) K) (tl (fun i => (rq (fun i => ((z i : Int) : Rat)) (fun i => ((y i : Int) : Rat)) n (n0 - n) (n0 - n) i).num) n) w v := h
   rw [hr]; exact Rw.len h hnv⟩, trivial⟩, trivial⟩
theorem cvSQ_int : ∀ j i, cvSQ (fun i => ((z i : Int) : Rat)) (fun i => ((y i : Int) : Rat)) m j i = ((cvS z y m j i : Int) : Rat)
 | 0, _ => rfl
 | j + 1, i => by
  rw [cvSQ, cvS, cvSQ_int j i, Rat.intCast_add]
  congr 1
  split
  ·rw [Rat.intCast_mul]
  ·rfl
theorem cvIQ_int (j i p : Nat) : cvIQ (fun i => ((z i : Int) : Rat)) (fun i => ((y i : Int) : Rat)) m j i p = ((cvI z y m j i p : Int) : Rat) := by
 rw [cvIQ, cvI, cvSQ_int, Rat.intCast_add]
 congr 1
 split
 ·rw [Rat.intCast_mul]
 ·rfl
theorem sRMulI (hp : ∀ w v, Φ p w v -> Rw 4 (fun i w v => DecQ w v ((z i : Int) : Rat) k) n w v) (hq : ∀ w v, Φ q w v -> Rw 4 (fun i w v => DecQ w v ((y i : Int) : Rat) k1) m w v) (hx : Φ x = fun w v => Rw 4 (fun i w v => DecQ w v ((coef ML i : Int) : Rat) K) ML.length w v)
  (hn : n <= 1000) (hm : m <= 1000) (hk : k <= 8000) (hk1 : k1 <= 8000) (hK : K <= 8000) (hK1 : 1 <= K) (htz : tl z n = n) (hty : tl y m = m) (hb : ∀ j i p, j < n -> i <= m -> Bd (cvI z y m j i p).natAbs K) (hML : mulL z n y m = ML) :
  SiteOk Φ Tryz.prog ⟨40, [.fact p, .fact q], [⟨.one .s, [(0, 0, x)]⟩], false⟩ := by
 have hl : (if n = 0 ∨ m = 0 then 0 else tl (fun i => (cvSQ (fun i => ((z i : Int) : Rat)) (fun i => ((y i : Int) : Rat)) m n i).num) (n + m - 1)) = ML.length := by
  split
  ·rename_i h
   rw [<- hML, mulL, htz, hty, if_pos h]; rfl
  ·rename_i h
   have e : ML = mk (n + m - 1) (cvS z y m n) := by rw [<- hML, mulL, htz, hty, if_neg h]
   have h1 : trimL ML = ML := trimL_of (hML ▸ mulL_nrm _ _ _ _)
   have h2 := congrArg List.length h1
   rw [trimL_length] at h2
   have h3 : ML.length = n + m - 1 := by rw [e, mk_length]
   rw [<- h2, h3]
   exact tl_congr fun i hi => by
    rw [cvSQ_int, e, coef_mk, if_pos hi]; rfl
 refine viaG (sRMulP (Φ := ph [fun w v => Rw 4 (fun i w v => DecQ w v ((z i : Int) : Rat) k) n w v, fun w v => Rw 4 (fun i w v => DecQ w v ((y i : Int) : Rat) k1) m w v, fun w v => Rw 4 (fun i w v => DecQ w v (cvSQ (fun i => ((z i : Int) : Rat)) (fun i => ((y i : Int) : Rat)) m n i) K) ML.length w v]) (p := 0) (y := 1) (x := 2) (fun _ _ h => h) (fun _ _ h => h) rfl (by omega) (by omega) hk hk1 hK hK1 (fun j i p hj hi => by rw [cvIQ_int]; exact ⟨hb j i p hj hi, one_ltX hK1⟩) hl) ⟨hp, hq, trivial⟩ ⟨⟨rfl, ⟨rfl, rfl, fun w v h => ?_⟩, trivial⟩, trivial⟩
 have h : Rw 4 (fun i w v => DecQ w v (cvSQ (fun i => ((z i : Int) : Rat)) (fun i => ((y i : Int) : Rat)) m n i) K) ML.length w v := h
 rw [hx]
 exact Rw.to h fun i w v hi h => DecQ.eq h (by
  rw [cvSQ_int, <- hML, mulL, htz, hty]
  split
  ·rename_i h0
   rw [<- hML, mulL, htz, hty, if_pos h0] at hi
   exact absurd hi (by simp)
  ·rename_i h0
   rw [<- hML, mulL, htz, hty, if_neg h0, mk_length] at hi
   rw [coef_mk, if_pos hi])
theorem cmp_big {d : Nat} (h : d ≠ 1) (h0 : 0 < d) : cmpI (d : Int) 1 = 1 := by
 unfold cmpI
 rw [if_neg (by omega), if_neg (by omega)]
end
def b_path_0 (aa ab : Nat -> Bool) (xsa xsb : Nat -> List Nat) (eza ezb : Nat -> Int) (ma mb Na Nb : Nat) : List (World -> Value -> Prop) := [fun w v => Rw 2 (fun ι w v => RawI w v (aa ι) (xsa ι)) ma w v, fun w v => Rw 2 (fun ι w v => RawI w v (ab ι) (xsb ι)) mb w v, fun w v => Rw 2 (fun ι w v => KI w v (aa ι) ((fun ι => (xsa ι).take 2) ι) (eza ι) 2) Na w v, fun w v => Rw 4 (fun ι w v => DecQ w v ((((coef (trimL (mk Na eza))) ι : Int) : Rat)) (2 + 2 + 2)) ((trimL (mk Na eza)).length) w v, fun w v => Rw 2 (fun ι w v => KI w v (ab ι) ((fun ι => (xsb ι).take 2) ι) (ezb ι) 2) Nb w v, fun w v => Rw 4 (fun ι w v => DecQ w v ((((coef (trimL (mk Nb ezb))) ι : Int) : Rat)) (2 + 2 + 2)) ((trimL (mk Nb ezb)).length) w v, fun _ v => v = .int .i64 (((trimL (mk Nb ezb)).length : Nat) : Int)]
def ss_path_0 : List Step := [.base ⟨11, [.fact 0, .lit (.ci .i64 6), .lit (.ci .i64 2)], [⟨.one (.s), [(0, 0, 2)]⟩, ⟨.one (.s), [(0, 0, 3)]⟩], true⟩,
   .base ⟨11, [.fact 1, .lit (.ci .i64 5), .lit (.ci .i64 2)], [⟨.one (.s), [(0, 0, 4)]⟩, ⟨.one (.s), [(0, 0, 5)]⟩], true⟩,
   .base ⟨41, [.fact 2, .fact 4], [⟨.one (.lit (.nl)), []⟩, ⟨.one (.lit (.ci .i64 2)), []⟩], true⟩,
   .base ⟨0, [.fact 5], [⟨.one (.i), [(0, 0, 6)]⟩], .quiet (mLen 30)⟩,
   .base ⟨0, [.fact 6, .lit (.ci .i64 0)], [⟨.one (.lit (.cb true)), []⟩], .quiet (mBin .eql)⟩,
   .base ⟨0, [.lit .nl], [⟨.one (.lit (.ci .i64 0)), []⟩], .quiet (mLen 23)⟩,
   .base ⟨37, [], [⟨.one (.lit (.cb true)), []⟩], false⟩]
def ins_path_0 : List Out := [⟨.one (.s), [(0, 0, 0)]⟩, ⟨.one (.s), [(0, 0, 1)]⟩, ⟨.one (.lit (.cb false)), []⟩]
set_option maxHeartbeats 1000000 in
set_option maxRecDepth 100000 in
theorem path_0 {aa ab : Nat -> Bool} {xsa xsb : Nat -> List Nat} {eza ezb : Nat -> Int} {ma mb Na Nb : Nat} (hna : ma <= 9223372036854775807) (hza : ∀ j, sg (aa j) (Proofs.YteblgmjpociffaaGreat.val 4294967296 ((xsa j).take 2)) = eza j) (hNna : min ma 6 = Na) (hnb : mb <= 9223372036854775807) (hzb : ∀ j, sg (ab j) (Proofs.YteblgmjpociffaaGreat.val 4294967296 ((xsb j).take 2)) = ezb j) (hNnb : min mb 5 = Nb) (h0 : (trimL (mk Nb ezb)).length = 0) : SiteOk (ph (b_path_0 aa ab xsa xsb eza ezb ma mb Na Nb)) Tryz.prog ⟨6, [.fact 0, .fact 1, .lit (.cb false)], [⟨.one (.lit (.cb true)), []⟩], false⟩ := by
 skip
 exact fn_okL ins_path_0 [⟨.one (.lit (.cb true)), []⟩] ss_path_0 Tryz.func6 (by kernel_rfl)
  (lbase (sCut5 6 2 rfl rfl (fun _ _ h => h) rfl rfl (by omega) (by omega) (by omega) hza hNna)
   (lbase (sCut5 5 2 rfl rfl (fun _ _ h => h) rfl rfl (by omega) (by omega) (by omega) hzb hNnb)
   (lbase (sExact0 (z0 := eza) (n0 := Na) (k := 2) (k1 := 2) (fun _ _ h => Rw.to (sz := 2) (n := Na) (F := (fun ι w v => KI w v (aa ι) ((fun ι => (xsa ι).take 2) ι) (eza ι) 2)) (h) (fun i w v _ h => (fun _ _ _ h => And.right h) i w v h)) (fun _ _ h => Rw.to (sz := 2) (n := Nb) (F := (fun ι w v => KI w v (ab ι) ((fun ι => (xsb ι).take 2) ι) (ezb ι) 2)) (h) (fun i w v _ h => (fun _ _ _ h => And.right h) i w v h)) (by omega) (by omega) (by omega) (by omega) h0)
   (lbase (qLen (sz := 4) (n := (trimL (mk Nb ezb)).length) (F := (fun ι w v => DecQ w v ((((coef (trimL (mk Nb ezb))) ι : Int) : Rat)) (2 + 2 + 2))) Tryz.underlying30 (fun _ _ h => Rw.arr h) rfl)
   (lbase (qTestC (op := .eql) (fun _ _ h => h) (ts_run (decide_eq_true (by omega)) (by simp)))
   (lbase (qLenNil Tryz.underlying23)
   (lbase (sWakes6)
   lnil)))))))
  (ins_ok [.fact 0 (.one (.s)), .fact 1 (.one (.s)), .lit (.cb false)] ⟨fun _ _ h => Rw.is (sz := 2) (F := (fun ι w v => RawI w v (aa ι) (xsa ι))) (n := ma) h, fun _ _ h => Rw.is (sz := 2) (F := (fun ι w v => RawI w v (ab ι) (xsb ι))) (n := mb) h, (fun _ h => by cases h), trivial⟩) (fun _ _ _ h => h)
def b_path_0e (aa ab : Nat -> Bool) (xsa xsb : Nat -> List Nat) (eza ezb : Nat -> Int) (ma mb Na Nb : Nat) (ML : List Int) : List (World -> Value -> Prop) := [fun w v => Rw 2 (fun ι w v => RawI w v (aa ι) (xsa ι)) ma w v, fun w v => Rw 2 (fun ι w v => RawI w v (ab ι) (xsb ι)) mb w v, fun w v => Rw 2 (fun ι w v => KI w v (aa ι) ((fun ι => (xsa ι).take 2) ι) (eza ι) 2) Na w v, fun w v => Rw 4 (fun ι w v => DecQ w v ((((coef (trimL (mk Na eza))) ι : Int) : Rat)) (2 + 2 + 2)) ((trimL (mk Na eza)).length) w v, fun w v => Rw 2 (fun ι w v => KI w v (ab ι) ((fun ι => (xsb ι).take 2) ι) (ezb ι) 2) Nb w v, fun w v => Rw 4 (fun ι w v => DecQ w v ((((coef (trimL (mk Nb ezb))) ι : Int) : Rat)) (2 + 2 + 2)) ((trimL (mk Nb ezb)).length) w v, fun w v => Rw 4 (fun ι w v => DecQ w v ((((coef ML) ι : Int) : Rat)) 12) ML.length w v, fun w v => Rw 2 (fun ι w v => NorV w v ((coef ML) ι) 12) ML.length w v, fun _ v => v = .int .i64 (((trimL (mk Nb ezb)).length : Nat) : Int)]
def ss_path_0e : List Step := [.base ⟨11, [.fact 0, .lit (.ci .i64 6), .lit (.ci .i64 2)], [⟨.one (.s), [(0, 0, 2)]⟩, ⟨.one (.s), [(0, 0, 3)]⟩], true⟩,
   .base ⟨11, [.fact 1, .lit (.ci .i64 5), .lit (.ci .i64 2)], [⟨.one (.s), [(0, 0, 4)]⟩, ⟨.one (.s), [(0, 0, 5)]⟩], true⟩,
   .base ⟨40, [.fact 3, .fact 5], [⟨.one (.s), [(0, 0, 6)]⟩], false⟩,
   .base ⟨29, [.fact 6], [⟨.one (.s), [(0, 0, 7)]⟩], false⟩,
   .base ⟨41, [.fact 7, .fact 4], [⟨.one (.lit (.nl)), []⟩, ⟨.one (.lit (.ci .i64 2)), []⟩], true⟩,
   .base ⟨0, [.fact 5], [⟨.one (.i), [(0, 0, 8)]⟩], .quiet (mLen 30)⟩,
   .base ⟨0, [.fact 8, .lit (.ci .i64 0)], [⟨.one (.lit (.cb true)), []⟩], .quiet (mBin .eql)⟩,
   .base ⟨0, [.lit .nl], [⟨.one (.lit (.ci .i64 0)), []⟩], .quiet (mLen 23)⟩,
   .base ⟨37, [], [⟨.one (.lit (.cb true)), []⟩], false⟩]
def ins_path_0e : List Out := [⟨.one (.s), [(0, 0, 0)]⟩, ⟨.one (.s), [(0, 0, 1)]⟩, ⟨.one (.lit (.cb true)), []⟩]
set_option maxHeartbeats 1000000 in
set_option maxRecDepth 100000 in
theorem path_0e {aa ab : Nat -> Bool} {xsa xsb : Nat -> List Nat} {eza ezb : Nat -> Int} {ma mb Na Nb : Nat} {ML : List Int} (hna : ma <= 9223372036854775807) (hza : ∀ j, sg (aa j) (Proofs.YteblgmjpociffaaGreat.val 4294967296 ((xsa j).take 2)) = eza j) (hNna : min ma 6 = Na) (hnb : mb <= 9223372036854775807) (hzb : ∀ j, sg (ab j) (Proofs.YteblgmjpociffaaGreat.val 4294967296 ((xsb j).take 2)) = ezb j) (hNnb : min mb 5 = Nb) (htA : tl (coef (trimL (mk Na eza))) (trimL (mk Na eza)).length = (trimL (mk Na eza)).length) (htB : tl (coef (trimL (mk Nb ezb))) (trimL (mk Nb ezb)).length = (trimL (mk Nb ezb)).length) (hAl : (trimL (mk Na eza)).length <= 6) (_hBl : (trimL (mk Nb ezb)).length <= 5) (hcB : ∀ j i p, j < (trimL (mk Na eza)).length -> i <= (trimL (mk Nb ezb)).length -> Bd (cvI (coef (trimL (mk Na eza))) (coef (trimL (mk Nb ezb))) (trimL (mk Nb ezb)).length j i p).natAbs 12) (hML : mulL (coef (trimL (mk Na eza))) (trimL (mk Na eza)).length (coef (trimL (mk Nb ezb))) (trimL (mk Nb ezb)).length = ML) (hMl : ML.length <= 10) (h0 : (trimL (mk Nb ezb)).length = 0) : SiteOk (ph (b_path_0e aa ab xsa xsb eza ezb ma mb Na Nb ML)) Tryz.prog ⟨6, [.fact 0, .fact 1, .lit (.cb true)], [⟨.one (.lit (.cb true)), []⟩], false⟩ := by
 skip
 exact fn_okL ins_path_0e [⟨.one (.lit (.cb true)), []⟩] ss_path_0e Tryz.func6 (by kernel_rfl)
  (lbase (sCut5 6 2 rfl rfl (fun _ _ h => h) rfl rfl (by omega) (by omega) (by omega) hza hNna)
   (lbase (sCut5 5 2 rfl rfl (fun _ _ h => h) rfl rfl (by omega) (by omega) (by omega) hzb hNnb)
   (lbase (sRMulI (z := coef (trimL (mk Na eza))) (y := coef (trimL (mk Nb ezb))) (n := (trimL (mk Na eza)).length) (m := (trimL (mk Nb ezb)).length) (K := 12) (fun _ _ h => h) (fun _ _ h => h) rfl (by omega) (by omega) (by omega) (by omega) (by omega) (by omega) htA htB hcB hML)
   (lbase (sRTo (z := coef ML) (n := ML.length) (k := 12) (fun _ _ h => h) rfl (by omega) (by omega))
   (lbase (sExact0 (z0 := (coef ML)) (n0 := ML.length) (k := 12) (k1 := 2) (fun _ _ h => Rw.to (sz := 2) (n := ML.length) (F := (fun ι w v => NorV w v ((coef ML) ι) 12)) (h) (fun i w v _ h => (fun _ _ _ h => NorV.i h) i w v h)) (fun _ _ h => Rw.to (sz := 2) (n := Nb) (F := (fun ι w v => KI w v (ab ι) ((fun ι => (xsb ι).take 2) ι) (ezb ι) 2)) (h) (fun i w v _ h => (fun _ _ _ h => And.right h) i w v h)) (by omega) (by omega) (by omega) (by omega) h0)
   (lbase (qLen (sz := 4) (n := (trimL (mk Nb ezb)).length) (F := (fun ι w v => DecQ w v ((((coef (trimL (mk Nb ezb))) ι : Int) : Rat)) (2 + 2 + 2))) Tryz.underlying30 (fun _ _ h => Rw.arr h) rfl)
   (lbase (qTestC (op := .eql) (fun _ _ h => h) (ts_run (decide_eq_true (by omega)) (by simp)))
   (lbase (qLenNil Tryz.underlying23)
   (lbase (sWakes6)
   lnil)))))))))
  (ins_ok [.fact 0 (.one (.s)), .fact 1 (.one (.s)), .lit (.cb true)] ⟨fun _ _ h => Rw.is (sz := 2) (F := (fun ι w v => RawI w v (aa ι) (xsa ι))) (n := ma) h, fun _ _ h => Rw.is (sz := 2) (F := (fun ι w v => RawI w v (ab ι) (xsb ι))) (n := mb) h, (fun _ h => by cases h), trivial⟩) (fun _ _ _ h => h)
def b_path_fit (aa ab : Nat -> Bool) (xsa xsb : Nat -> List Nat) (eza ezb : Nat -> Int) (ma mb Na Nb : Nat) (nb m nv : Nat) (QL : List Int) : List (World -> Value -> Prop) := [fun w v => Rw 2 (fun ι w v => RawI w v (aa ι) (xsa ι)) ma w v, fun w v => Rw 2 (fun ι w v => RawI w v (ab ι) (xsb ι)) mb w v, fun w v => Rw 2 (fun ι w v => KI w v (aa ι) ((fun ι => (xsa ι).take 2) ι) (eza ι) 2) Na w v, fun w v => Rw 4 (fun ι w v => DecQ w v ((((coef (trimL (mk Na eza))) ι : Int) : Rat)) (2 + 2 + 2)) ((trimL (mk Na eza)).length) w v, fun w v => Rw 2 (fun ι w v => KI w v (ab ι) ((fun ι => (xsb ι).take 2) ι) (ezb ι) 2) Nb w v, fun w v => Rw 4 (fun ι w v => DecQ w v ((((coef (trimL (mk Nb ezb))) ι : Int) : Rat)) (2 + 2 + 2)) ((trimL (mk Nb ezb)).length) w v, fun w v => Rw 2 (fun ι w v => NorV w v ((coef QL) ι) 100) m w v, fun _ v => v = .int .i64 (((trimL (mk Nb ezb)).length : Nat) : Int), fun w v => Rw 4 (fun ι w v => DecQ w v ((rqQ (fun i => ((coef (trimL (mk Na eza)) i : Int) : Rat)) (fun i => ((coef (trimL (mk Nb ezb)) i : Int) : Rat)) nb m ι)) 200) m w v, fun w v => Rw 4 (fun ι w v => DecQ w v ((rq (fun i => ((coef (trimL (mk Na eza)) i : Int) : Rat)) (fun i => ((coef (trimL (mk Nb ezb)) i : Int) : Rat)) nb m m ι)) 200) nv w v, fun _ v => v = .int .i64 ((nv : Nat) : Int), fun _ v => v = .int .i64 ((m : Nat) : Int)]
def l_path_fit_1 (eza ezb : Nat -> Int) (Na Nb : Nat) (nb m : Nat) (j : Nat) : List (World -> Value -> Prop) := [fun _ v => v = .int .i64 ((j : Nat) : Int), fun w v => Ptr 4 (fun w v => DecQ w v ((rqQ (fun i => ((coef (trimL (mk Na eza)) i : Int) : Rat)) (fun i => ((coef (trimL (mk Nb ezb)) i : Int) : Rat)) nb m j)) 200) w v, fun w v => Ptr 2 (fun w v => DecI w v (((rqQ (fun i => ((coef (trimL (mk Na eza)) i : Int) : Rat)) (fun i => ((coef (trimL (mk Nb ezb)) i : Int) : Rat)) nb m j)).den : Int) 200) w v, fun w v => DecI w v (((rqQ (fun i => ((coef (trimL (mk Na eza)) i : Int) : Rat)) (fun i => ((coef (trimL (mk Nb ezb)) i : Int) : Rat)) nb m j)).den : Int) 200, fun w v => DecI w v (1 : Int) 2, fun _ v => v = .int .i64 (((j + 1) : Nat) : Int)]
def d_path_fit_1 : LoopD := ⟨[0, 1, 2, 6, 7, 8, 9, 10, 11, 12, 13, 15, 16, 17, 18, 19, 20, 21, 22, 23, 24, 25, 31, 32, 33, 34, 35, 36, 37, 38, 39, 50, 51, 52, 53, 54, 55, 56, 57, 58, 59, 60], [(.slot 61, .i)], [(.one 0, 12)], [.closed (.one (.ci .i64 0))], 12, []⟩
def r_path_fit_1_0 : List Step := [.base ⟨0, [.fact 12, .fact 11], [⟨.one (.lit (.cb true)), []⟩], .quiet (mBin .lss)⟩,
   .base ⟨0, [.fact 8, .fact 12], [⟨.one (.p), [(0, 0, 13)]⟩], .quiet (mIdx 30)⟩,
   .base ⟨0, [.fact 13], [⟨.one (.p), [(0, 0, 14)]⟩], .quiet (mFld 53 1)⟩,
   .base ⟨0, [.fact 14], [⟨.agg [.s, .b], [(0, 0, 15)]⟩], .quiet (mLoad 51)⟩,
   .base ⟨28, [.lit (.ci .i64 1)], [⟨.agg [.s, .b], [(0, 0, 16)]⟩], false⟩,
   .base ⟨42, [.fact 15, .fact 16], [⟨.one (.lit (.ci .i64 0)), []⟩], false⟩,
   .base ⟨0, [.fact 12, .lit (.ci .i64 1)], [⟨.one (.i), [(0, 0, 17)]⟩], .quiet (mBin .add)⟩]
def o_path_fit_1 : List Step := [.base ⟨0, [.fact 12, .fact 11], [⟨.one (.lit (.cb false)), []⟩], .quiet (mBin .lss)⟩]
def ss_path_fit : List Step := [.base ⟨11, [.fact 0, .lit (.ci .i64 6), .lit (.ci .i64 2)], [⟨.one (.s), [(0, 0, 2)]⟩, ⟨.one (.s), [(0, 0, 3)]⟩], true⟩,
   .base ⟨11, [.fact 1, .lit (.ci .i64 5), .lit (.ci .i64 2)], [⟨.one (.s), [(0, 0, 4)]⟩, ⟨.one (.s), [(0, 0, 5)]⟩], true⟩,
   .base ⟨41, [.fact 2, .fact 4], [⟨.one (.s), [(0, 0, 6)]⟩, ⟨.one (.lit (.ci .i64 0)), []⟩], true⟩,
   .base ⟨0, [.fact 5], [⟨.one (.i), [(0, 0, 7)]⟩], .quiet (mLen 30)⟩,
   .base ⟨0, [.fact 7, .lit (.ci .i64 0)], [⟨.one (.lit (.cb false)), []⟩], .quiet (mBin .eql)⟩,
   .base ⟨39, [.fact 3, .fact 5], [⟨.one (.s), [(0, 0, 8)]⟩, ⟨.one (.s), [(0, 0, 9)]⟩], true⟩,
   .base ⟨0, [.fact 9], [⟨.one (.i), [(0, 0, 10)]⟩], .quiet (mLen 30)⟩,
   .base ⟨0, [.fact 10, .lit (.ci .i64 0)], [⟨.one (.lit (.cb true)), []⟩], .quiet (mBin .eql)⟩,
   .base ⟨0, [.fact 8], [⟨.one (.i), [(0, 0, 11)]⟩], .quiet (mLen 30)⟩,
   .loop d_path_fit_1 [(r_path_fit_1_0, [.from 17])] o_path_fit_1,
   .base ⟨35, [.fact 8, .fact 6], [⟨.one (.lit (.cb true)), []⟩], false⟩,
   .base ⟨37, [], [⟨.one (.lit (.cb true)), []⟩], false⟩]
def ins_path_fit : List Out := [⟨.one (.s), [(0, 0, 0)]⟩, ⟨.one (.s), [(0, 0, 1)]⟩, ⟨.one (.lit (.cb false)), []⟩]
set_option maxHeartbeats 1000000 in
set_option maxRecDepth 100000 in
theorem path_fit {aa ab : Nat -> Bool} {xsa xsb : Nat -> List Nat} {eza ezb : Nat -> Int} {ma mb Na Nb : Nat} {nb m nv : Nat} {c : Int} {QL : List Int} (hna : ma <= 9223372036854775807) (hza : ∀ j, sg (aa j) (Proofs.YteblgmjpociffaaGreat.val 4294967296 ((xsa j).take 2)) = eza j) (hNna : min ma 6 = Na) (hnb : mb <= 9223372036854775807) (hzb : ∀ j, sg (ab j) (Proofs.YteblgmjpociffaaGreat.val 4294967296 ((xsb j).take 2)) = ezb j) (hNnb : min mb 5 = Nb) (h0 : (trimL (mk Nb ezb)).length = nb + 1) (hnb : nb <= 4) (hWl : (trimL (mk Na eza)).length <= 10) (hm : m = (trimL (mk Na eza)).length - nb) (hc : ldZ (coef (trimL (mk Nb ezb))) (nb + 1) = c) (hc0 : c ≠ 0)
  (hnq : tl (fun i => (rqQ (fun i => ((coef (trimL (mk Na eza)) i : Int) : Rat)) (fun i => ((coef (trimL (mk Nb ezb)) i : Int) : Rat)) nb m i).num) m = m) (hnv : tl (fun i => (rq (fun i => ((coef (trimL (mk Na eza)) i : Int) : Rat)) (fun i => ((coef (trimL (mk Nb ezb)) i : Int) : Rat)) nb m m i).num) nb = nv) (hnvl : nv <= nb)
  (hzB : ∀ i, Bd (coef (trimL (mk Na eza)) i).natAbs 12) (hyB : ∀ i, Bd (coef (trimL (mk Nb ezb)) i).natAbs 2) (hzt : 0 < (trimL (mk Na eza)).length -> coef (trimL (mk Na eza)) ((trimL (mk Na eza)).length - 1) ≠ 0) (hy0 : ∀ i, nb < i -> coef (trimL (mk Nb ezb)) i = 0) (hyt : coef (trimL (mk Nb ezb)) nb ≠ 0) (hZ : trimL (mk Na eza) = (trimL (mk Na eza))) (hdv : ∀ j, j < m -> c ∣ exA (coef (trimL (mk Na eza))) (coef (trimL (mk Nb ezb))) nb m c j (m - 1 - j + nb)) (hM : ∀ j i p, j < m -> Bd (exM (coef (trimL (mk Na eza))) (coef (trimL (mk Nb ezb))) nb m c j i p).natAbs 100)
  (hL2 : trimL (mk (min nb (trimL (mk Na eza)).length) (exA (coef (trimL (mk Na eza))) (coef (trimL (mk Nb ezb))) nb m c m)) = []) (hQE : ∀ i, i < m -> dto m m (exT (coef (trimL (mk Na eza))) (coef (trimL (mk Nb ezb))) nb m c) i = coef QL i) (hQe : ∀ i, i < m -> rqQ (fun i => ((coef (trimL (mk Na eza)) i : Int) : Rat)) (fun i => ((coef (trimL (mk Nb ezb)) i : Int) : Rat)) nb m i = ((coef QL i : Int) : Rat)) (hv0 : nv = 0)  : SiteOk (ph (b_path_fit aa ab xsa xsb eza ezb ma mb Na Nb nb m nv QL)) Tryz.prog ⟨6, [.fact 0, .fact 1, .lit (.cb false)], [⟨.one (.lit (.cb true)), []⟩], false⟩ := by
 skip
 exact fn_okL ins_path_fit [⟨.one (.lit (.cb true)), []⟩] ss_path_fit Tryz.func6 (by kernel_rfl)
  (lbase (sCut5 6 2 rfl rfl (fun _ _ h => h) rfl rfl (by omega) (by omega) (by omega) hza hNna)
   (lbase (sCut5 5 2 rfl rfl (fun _ _ h => h) rfl rfl (by omega) (by omega) (by omega) hzb hNnb)
   (lbase (sExactQ (z0 := eza) (n0 := Na) (k := 2) (k1 := 2) (fun _ _ h => Rw.to (sz := 2) (n := Na) (F := (fun ι w v => KI w v (aa ι) ((fun ι => (xsa ι).take 2) ι) (eza ι) 2)) (h) (fun i w v _ h => (fun _ _ _ h => And.right h) i w v h)) (fun _ _ h => Rw.to (sz := 2) (n := Nb) (F := (fun ι w v => KI w v (ab ι) ((fun ι => (xsb ι).take 2) ι) (ezb ι) 2)) (h) (fun i w v _ h => (fun _ _ _ h => And.right h) i w v h)) rfl (by omega) (by omega) (by omega) (by omega) rfl (by omega) h0 (by omega) hZ (by omega) hm (by omega) hc hc0 hdv hM hL2 hQE)
   (lbase (qLen (sz := 4) (n := (trimL (mk Nb ezb)).length) (F := (fun ι w v => DecQ w v ((((coef (trimL (mk Nb ezb))) ι : Int) : Rat)) (2 + 2 + 2))) Tryz.underlying30 (fun _ _ h => Rw.arr h) rfl)
   (lbase (qTestC (op := .eql) (fun _ _ h => h) (ts_run (decide_eq_false (by omega)) (by simp)))
   (lbase (sDModW (z := coef (trimL (mk Na eza))) (y := coef (trimL (mk Nb ezb))) (n := nb) (n0 := (trimL (mk Na eza)).length) (M := m) (nv := nv) (kz := 12) (ky := 2) (K := 200) (fun _ _ h => h) (fun _ _ h => Rw.len h h0) rfl rfl hm.symm hnq hnv (by omega) (by omega) (by omega) (by omega) (by omega) hzB hyB (by omega) (fun i hi => coef_out hi) hzt hy0 hyt)
   (lbase (qLen (sz := 4) (n := nv) (F := (fun ι w v => DecQ w v ((rq (fun i => ((coef (trimL (mk Na eza)) i : Int) : Rat)) (fun i => ((coef (trimL (mk Nb ezb)) i : Int) : Rat)) nb m m ι)) 200)) Tryz.underlying30 (fun _ _ h => Rw.arr h) rfl)
   (lbase (qTestC (op := .eql) (fun _ _ h => h) (ts_run (decide_eq_true (by omega)) (by simp)))
   (lbase (qLen (sz := 4) (n := m) (F := (fun ι w v => DecQ w v ((rqQ (fun i => ((coef (trimL (mk Na eza)) i : Int) : Rat)) (fun i => ((coef (trimL (mk Nb ezb)) i : Int) : Rat)) nb m ι)) 200)) Tryz.underlying30 (fun _ _ h => Rw.arr h) rfl)
   (lloop (counted m (fun j => ph (b_path_fit aa ab xsa xsb eza ezb ma mb Na Nb nb m nv QL ++ l_path_fit_1 eza ezb Na Nb nb m j)) (fun _ => 0) (fun j p hp => ph_app' (show p < (b_path_fit aa ab xsa xsb eza ezb ma mb Na Nb nb m nv QL).length from hp)) ⟨fun _ => rfl, trivial⟩ (fun j hj => by
   skip
   exact ⟨(r_path_fit_1_0, [.from 17]), rfl, ⟨fun _ _ h => h, trivial⟩, (lbase (qTest (op := .lss) (fun _ _ h => h) (fun _ _ h => h) (ts_run (decide_eq_true (by omega)) (by simp)))
   (lbase (qIdx (i := j) (sz := 4) (n := m) (F := (fun ι w v => DecQ w v ((rqQ (fun i => ((coef (trimL (mk Na eza)) i : Int) : Rat)) (fun i => ((coef (trimL (mk Nb ezb)) i : Int) : Rat)) nb m ι)) 200)) Tryz.underlying30 (by kernel_rfl) (fun _ _ h => Rw.arr h) (fun _ _ h => h) (by omega) rfl)
   (lbase (qFld (off := 2) (len := 2) (sz := 4) (F := fun w v => DecQ w v ((rqQ (fun i => ((coef (trimL (mk Na eza)) i : Int) : Rat)) (fun i => ((coef (trimL (mk Nb ezb)) i : Int) : Rat)) nb m j)) 200) (G := fun w v => DecI w v (((rqQ (fun i => ((coef (trimL (mk Na eza)) i : Int) : Rat)) (fun i => ((coef (trimL (mk Nb ezb)) i : Int) : Rat)) nb m j)).den : Int) 200) (by kernel_rfl) (fun _ _ h => h) (by omega) (fun _ _ h => DecQ.snd' h) rfl)
   (lbase (qLoad (sz := 2) (F := fun w v => DecI w v (((rqQ (fun i => ((coef (trimL (mk Na eza)) i : Int) : Rat)) (fun i => ((coef (trimL (mk Nb ezb)) i : Int) : Rat)) nb m j)).den : Int) 200) (by kernel_rfl) (by kernel_rfl) (fun _ _ h => h) (fun _ _ _ g h => DecI.kp h g) (fun _ _ h => DecI.is h) rfl)
   (lbase (tOf (z := 1) rfl (by decide) (by decide) rfl)
   (lbase (tCmp5 dD dD (by omega) (by rw [hQe j hj]; rfl))
   (lbase (qAddK (fun _ _ h => h) (by omega) rfl (by omega) (by omega))
   lnil)))))))⟩)
   (lbase (qTest (op := .lss) (fun _ _ h => h) (fun _ _ h => h) (ts_run (decide_eq_false (by omega)) (by simp)))
   lnil)
   (fun q hq => by cases hq)) (lbase (sIs6 (z := coef QL) (n := m) (k := 100) (kq := 200) (fun _ _ h => Rw.to (sz := 4) (n := m) (F := (fun ι w v => DecQ w v ((rqQ (fun i => ((coef (trimL (mk Na eza)) i : Int) : Rat)) (fun i => ((coef (trimL (mk Nb ezb)) i : Int) : Rat)) nb m ι)) 200)) h fun i w v hi h => DecQ.eq h (hQe i hi)) (fun _ _ h => h) (by omega) (by omega) (by omega))
   (lbase (sWakes6)
   lnil))))))))))))
  (ins_ok [.fact 0 (.one (.s)), .fact 1 (.one (.s)), .lit (.cb false)] ⟨fun _ _ h => Rw.is (sz := 2) (F := (fun ι w v => RawI w v (aa ι) (xsa ι))) (n := ma) h, fun _ _ h => Rw.is (sz := 2) (F := (fun ι w v => RawI w v (ab ι) (xsb ι))) (n := mb) h, (fun _ h => by cases h), trivial⟩) (fun _ _ _ h => h)
def b_path_fite (aa ab : Nat -> Bool) (xsa xsb : Nat -> List Nat) (eza ezb : Nat -> Int) (ma mb Na Nb : Nat) (nb m nv : Nat) (QL ML : List Int) : List (World -> Value -> Prop) := [fun w v => Rw 2 (fun ι w v => RawI w v (aa ι) (xsa ι)) ma w v, fun w v => Rw 2 (fun ι w v => RawI w v (ab ι) (xsb ι)) mb w v, fun w v => Rw 2 (fun ι w v => KI w v (aa ι) ((fun ι => (xsa ι).take 2) ι) (eza ι) 2) Na w v, fun w v => Rw 4 (fun ι w v => DecQ w v ((((coef (trimL (mk Na eza))) ι : Int) : Rat)) (2 + 2 + 2)) ((trimL (mk Na eza)).length) w v, fun w v => Rw 2 (fun ι w v => KI w v (ab ι) ((fun ι => (xsb ι).take 2) ι) (ezb ι) 2) Nb w v, fun w v => Rw 4 (fun ι w v => DecQ w v ((((coef (trimL (mk Nb ezb))) ι : Int) : Rat)) (2 + 2 + 2)) ((trimL (mk Nb ezb)).length) w v, fun w v => Rw 4 (fun ι w v => DecQ w v ((((coef ML) ι : Int) : Rat)) 12) ML.length w v, fun w v => Rw 2 (fun ι w v => NorV w v ((coef ML) ι) 12) ML.length w v, fun w v => Rw 2 (fun ι w v => NorV w v ((coef QL) ι) 100) m w v, fun _ v => v = .int .i64 (((trimL (mk Nb ezb)).length : Nat) : Int), fun w v => Rw 4 (fun ι w v => DecQ w v ((rqQ (fun i => ((coef ML i : Int) : Rat)) (fun i => ((coef (trimL (mk Nb ezb)) i : Int) : Rat)) nb m ι)) 200) m w v, fun w v => Rw 4 (fun ι w v => DecQ w v ((rq (fun i => ((coef ML i : Int) : Rat)) (fun i => ((coef (trimL (mk Nb ezb)) i : Int) : Rat)) nb m m ι)) 200) nv w v, fun _ v => v = .int .i64 ((nv : Nat) : Int), fun _ v => v = .int .i64 ((m : Nat) : Int)]
def l_path_fite_1 (ezb : Nat -> Int) (Nb : Nat) (nb m : Nat) (ML : List Int) (j : Nat) : List (World -> Value -> Prop) := [fun _ v => v = .int .i64 ((j : Nat) : Int), fun w v => Ptr 4 (fun w v => DecQ w v ((rqQ (fun i => ((coef ML i : Int) : Rat)) (fun i => ((coef (trimL (mk Nb ezb)) i : Int) : Rat)) nb m j)) 200) w v, fun w v => Ptr 2 (fun w v => DecI w v (((rqQ (fun i => ((coef ML i : Int) : Rat)) (fun i => ((coef (trimL (mk Nb ezb)) i : Int) : Rat)) nb m j)).den : Int) 200) w v, fun w v => DecI w v (((rqQ (fun i => ((coef ML i : Int) : Rat)) (fun i => ((coef (trimL (mk Nb ezb)) i : Int) : Rat)) nb m j)).den : Int) 200, fun w v => DecI w v (1 : Int) 2, fun _ v => v = .int .i64 (((j + 1) : Nat) : Int)]
def d_path_fite_1 : LoopD := ⟨[0, 1, 2, 6, 7, 8, 9, 10, 11, 12, 13, 15, 16, 17, 18, 19, 20, 21, 22, 23, 24, 25, 26, 27, 28, 29, 30, 31, 32, 33, 34, 35, 36, 37, 38, 39, 50, 51, 52, 53, 54, 55, 56, 57, 58, 59, 60], [(.slot 61, .i)], [(.one 0, 14)], [.closed (.one (.ci .i64 0))], 14, []⟩
def r_path_fite_1_0 : List Step := [.base ⟨0, [.fact 14, .fact 13], [⟨.one (.lit (.cb true)), []⟩], .quiet (mBin .lss)⟩,
   .base ⟨0, [.fact 10, .fact 14], [⟨.one (.p), [(0, 0, 15)]⟩], .quiet (mIdx 30)⟩,
   .base ⟨0, [.fact 15], [⟨.one (.p), [(0, 0, 16)]⟩], .quiet (mFld 53 1)⟩,
   .base ⟨0, [.fact 16], [⟨.agg [.s, .b], [(0, 0, 17)]⟩], .quiet (mLoad 51)⟩,
   .base ⟨28, [.lit (.ci .i64 1)], [⟨.agg [.s, .b], [(0, 0, 18)]⟩], false⟩,
   .base ⟨42, [.fact 17, .fact 18], [⟨.one (.lit (.ci .i64 0)), []⟩], false⟩,
   .base ⟨0, [.fact 14, .lit (.ci .i64 1)], [⟨.one (.i), [(0, 0, 19)]⟩], .quiet (mBin .add)⟩]
def o_path_fite_1 : List Step := [.base ⟨0, [.fact 14, .fact 13], [⟨.one (.lit (.cb false)), []⟩], .quiet (mBin .lss)⟩]
def ss_path_fite : List Step := [.base ⟨11, [.fact 0, .lit (.ci .i64 6), .lit (.ci .i64 2)], [⟨.one (.s), [(0, 0, 2)]⟩, ⟨.one (.s), [(0, 0, 3)]⟩], true⟩,
   .base ⟨11, [.fact 1, .lit (.ci .i64 5), .lit (.ci .i64 2)], [⟨.one (.s), [(0, 0, 4)]⟩, ⟨.one (.s), [(0, 0, 5)]⟩], true⟩,
   .base ⟨40, [.fact 3, .fact 5], [⟨.one (.s), [(0, 0, 6)]⟩], false⟩,
   .base ⟨29, [.fact 6], [⟨.one (.s), [(0, 0, 7)]⟩], false⟩,
   .base ⟨41, [.fact 7, .fact 4], [⟨.one (.s), [(0, 0, 8)]⟩, ⟨.one (.lit (.ci .i64 0)), []⟩], true⟩,
   .base ⟨0, [.fact 5], [⟨.one (.i), [(0, 0, 9)]⟩], .quiet (mLen 30)⟩,
   .base ⟨0, [.fact 9, .lit (.ci .i64 0)], [⟨.one (.lit (.cb false)), []⟩], .quiet (mBin .eql)⟩,
   .base ⟨39, [.fact 6, .fact 5], [⟨.one (.s), [(0, 0, 10)]⟩, ⟨.one (.s), [(0, 0, 11)]⟩], true⟩,
   .base ⟨0, [.fact 11], [⟨.one (.i), [(0, 0, 12)]⟩], .quiet (mLen 30)⟩,
   .base ⟨0, [.fact 12, .lit (.ci .i64 0)], [⟨.one (.lit (.cb true)), []⟩], .quiet (mBin .eql)⟩,
   .base ⟨0, [.fact 10], [⟨.one (.i), [(0, 0, 13)]⟩], .quiet (mLen 30)⟩,
   .loop d_path_fite_1 [(r_path_fite_1_0, [.from 19])] o_path_fite_1,
   .base ⟨35, [.fact 10, .fact 8], [⟨.one (.lit (.cb true)), []⟩], false⟩,
   .base ⟨37, [], [⟨.one (.lit (.cb true)), []⟩], false⟩]
def ins_path_fite : List Out := [⟨.one (.s), [(0, 0, 0)]⟩, ⟨.one (.s), [(0, 0, 1)]⟩, ⟨.one (.lit (.cb true)), []⟩]
set_option maxHeartbeats 1000000 in
set_option maxRecDepth 100000 in
theorem path_fite {aa ab : Nat -> Bool} {xsa xsb : Nat -> List Nat} {eza ezb : Nat -> Int} {ma mb Na Nb : Nat} {nb m nv : Nat} {c : Int} {QL ML : List Int} (hna : ma <= 9223372036854775807) (hza : ∀ j, sg (aa j) (Proofs.YteblgmjpociffaaGreat.val 4294967296 ((xsa j).take 2)) = eza j) (hNna : min ma 6 = Na) (_hnb : mb <= 9223372036854775807) (hzb : ∀ j, sg (ab j) (Proofs.YteblgmjpociffaaGreat.val 4294967296 ((xsb j).take 2)) = ezb j) (hNnb : min mb 5 = Nb) (htA : tl (coef (trimL (mk Na eza))) (trimL (mk Na eza)).length = (trimL (mk Na eza)).length) (htB : tl (coef (trimL (mk Nb ezb))) (trimL (mk Nb ezb)).length = (trimL (mk Nb ezb)).length) (hAl : (trimL (mk Na eza)).length <= 6) (hBl : (trimL (mk Nb ezb)).length <= 5) (hcB : ∀ j i p, j < (trimL (mk Na eza)).length -> i <= (trimL (mk Nb ezb)).length -> Bd (cvI (coef (trimL (mk Na eza))) (coef (trimL (mk Nb ezb))) (trimL (mk Nb ezb)).length j i p).natAbs 12) (hML : mulL (coef (trimL (mk Na eza))) (trimL (mk Na eza)).length (coef (trimL (mk Nb ezb))) (trimL (mk Nb ezb)).length = ML) (hMl : ML.length <= 10) (h0 : (trimL (mk Nb ezb)).length = nb + 1) (_hnb : nb <= 4) (_hWl : ML.length <= 10) (hm : m = ML.length - nb) (hc : ldZ (coef (trimL (mk Nb ezb))) (nb + 1) = c) (hc0 : c ≠ 0)
  (hnq : tl (fun i => (rqQ (fun i => ((coef ML i : Int) : Rat)) (fun i => ((coef (trimL (mk Nb ezb)) i : Int) : Rat)) nb m i).num) m = m) (hnv : tl (fun i => (rq (fun i => ((coef ML i : Int) : Rat)) (fun i => ((coef (trimL (mk Nb ezb)) i : Int) : Rat)) nb m m i).num) nb = nv) (_hnvl : nv <= nb)
  (hzB : ∀ i, Bd (coef ML i).natAbs 12) (hyB : ∀ i, Bd (coef (trimL (mk Nb ezb)) i).natAbs 2) (hzt : 0 < ML.length -> coef ML (ML.length - 1) ≠ 0) (hy0 : ∀ i, nb < i -> coef (trimL (mk Nb ezb)) i = 0) (hyt : coef (trimL (mk Nb ezb)) nb ≠ 0) (hZ : trimL (mk ML.length (coef ML)) = ML) (hdv : ∀ j, j < m -> c ∣ exA (coef ML) (coef (trimL (mk Nb ezb))) nb m c j (m - 1 - j + nb)) (hM : ∀ j i p, j < m -> Bd (exM (coef ML) (coef (trimL (mk Nb ezb))) nb m c j i p).natAbs 100)
  (hL2 : trimL (mk (min nb ML.length) (exA (coef ML) (coef (trimL (mk Nb ezb))) nb m c m)) = []) (hQE : ∀ i, i < m -> dto m m (exT (coef ML) (coef (trimL (mk Nb ezb))) nb m c) i = coef QL i) (hQe : ∀ i, i < m -> rqQ (fun i => ((coef ML i : Int) : Rat)) (fun i => ((coef (trimL (mk Nb ezb)) i : Int) : Rat)) nb m i = ((coef QL i : Int) : Rat)) (hv0 : nv = 0)  : SiteOk (ph (b_path_fite aa ab xsa xsb eza ezb ma mb Na Nb nb m nv QL ML)) Tryz.prog ⟨6, [.fact 0, .fact 1, .lit (.cb true)], [⟨.one (.lit (.cb true)), []⟩], false⟩ := by
 skip
 exact fn_okL ins_path_fite [⟨.one (.lit (.cb true)), []⟩] ss_path_fite Tryz.func6 (by kernel_rfl)
  (lbase (sCut5 6 2 rfl rfl (fun _ _ h => h) rfl rfl (by omega) (by omega) (by omega) hza hNna)
   (lbase (sCut5 5 2 rfl rfl (fun _ _ h => h) rfl rfl (by omega) (by omega) (by omega) hzb hNnb)
   (lbase (sRMulI (z := coef (trimL (mk Na eza))) (y := coef (trimL (mk Nb ezb))) (n := (trimL (mk Na eza)).length) (m := (trimL (mk Nb ezb)).length) (K := 12) (fun _ _ h => h) (fun _ _ h => h) rfl (by omega) (by omega) (by omega) (by omega) (by omega) (by omega) htA htB hcB hML)
   (lbase (sRTo (z := coef ML) (n := ML.length) (k := 12) (fun _ _ h => h) rfl (by omega) (by omega))
   (lbase (sExactQ (z0 := (coef ML)) (n0 := ML.length) (k := 12) (k1 := 2) (fun _ _ h => Rw.to (sz := 2) (n := ML.length) (F := (fun ι w v => NorV w v ((coef ML) ι) 12)) (h) (fun i w v _ h => (fun _ _ _ h => NorV.i h) i w v h)) (fun _ _ h => Rw.to (sz := 2) (n := Nb) (F := (fun ι w v => KI w v (ab ι) ((fun ι => (xsb ι).take 2) ι) (ezb ι) 2)) (h) (fun i w v _ h => (fun _ _ _ h => And.right h) i w v h)) rfl (by omega) (by omega) (by omega) (by omega) rfl (by omega) h0 (by omega) hZ (by omega) hm (by omega) hc hc0 hdv hM hL2 hQE)
   (lbase (qLen (sz := 4) (n := (trimL (mk Nb ezb)).length) (F := (fun ι w v => DecQ w v ((((coef (trimL (mk Nb ezb))) ι : Int) : Rat)) (2 + 2 + 2))) Tryz.underlying30 (fun _ _ h => Rw.arr h) rfl)
   (lbase (qTestC (op := .eql) (fun _ _ h => h) (ts_run (decide_eq_false (by omega)) (by simp)))
   (lbase (sDModW (z := coef ML) (y := coef (trimL (mk Nb ezb))) (n := nb) (n0 := ML.length) (M := m) (nv := nv) (kz := 12) (ky := 2) (K := 200) (fun _ _ h => h) (fun _ _ h => Rw.len h h0) rfl rfl hm.symm hnq hnv (by omega) (by omega) (by omega) (by omega) (by omega) hzB hyB (by omega) (fun i hi => coef_out hi) hzt hy0 hyt)
   (lbase (qLen (sz := 4) (n := nv) (F := (fun ι w v => DecQ w v ((rq (fun i => ((coef ML i : Int) : Rat)) (fun i => ((coef (trimL (mk Nb ezb)) i : Int) : Rat)) nb m m ι)) 200)) Tryz.underlying30 (fun _ _ h => Rw.arr h) rfl)
   (lbase (qTestC (op := .eql) (fun _ _ h => h) (ts_run (decide_eq_true (by omega)) (by simp)))
   (lbase (qLen (sz := 4) (n := m) (F := (fun ι w v => DecQ w v ((rqQ (fun i => ((coef ML i : Int) : Rat)) (fun i => ((coef (trimL (mk Nb ezb)) i : Int) : Rat)) nb m ι)) 200)) Tryz.underlying30 (fun _ _ h => Rw.arr h) rfl)
   (lloop (counted m (fun j => ph (b_path_fite aa ab xsa xsb eza ezb ma mb Na Nb nb m nv QL ML ++ l_path_fite_1 ezb Nb nb m ML j)) (fun _ => 0) (fun j p hp => ph_app' (show p < (b_path_fite aa ab xsa xsb eza ezb ma mb Na Nb nb m nv QL ML).length from hp)) ⟨fun _ => rfl, trivial⟩ (fun j hj => by
   skip
   exact ⟨(r_path_fite_1_0, [.from 19]), rfl, ⟨fun _ _ h => h, trivial⟩, (lbase (qTest (op := .lss) (fun _ _ h => h) (fun _ _ h => h) (ts_run (decide_eq_true (by omega)) (by simp)))
   (lbase (qIdx (i := j) (sz := 4) (n := m) (F := (fun ι w v => DecQ w v ((rqQ (fun i => ((coef ML i : Int) : Rat)) (fun i => ((coef (trimL (mk Nb ezb)) i : Int) : Rat)) nb m ι)) 200)) Tryz.underlying30 (by kernel_rfl) (fun _ _ h => Rw.arr h) (fun _ _ h => h) (by omega) rfl)
   (lbase (qFld (off := 2) (len := 2) (sz := 4) (F := fun w v => DecQ w v ((rqQ (fun i => ((coef ML i : Int) : Rat)) (fun i => ((coef (trimL (mk Nb ezb)) i : Int) : Rat)) nb m j)) 200) (G := fun w v => DecI w v (((rqQ (fun i => ((coef ML i : Int) : Rat)) (fun i => ((coef (trimL (mk Nb ezb)) i : Int) : Rat)) nb m j)).den : Int) 200) (by kernel_rfl) (fun _ _ h => h) (by omega) (fun _ _ h => DecQ.snd' h) rfl)
   (lbase (qLoad (sz := 2) (F := fun w v => DecI w v (((rqQ (fun i => ((coef ML i : Int) : Rat)) (fun i => ((coef (trimL (mk Nb ezb)) i : Int) : Rat)) nb m j)).den : Int) 200) (by kernel_rfl) (by kernel_rfl) (fun _ _ h => h) (fun _ _ _ g h => DecI.kp h g) (fun _ _ h => DecI.is h) rfl)
   (lbase (tOf (z := 1) rfl (by decide) (by decide) rfl)
   (lbase (tCmp5 dD dD (by omega) (by rw [hQe j hj]; rfl))
   (lbase (qAddK (fun _ _ h => h) (by omega) rfl (by omega) (by omega))
   lnil)))))))⟩)
   (lbase (qTest (op := .lss) (fun _ _ h => h) (fun _ _ h => h) (ts_run (decide_eq_false (by omega)) (by simp)))
   lnil)
   (fun q hq => by cases hq)) (lbase (sIs6 (z := coef QL) (n := m) (k := 100) (kq := 200) (fun _ _ h => Rw.to (sz := 4) (n := m) (F := (fun ι w v => DecQ w v ((rqQ (fun i => ((coef ML i : Int) : Rat)) (fun i => ((coef (trimL (mk Nb ezb)) i : Int) : Rat)) nb m ι)) 200)) h fun i w v hi h => DecQ.eq h (hQe i hi)) (fun _ _ h => h) (by omega) (by omega) (by omega))
   (lbase (sWakes6)
   lnil))))))))))))))
  (ins_ok [.fact 0 (.one (.s)), .fact 1 (.one (.s)), .lit (.cb true)] ⟨fun _ _ h => Rw.is (sz := 2) (F := (fun ι w v => RawI w v (aa ι) (xsa ι))) (n := ma) h, fun _ _ h => Rw.is (sz := 2) (F := (fun ι w v => RawI w v (ab ι) (xsb ι))) (n := mb) h, (fun _ h => by cases h), trivial⟩) (fun _ _ _ h => h)
def b_path_init (aa ab : Nat -> Bool) (xsa xsb : Nat -> List Nat) (eza ezb : Nat -> Int) (ma mb Na Nb : Nat) (nb m nv : Nat) : List (World -> Value -> Prop) := [fun w v => Rw 2 (fun ι w v => RawI w v (aa ι) (xsa ι)) ma w v, fun w v => Rw 2 (fun ι w v => RawI w v (ab ι) (xsb ι)) mb w v, fun w v => Rw 2 (fun ι w v => KI w v (aa ι) ((fun ι => (xsa ι).take 2) ι) (eza ι) 2) Na w v, fun w v => Rw 4 (fun ι w v => DecQ w v ((((coef (trimL (mk Na eza))) ι : Int) : Rat)) (2 + 2 + 2)) ((trimL (mk Na eza)).length) w v, fun w v => Rw 2 (fun ι w v => KI w v (ab ι) ((fun ι => (xsb ι).take 2) ι) (ezb ι) 2) Nb w v, fun w v => Rw 4 (fun ι w v => DecQ w v ((((coef (trimL (mk Nb ezb))) ι : Int) : Rat)) (2 + 2 + 2)) ((trimL (mk Nb ezb)).length) w v, fun _ v => v = .int .i64 (((trimL (mk Nb ezb)).length : Nat) : Int), fun w v => Rw 4 (fun ι w v => DecQ w v ((rqQ (fun i => ((coef (trimL (mk Na eza)) i : Int) : Rat)) (fun i => ((coef (trimL (mk Nb ezb)) i : Int) : Rat)) nb m ι)) 200) m w v, fun w v => Rw 4 (fun ι w v => DecQ w v ((rq (fun i => ((coef (trimL (mk Na eza)) i : Int) : Rat)) (fun i => ((coef (trimL (mk Nb ezb)) i : Int) : Rat)) nb m m ι)) 200) nv w v, fun _ v => v = .int .i64 ((nv : Nat) : Int), fun _ v => v = .int .i64 ((m : Nat) : Int)]
def l_path_init_1 (j : Nat) : List (World -> Value -> Prop) := [fun _ v => v = .int .i64 ((j : Nat) : Int), fun _ v => v = .int .i64 (((j + 1) : Nat) : Int)]
def d_path_init_1 : LoopD := ⟨[0, 1, 2, 6, 7, 8, 9, 10, 11, 12, 13, 15, 16, 17, 18, 19, 20, 21, 22, 23, 24, 25, 31, 32, 33, 34, 35, 36, 37, 38, 39, 50, 51, 52, 53, 54, 55, 56, 57, 58, 59, 60], [(.slot 61, .i)], [(.one 0, 11)], [.closed (.one (.ci .i64 0))], 11, []⟩
def r_path_init_1_0 : List Step := [.base ⟨0, [.fact 11, .fact 10], [⟨.one (.lit (.cb true)), []⟩], .quiet (mBin .lss)⟩,
   .base ⟨0, [.fact 11, .lit (.ci .i64 1)], [⟨.one (.i), [(0, 0, 12)]⟩], .quiet (mBin .add)⟩]
def o_path_init_1 : List Step := [.base ⟨0, [.fact 11, .fact 10], [⟨.one (.lit (.cb false)), []⟩], .quiet (mBin .lss)⟩]
def ss_path_init : List Step := [.base ⟨11, [.fact 0, .lit (.ci .i64 6), .lit (.ci .i64 2)], [⟨.one (.s), [(0, 0, 2)]⟩, ⟨.one (.s), [(0, 0, 3)]⟩], true⟩,
   .base ⟨11, [.fact 1, .lit (.ci .i64 5), .lit (.ci .i64 2)], [⟨.one (.s), [(0, 0, 4)]⟩, ⟨.one (.s), [(0, 0, 5)]⟩], true⟩,
   .base ⟨41, [.fact 2, .fact 4], [⟨.one (.lit (.nl)), []⟩, ⟨.one (.lit (.ci .i64 3)), []⟩], true⟩,
   .base ⟨0, [.fact 5], [⟨.one (.i), [(0, 0, 6)]⟩], .quiet (mLen 30)⟩,
   .base ⟨0, [.fact 6, .lit (.ci .i64 0)], [⟨.one (.lit (.cb false)), []⟩], .quiet (mBin .eql)⟩,
   .base ⟨39, [.fact 3, .fact 5], [⟨.one (.s), [(0, 0, 7)]⟩, ⟨.one (.s), [(0, 0, 8)]⟩], true⟩,
   .base ⟨0, [.fact 8], [⟨.one (.i), [(0, 0, 9)]⟩], .quiet (mLen 30)⟩,
   .base ⟨0, [.fact 9, .lit (.ci .i64 0)], [⟨.one (.lit (.cb false)), []⟩], .quiet (mBin .eql)⟩,
   .base ⟨0, [.fact 7], [⟨.one (.i), [(0, 0, 10)]⟩], .quiet (mLen 30)⟩,
   .loop d_path_init_1 [(r_path_init_1_0, [.from 12])] o_path_init_1,
   .base ⟨0, [.lit .nl], [⟨.one (.lit (.ci .i64 0)), []⟩], .quiet (mLen 23)⟩,
   .base ⟨37, [], [⟨.one (.lit (.cb true)), []⟩], false⟩]
def ins_path_init : List Out := [⟨.one (.s), [(0, 0, 0)]⟩, ⟨.one (.s), [(0, 0, 1)]⟩, ⟨.one (.lit (.cb false)), []⟩]
set_option maxHeartbeats 1000000 in
set_option maxRecDepth 100000 in
theorem path_init {aa ab : Nat -> Bool} {xsa xsb : Nat -> List Nat} {eza ezb : Nat -> Int} {ma mb Na Nb : Nat} {nb m nv : Nat} {c : Int} (hna : ma <= 9223372036854775807) (hza : ∀ j, sg (aa j) (Proofs.YteblgmjpociffaaGreat.val 4294967296 ((xsa j).take 2)) = eza j) (hNna : min ma 6 = Na) (hnb : mb <= 9223372036854775807) (hzb : ∀ j, sg (ab j) (Proofs.YteblgmjpociffaaGreat.val 4294967296 ((xsb j).take 2)) = ezb j) (hNnb : min mb 5 = Nb) (h0 : (trimL (mk Nb ezb)).length = nb + 1) (hnb : nb <= 4) (hWl : (trimL (mk Na eza)).length <= 10) (hm : m = (trimL (mk Na eza)).length - nb) (_hc : ldZ (coef (trimL (mk Nb ezb))) (nb + 1) = c) (hc0 : c ≠ 0)
  (hnq : tl (fun i => (rqQ (fun i => ((coef (trimL (mk Na eza)) i : Int) : Rat)) (fun i => ((coef (trimL (mk Nb ezb)) i : Int) : Rat)) nb m i).num) m = m) (hnv : tl (fun i => (rq (fun i => ((coef (trimL (mk Na eza)) i : Int) : Rat)) (fun i => ((coef (trimL (mk Nb ezb)) i : Int) : Rat)) nb m m i).num) nb = nv) (hnvl : nv <= nb)
  (hzB : ∀ i, Bd (coef (trimL (mk Na eza)) i).natAbs 12) (hyB : ∀ i, Bd (coef (trimL (mk Nb ezb)) i).natAbs 2) (hzt : 0 < (trimL (mk Na eza)).length -> coef (trimL (mk Na eza)) ((trimL (mk Na eza)).length - 1) ≠ 0) (hy0 : ∀ i, nb < i -> coef (trimL (mk Nb ezb)) i = 0) (hyt : coef (trimL (mk Nb ezb)) nb ≠ 0) (hEx : ∀ (Φ : Nat -> World -> Value -> Prop) (p q : Nat), (∀ w v, Φ p w v -> Rw 2 (fun i w v => IntV w v (eza i) 2) Na w v) -> (∀ w v, Φ q w v -> Rw 2 (fun i w v => IntV w v (ezb i) 2) Nb w v) -> SiteOk Φ Tryz.prog ⟨41, [.fact p, .fact q], [⟨.one (.lit .nl), []⟩, ⟨.one (.lit (.ci .i64 3)), []⟩], true⟩) (hv0 : 0 < nv) : SiteOk (ph (b_path_init aa ab xsa xsb eza ezb ma mb Na Nb nb m nv)) Tryz.prog ⟨6, [.fact 0, .fact 1, .lit (.cb false)], [⟨.one (.lit (.cb true)), []⟩], false⟩ := by
 skip
 exact fn_okL ins_path_init [⟨.one (.lit (.cb true)), []⟩] ss_path_init Tryz.func6 (by kernel_rfl)
  (lbase (sCut5 6 2 rfl rfl (fun _ _ h => h) rfl rfl (by omega) (by omega) (by omega) hza hNna)
   (lbase (sCut5 5 2 rfl rfl (fun _ _ h => h) rfl rfl (by omega) (by omega) (by omega) hzb hNnb)
   (lbase (hEx _ _ _ (fun _ _ h => Rw.to (sz := 2) (n := Na) (F := (fun ι w v => KI w v (aa ι) ((fun ι => (xsa ι).take 2) ι) (eza ι) 2)) (h) (fun i w v _ h => (fun _ _ _ h => And.right h) i w v h)) (fun _ _ h => Rw.to (sz := 2) (n := Nb) (F := (fun ι w v => KI w v (ab ι) ((fun ι => (xsb ι).take 2) ι) (ezb ι) 2)) (h) (fun i w v _ h => (fun _ _ _ h => And.right h) i w v h)))
   (lbase (qLen (sz := 4) (n := (trimL (mk Nb ezb)).length) (F := (fun ι w v => DecQ w v ((((coef (trimL (mk Nb ezb))) ι : Int) : Rat)) (2 + 2 + 2))) Tryz.underlying30 (fun _ _ h => Rw.arr h) rfl)
   (lbase (qTestC (op := .eql) (fun _ _ h => h) (ts_run (decide_eq_false (by omega)) (by simp)))
   (lbase (sDModW (z := coef (trimL (mk Na eza))) (y := coef (trimL (mk Nb ezb))) (n := nb) (n0 := (trimL (mk Na eza)).length) (M := m) (nv := nv) (kz := 12) (ky := 2) (K := 200) (fun _ _ h => h) (fun _ _ h => Rw.len h h0) rfl rfl hm.symm hnq hnv (by omega) (by omega) (by omega) (by omega) (by omega) hzB hyB (by omega) (fun i hi => coef_out hi) hzt hy0 hyt)
   (lbase (qLen (sz := 4) (n := nv) (F := (fun ι w v => DecQ w v ((rq (fun i => ((coef (trimL (mk Na eza)) i : Int) : Rat)) (fun i => ((coef (trimL (mk Nb ezb)) i : Int) : Rat)) nb m m ι)) 200)) Tryz.underlying30 (fun _ _ h => Rw.arr h) rfl)
   (lbase (qTestC (op := .eql) (fun _ _ h => h) (ts_run (decide_eq_false (by omega)) (by simp)))
   (lbase (qLen (sz := 4) (n := m) (F := (fun ι w v => DecQ w v ((rqQ (fun i => ((coef (trimL (mk Na eza)) i : Int) : Rat)) (fun i => ((coef (trimL (mk Nb ezb)) i : Int) : Rat)) nb m ι)) 200)) Tryz.underlying30 (fun _ _ h => Rw.arr h) rfl)
   (lloop (counted m (fun j => ph (b_path_init aa ab xsa xsb eza ezb ma mb Na Nb nb m nv ++ l_path_init_1 j)) (fun _ => 0) (fun j p hp => ph_app' (show p < (b_path_init aa ab xsa xsb eza ezb ma mb Na Nb nb m nv).length from hp)) ⟨fun _ => rfl, trivial⟩ (fun j hj => by
   skip
   exact ⟨(r_path_init_1_0, [.from 12]), rfl, ⟨fun _ _ h => h, trivial⟩, (lbase (qTest (op := .lss) (fun _ _ h => h) (fun _ _ h => h) (ts_run (decide_eq_true (by omega)) (by simp)))
   (lbase (qAddK (fun _ _ h => h) (by omega) rfl (by omega) (by omega))
   lnil))⟩)
   (lbase (qTest (op := .lss) (fun _ _ h => h) (fun _ _ h => h) (ts_run (decide_eq_false (by omega)) (by simp)))
   lnil)
   (fun q hq => by cases hq)) (lbase (qLenNil Tryz.underlying23)
   (lbase (sWakes6)
   lnil))))))))))))
  (ins_ok [.fact 0 (.one (.s)), .fact 1 (.one (.s)), .lit (.cb false)] ⟨fun _ _ h => Rw.is (sz := 2) (F := (fun ι w v => RawI w v (aa ι) (xsa ι))) (n := ma) h, fun _ _ h => Rw.is (sz := 2) (F := (fun ι w v => RawI w v (ab ι) (xsb ι))) (n := mb) h, (fun _ h => by cases h), trivial⟩) (fun _ _ _ h => h)
def b_path_mid (aa ab : Nat -> Bool) (xsa xsb : Nat -> List Nat) (eza ezb : Nat -> Int) (ma mb Na Nb : Nat) (nb m nv : Nat) : List (World -> Value -> Prop) := [fun w v => Rw 2 (fun ι w v => RawI w v (aa ι) (xsa ι)) ma w v, fun w v => Rw 2 (fun ι w v => RawI w v (ab ι) (xsb ι)) mb w v, fun w v => Rw 2 (fun ι w v => KI w v (aa ι) ((fun ι => (xsa ι).take 2) ι) (eza ι) 2) Na w v, fun w v => Rw 4 (fun ι w v => DecQ w v ((((coef (trimL (mk Na eza))) ι : Int) : Rat)) (2 + 2 + 2)) ((trimL (mk Na eza)).length) w v, fun w v => Rw 2 (fun ι w v => KI w v (ab ι) ((fun ι => (xsb ι).take 2) ι) (ezb ι) 2) Nb w v, fun w v => Rw 4 (fun ι w v => DecQ w v ((((coef (trimL (mk Nb ezb))) ι : Int) : Rat)) (2 + 2 + 2)) ((trimL (mk Nb ezb)).length) w v, fun _ v => v = .int .i64 (((trimL (mk Nb ezb)).length : Nat) : Int), fun w v => Rw 4 (fun ι w v => DecQ w v ((rqQ (fun i => ((coef (trimL (mk Na eza)) i : Int) : Rat)) (fun i => ((coef (trimL (mk Nb ezb)) i : Int) : Rat)) nb m ι)) 200) m w v, fun w v => Rw 4 (fun ι w v => DecQ w v ((rq (fun i => ((coef (trimL (mk Na eza)) i : Int) : Rat)) (fun i => ((coef (trimL (mk Nb ezb)) i : Int) : Rat)) nb m m ι)) 200) nv w v, fun _ v => v = .int .i64 ((nv : Nat) : Int), fun _ v => v = .int .i64 ((m : Nat) : Int), fun _ v => v = .bool false]
def l_path_mid_1 (eza ezb : Nat -> Int) (Na Nb : Nat) (nb m J1 : Nat) (j : Nat) : List (World -> Value -> Prop) := [fun _ v => v = .int .i64 ((j : Nat) : Int), fun _ v => v = .bool (decide (j <= J1)), fun w v => Ptr 4 (fun w v => DecQ w v ((rqQ (fun i => ((coef (trimL (mk Na eza)) i : Int) : Rat)) (fun i => ((coef (trimL (mk Nb ezb)) i : Int) : Rat)) nb m j)) 200) w v, fun w v => Ptr 2 (fun w v => DecI w v (((rqQ (fun i => ((coef (trimL (mk Na eza)) i : Int) : Rat)) (fun i => ((coef (trimL (mk Nb ezb)) i : Int) : Rat)) nb m j)).den : Int) 200) w v, fun w v => DecI w v (((rqQ (fun i => ((coef (trimL (mk Na eza)) i : Int) : Rat)) (fun i => ((coef (trimL (mk Nb ezb)) i : Int) : Rat)) nb m j)).den : Int) 200, fun w v => DecI w v (1 : Int) 2, fun _ v => v = .int .i64 (((j + 1) : Nat) : Int), fun w v => Ptr 4 (fun w v => DecQ w v ((rqQ (fun i => ((coef (trimL (mk Na eza)) i : Int) : Rat)) (fun i => ((coef (trimL (mk Nb ezb)) i : Int) : Rat)) nb m j)) 200) w v, fun w v => Ptr 2 (fun w v => DecI w v (((rqQ (fun i => ((coef (trimL (mk Na eza)) i : Int) : Rat)) (fun i => ((coef (trimL (mk Nb ezb)) i : Int) : Rat)) nb m j)).den : Int) 200) w v, fun w v => DecI w v (((rqQ (fun i => ((coef (trimL (mk Na eza)) i : Int) : Rat)) (fun i => ((coef (trimL (mk Nb ezb)) i : Int) : Rat)) nb m j)).den : Int) 200, fun w v => DecI w v (1 : Int) 2, fun _ v => v = .int .i64 (((j + 1) : Nat) : Int), fun _ v => v = .int .i64 (((j + 1) : Nat) : Int)]
def d_path_mid_1 : LoopD := ⟨[0, 1, 2, 6, 7, 8, 9, 10, 11, 12, 15, 16, 17, 18, 19, 20, 21, 22, 23, 24, 25, 31, 32, 33, 34, 35, 36, 37, 38, 39, 50, 51, 52, 53, 54, 55, 56, 57, 58, 59, 60], [(.slot 61, .i), (.slot 13, .b)], [(.one 0, 12), (.one 1, 13)], [.closed (.one (.ci .i64 0)), .closed (.one (.cb true))], 12, [(13, 11)]⟩
def r_path_mid_1_0 : List Step := [.base ⟨0, [.fact 12, .fact 10], [⟨.one (.lit (.cb true)), []⟩], .quiet (mBin .lss)⟩,
   .base ⟨0, [.fact 13], [⟨.one (.lit (.cb true)), []⟩], .fresh [] (mMove 13)⟩,
   .base ⟨0, [.fact 7, .fact 12], [⟨.one (.p), [(0, 0, 14)]⟩], .quiet (mIdx 30)⟩,
   .base ⟨0, [.fact 14], [⟨.one (.p), [(0, 0, 15)]⟩], .quiet (mFld 53 1)⟩,
   .base ⟨0, [.fact 15], [⟨.agg [.s, .b], [(0, 0, 16)]⟩], .quiet (mLoad 51)⟩,
   .base ⟨28, [.lit (.ci .i64 1)], [⟨.agg [.s, .b], [(0, 0, 17)]⟩], false⟩,
   .base ⟨42, [.fact 16, .fact 17], [⟨.one (.lit (.ci .i64 0)), []⟩], false⟩,
   .base ⟨0, [.fact 12, .lit (.ci .i64 1)], [⟨.one (.i), [(0, 0, 18)]⟩], .quiet (mBin .add)⟩]
def r_path_mid_1_1 : List Step := [.base ⟨0, [.fact 12, .fact 10], [⟨.one (.lit (.cb true)), []⟩], .quiet (mBin .lss)⟩,
   .base ⟨0, [.fact 13], [⟨.one (.lit (.cb true)), []⟩], .fresh [] (mMove 13)⟩,
   .base ⟨0, [.fact 7, .fact 12], [⟨.one (.p), [(0, 0, 19)]⟩], .quiet (mIdx 30)⟩,
   .base ⟨0, [.fact 19], [⟨.one (.p), [(0, 0, 20)]⟩], .quiet (mFld 53 1)⟩,
   .base ⟨0, [.fact 20], [⟨.agg [.s, .b], [(0, 0, 21)]⟩], .quiet (mLoad 51)⟩,
   .base ⟨28, [.lit (.ci .i64 1)], [⟨.agg [.s, .b], [(0, 0, 22)]⟩], false⟩,
   .base ⟨42, [.fact 21, .fact 22], [⟨.one (.lit (.ci .i64 1)), []⟩], false⟩,
   .base ⟨0, [.fact 12, .lit (.ci .i64 1)], [⟨.one (.i), [(0, 0, 23)]⟩], .quiet (mBin .add)⟩]
def r_path_mid_1_2 : List Step := [.base ⟨0, [.fact 12, .fact 10], [⟨.one (.lit (.cb true)), []⟩], .quiet (mBin .lss)⟩,
   .base ⟨0, [.fact 13], [⟨.one (.lit (.cb false)), []⟩], .fresh [] (mMove 13)⟩,
   .base ⟨0, [.fact 12, .lit (.ci .i64 1)], [⟨.one (.i), [(0, 0, 24)]⟩], .quiet (mBin .add)⟩]
def o_path_mid_1 : List Step := [.base ⟨0, [.fact 12, .fact 10], [⟨.one (.lit (.cb false)), []⟩], .quiet (mBin .lss)⟩]
def ss_path_mid : List Step := [.base ⟨11, [.fact 0, .lit (.ci .i64 6), .lit (.ci .i64 2)], [⟨.one (.s), [(0, 0, 2)]⟩, ⟨.one (.s), [(0, 0, 3)]⟩], true⟩,
   .base ⟨11, [.fact 1, .lit (.ci .i64 5), .lit (.ci .i64 2)], [⟨.one (.s), [(0, 0, 4)]⟩, ⟨.one (.s), [(0, 0, 5)]⟩], true⟩,
   .base ⟨41, [.fact 2, .fact 4], [⟨.one (.lit (.nl)), []⟩, ⟨.one (.lit (.ci .i64 3)), []⟩], true⟩,
   .base ⟨0, [.fact 5], [⟨.one (.i), [(0, 0, 6)]⟩], .quiet (mLen 30)⟩,
   .base ⟨0, [.fact 6, .lit (.ci .i64 0)], [⟨.one (.lit (.cb false)), []⟩], .quiet (mBin .eql)⟩,
   .base ⟨39, [.fact 3, .fact 5], [⟨.one (.s), [(0, 0, 7)]⟩, ⟨.one (.s), [(0, 0, 8)]⟩], true⟩,
   .base ⟨0, [.fact 8], [⟨.one (.i), [(0, 0, 9)]⟩], .quiet (mLen 30)⟩,
   .base ⟨0, [.fact 9, .lit (.ci .i64 0)], [⟨.one (.lit (.cb true)), []⟩], .quiet (mBin .eql)⟩,
   .base ⟨0, [.fact 7], [⟨.one (.i), [(0, 0, 10)]⟩], .quiet (mLen 30)⟩,
   .loop d_path_mid_1 [(r_path_mid_1_0, [.from 18, .closed (.one (.cb true))]), (r_path_mid_1_1, [.from 23, .closed (.one (.cb false))]), (r_path_mid_1_2, [.from 24, .closed (.one (.cb false))])] o_path_mid_1,
   .base ⟨0, [.fact 11], [⟨.one (.lit (.cb false)), []⟩], .fresh [] (mMove 13)⟩,
   .base ⟨0, [.lit .nl], [⟨.one (.lit (.ci .i64 0)), []⟩], .quiet (mLen 23)⟩,
   .base ⟨37, [], [⟨.one (.lit (.cb true)), []⟩], false⟩]
def ins_path_mid : List Out := [⟨.one (.s), [(0, 0, 0)]⟩, ⟨.one (.s), [(0, 0, 1)]⟩, ⟨.one (.lit (.cb false)), []⟩]
set_option maxHeartbeats 1000000 in
set_option maxRecDepth 100000 in
theorem path_mid {aa ab : Nat -> Bool} {xsa xsb : Nat -> List Nat} {eza ezb : Nat -> Int} {ma mb Na Nb : Nat} {nb m nv J1 : Nat} {c : Int} (hna : ma <= 9223372036854775807) (hza : ∀ j, sg (aa j) (Proofs.YteblgmjpociffaaGreat.val 4294967296 ((xsa j).take 2)) = eza j) (hNna : min ma 6 = Na) (hnb : mb <= 9223372036854775807) (hzb : ∀ j, sg (ab j) (Proofs.YteblgmjpociffaaGreat.val 4294967296 ((xsb j).take 2)) = ezb j) (hNnb : min mb 5 = Nb) (h0 : (trimL (mk Nb ezb)).length = nb + 1) (hnb : nb <= 4) (hWl : (trimL (mk Na eza)).length <= 10) (hm : m = (trimL (mk Na eza)).length - nb) (_hc : ldZ (coef (trimL (mk Nb ezb))) (nb + 1) = c) (hc0 : c ≠ 0)
  (hnq : tl (fun i => (rqQ (fun i => ((coef (trimL (mk Na eza)) i : Int) : Rat)) (fun i => ((coef (trimL (mk Nb ezb)) i : Int) : Rat)) nb m i).num) m = m) (hnv : tl (fun i => (rq (fun i => ((coef (trimL (mk Na eza)) i : Int) : Rat)) (fun i => ((coef (trimL (mk Nb ezb)) i : Int) : Rat)) nb m m i).num) nb = nv) (hnvl : nv <= nb)
  (hzB : ∀ i, Bd (coef (trimL (mk Na eza)) i).natAbs 12) (hyB : ∀ i, Bd (coef (trimL (mk Nb ezb)) i).natAbs 2) (hzt : 0 < (trimL (mk Na eza)).length -> coef (trimL (mk Na eza)) ((trimL (mk Na eza)).length - 1) ≠ 0) (hy0 : ∀ i, nb < i -> coef (trimL (mk Nb ezb)) i = 0) (hyt : coef (trimL (mk Nb ezb)) nb ≠ 0) (hEx : ∀ (Φ : Nat -> World -> Value -> Prop) (p q : Nat), (∀ w v, Φ p w v -> Rw 2 (fun i w v => IntV w v (eza i) 2) Na w v) -> (∀ w v, Φ q w v -> Rw 2 (fun i w v => IntV w v (ezb i) 2) Nb w v) -> SiteOk Φ Tryz.prog ⟨41, [.fact p, .fact q], [⟨.one (.lit .nl), []⟩, ⟨.one (.lit (.ci .i64 3)), []⟩], true⟩) (hv0 : nv = 0) (hw : ∀ i, i < J1 -> (rqQ (fun i => ((coef (trimL (mk Na eza)) i : Int) : Rat)) (fun i => ((coef (trimL (mk Nb ezb)) i : Int) : Rat)) nb m i).den = 1) (hJ1 : (rqQ (fun i => ((coef (trimL (mk Na eza)) i : Int) : Rat)) (fun i => ((coef (trimL (mk Nb ezb)) i : Int) : Rat)) nb m J1).den ≠ 1) (hJm : J1 < m) : SiteOk (ph (b_path_mid aa ab xsa xsb eza ezb ma mb Na Nb nb m nv)) Tryz.prog ⟨6, [.fact 0, .fact 1, .lit (.cb false)], [⟨.one (.lit (.cb true)), []⟩], false⟩ := by
 skip
 exact fn_okL ins_path_mid [⟨.one (.lit (.cb true)), []⟩] ss_path_mid Tryz.func6 (by kernel_rfl)
  (lbase (sCut5 6 2 rfl rfl (fun _ _ h => h) rfl rfl (by omega) (by omega) (by omega) hza hNna)
   (lbase (sCut5 5 2 rfl rfl (fun _ _ h => h) rfl rfl (by omega) (by omega) (by omega) hzb hNnb)
   (lbase (hEx _ _ _ (fun _ _ h => Rw.to (sz := 2) (n := Na) (F := (fun ι w v => KI w v (aa ι) ((fun ι => (xsa ι).take 2) ι) (eza ι) 2)) (h) (fun i w v _ h => (fun _ _ _ h => And.right h) i w v h)) (fun _ _ h => Rw.to (sz := 2) (n := Nb) (F := (fun ι w v => KI w v (ab ι) ((fun ι => (xsb ι).take 2) ι) (ezb ι) 2)) (h) (fun i w v _ h => (fun _ _ _ h => And.right h) i w v h)))
   (lbase (qLen (sz := 4) (n := (trimL (mk Nb ezb)).length) (F := (fun ι w v => DecQ w v ((((coef (trimL (mk Nb ezb))) ι : Int) : Rat)) (2 + 2 + 2))) Tryz.underlying30 (fun _ _ h => Rw.arr h) rfl)
   (lbase (qTestC (op := .eql) (fun _ _ h => h) (ts_run (decide_eq_false (by omega)) (by simp)))
   (lbase (sDModW (z := coef (trimL (mk Na eza))) (y := coef (trimL (mk Nb ezb))) (n := nb) (n0 := (trimL (mk Na eza)).length) (M := m) (nv := nv) (kz := 12) (ky := 2) (K := 200) (fun _ _ h => h) (fun _ _ h => Rw.len h h0) rfl rfl hm.symm hnq hnv (by omega) (by omega) (by omega) (by omega) (by omega) hzB hyB (by omega) (fun i hi => coef_out hi) hzt hy0 hyt)
   (lbase (qLen (sz := 4) (n := nv) (F := (fun ι w v => DecQ w v ((rq (fun i => ((coef (trimL (mk Na eza)) i : Int) : Rat)) (fun i => ((coef (trimL (mk Nb ezb)) i : Int) : Rat)) nb m m ι)) 200)) Tryz.underlying30 (fun _ _ h => Rw.arr h) rfl)
   (lbase (qTestC (op := .eql) (fun _ _ h => h) (ts_run (decide_eq_true (by omega)) (by simp)))
   (lbase (qLen (sz := 4) (n := m) (F := (fun ι w v => DecQ w v ((rqQ (fun i => ((coef (trimL (mk Na eza)) i : Int) : Rat)) (fun i => ((coef (trimL (mk Nb ezb)) i : Int) : Rat)) nb m ι)) 200)) Tryz.underlying30 (fun _ _ h => Rw.arr h) rfl)
   (lloop (counted m (fun j => ph (b_path_mid aa ab xsa xsb eza ezb ma mb Na Nb nb m nv ++ l_path_mid_1 eza ezb Na Nb nb m J1 j)) (fun j => if j < J1 then 0 else if j = J1 then 1 else 2) (fun j p hp => ph_app' (show p < (b_path_mid aa ab xsa xsb eza ezb ma mb Na Nb nb m nv).length from hp)) ⟨fun _ => rfl, fun _ => congrArg Value.bool (decide_eq_true (Nat.zero_le _)).symm, trivial⟩ (fun j hj => by
   skip
   by_cases hcj : j < J1
   ·skip
    exact ⟨(r_path_mid_1_0, [.from 18, .closed (.one (.cb true))]), by rw [if_pos hcj]; rfl, ⟨fun _ _ h => h, fun _ => congrArg Value.bool (decide_eq_true (show j + 1 <= J1 by omega)).symm, trivial⟩, (lbase (qTest (op := .lss) (fun _ _ h => h) (fun _ _ h => h) (ts_run (decide_eq_true (by omega)) (by simp)))
   (lbase (qMoveB (b := true) (fun _ _ h => h.trans (congrArg Value.bool (decide_eq_true (by omega)))))
   (lbase (qIdx (i := j) (sz := 4) (n := m) (F := (fun ι w v => DecQ w v ((rqQ (fun i => ((coef (trimL (mk Na eza)) i : Int) : Rat)) (fun i => ((coef (trimL (mk Nb ezb)) i : Int) : Rat)) nb m ι)) 200)) Tryz.underlying30 (by kernel_rfl) (fun _ _ h => Rw.arr h) (fun _ _ h => h) (by omega) rfl)
   (lbase (qFld (off := 2) (len := 2) (sz := 4) (F := fun w v => DecQ w v ((rqQ (fun i => ((coef (trimL (mk Na eza)) i : Int) : Rat)) (fun i => ((coef (trimL (mk Nb ezb)) i : Int) : Rat)) nb m j)) 200) (G := fun w v => DecI w v (((rqQ (fun i => ((coef (trimL (mk Na eza)) i : Int) : Rat)) (fun i => ((coef (trimL (mk Nb ezb)) i : Int) : Rat)) nb m j)).den : Int) 200) (by kernel_rfl) (fun _ _ h => h) (by omega) (fun _ _ h => DecQ.snd' h) rfl)
   (lbase (qLoad (sz := 2) (F := fun w v => DecI w v (((rqQ (fun i => ((coef (trimL (mk Na eza)) i : Int) : Rat)) (fun i => ((coef (trimL (mk Nb ezb)) i : Int) : Rat)) nb m j)).den : Int) 200) (by kernel_rfl) (by kernel_rfl) (fun _ _ h => h) (fun _ _ _ g h => DecI.kp h g) (fun _ _ h => DecI.is h) rfl)
   (lbase (tOf (z := 1) rfl (by decide) (by decide) rfl)
   (lbase (tCmp5 dD dD (by omega) (by rw [hw j (by omega)]; rfl))
   (lbase (qAddK (fun _ _ h => h) (by omega) rfl (by omega) (by omega))
   lnil))))))))⟩
   by_cases hdj : j = J1
   ·skip
    exact ⟨(r_path_mid_1_1, [.from 23, .closed (.one (.cb false))]), by rw [if_neg hcj, if_pos hdj]; rfl, ⟨fun _ _ h => h, fun _ => congrArg Value.bool (decide_eq_false (show ¬ j + 1 <= J1 by omega)).symm, trivial⟩, (lbase (qTest (op := .lss) (fun _ _ h => h) (fun _ _ h => h) (ts_run (decide_eq_true (by omega)) (by simp)))
   (lbase (qMoveB (b := true) (fun _ _ h => h.trans (congrArg Value.bool (decide_eq_true (by omega)))))
   (lbase (qIdx (i := j) (sz := 4) (n := m) (F := (fun ι w v => DecQ w v ((rqQ (fun i => ((coef (trimL (mk Na eza)) i : Int) : Rat)) (fun i => ((coef (trimL (mk Nb ezb)) i : Int) : Rat)) nb m ι)) 200)) Tryz.underlying30 (by kernel_rfl) (fun _ _ h => Rw.arr h) (fun _ _ h => h) (by omega) rfl)
   (lbase (qFld (off := 2) (len := 2) (sz := 4) (F := fun w v => DecQ w v ((rqQ (fun i => ((coef (trimL (mk Na eza)) i : Int) : Rat)) (fun i => ((coef (trimL (mk Nb ezb)) i : Int) : Rat)) nb m j)) 200) (G := fun w v => DecI w v (((rqQ (fun i => ((coef (trimL (mk Na eza)) i : Int) : Rat)) (fun i => ((coef (trimL (mk Nb ezb)) i : Int) : Rat)) nb m j)).den : Int) 200) (by kernel_rfl) (fun _ _ h => h) (by omega) (fun _ _ h => DecQ.snd' h) rfl)
   (lbase (qLoad (sz := 2) (F := fun w v => DecI w v (((rqQ (fun i => ((coef (trimL (mk Na eza)) i : Int) : Rat)) (fun i => ((coef (trimL (mk Nb ezb)) i : Int) : Rat)) nb m j)).den : Int) 200) (by kernel_rfl) (by kernel_rfl) (fun _ _ h => h) (fun _ _ _ g h => DecI.kp h g) (fun _ _ h => DecI.is h) rfl)
   (lbase (tOf (z := 1) rfl (by decide) (by decide) rfl)
   (lbase (tCmp5 dD dD (by omega) (cmp_big (by rw [hdj]; exact hJ1) (Rat.den_pos _)))
   (lbase (qAddK (fun _ _ h => h) (by omega) rfl (by omega) (by omega))
   lnil))))))))⟩
   ·skip
    exact ⟨(r_path_mid_1_2, [.from 24, .closed (.one (.cb false))]), by rw [if_neg hcj, if_neg hdj]; rfl, ⟨fun _ _ h => h, fun _ => congrArg Value.bool (decide_eq_false (show ¬ j + 1 <= J1 by omega)).symm, trivial⟩, (lbase (qTest (op := .lss) (fun _ _ h => h) (fun _ _ h => h) (ts_run (decide_eq_true (by omega)) (by simp)))
   (lbase (qMoveB (b := false) (fun _ _ h => h.trans (congrArg Value.bool (decide_eq_false (by omega)))))
   (lbase (qAddK (fun _ _ h => h) (by omega) rfl (by omega) (by omega))
   lnil)))⟩)
   (lbase (qTest (op := .lss) (fun _ _ h => h) (fun _ _ h => h) (ts_run (decide_eq_false (by omega)) (by simp)))
   lnil)
   (fun q hq w v h => by
    simp only [d_path_mid_1, List.mem_cons, List.not_mem_nil, or_false] at hq
    rcases hq with rfl
    ·exact (fun h => h.trans (congrArg Value.bool (decide_eq_false (by omega)))) h)) (lbase (qMoveB (b := false) (fun _ _ h => h))
   (lbase (qLenNil Tryz.underlying23)
   (lbase (sWakes6)
   lnil)))))))))))))
  (ins_ok [.fact 0 (.one (.s)), .fact 1 (.one (.s)), .lit (.cb false)] ⟨fun _ _ h => Rw.is (sz := 2) (F := (fun ι w v => RawI w v (aa ι) (xsa ι))) (n := ma) h, fun _ _ h => Rw.is (sz := 2) (F := (fun ι w v => RawI w v (ab ι) (xsb ι))) (n := mb) h, (fun _ h => by cases h), trivial⟩) (fun _ _ _ h => h)
section
variable {q y z : Nat -> Int} {n m kz ky : Nat} {c : Int}
theorem ex_all (hy : y n = c) (hy0 : ∀ i, n < i -> y i = 0) (hc : c ≠ 0) (hq : ∀ i, m <= i -> q i = 0) : ∀ {j}, j <= m -> (∀ p, p < m - j + n -> exA (conv q y) y n m c j p = conv (upto (m - j) q) y p) ∧ (j < m -> exA (conv q y) y n m c j (m - 1 - j + n) = q (m - 1 - j) * c) := by
 have hst : ∀ i p, conv (upto (i + 1) q) y p = conv (upto i q) y p + (if i <= p then q i * y (p - i) else 0) := fun i p => by
  rw [<- conv_one (q i) i y p, <- conv_addL]
  refine conv_congr (fun x _ => ?_) (fun _ _ => rfl)
  unfold upto
  by_cases h1 : x = i
  ·subst h1; rw [if_pos (by omega), if_neg (by omega), if_pos rfl]; omega
  ·by_cases h2 : x < i
   ·rw [if_pos (by omega), if_pos h2, if_neg h1]; omega
   ·rw [if_neg (by omega), if_neg h2, if_neg h1]; omega
 have hnext : ∀ {j}, j < m -> (∀ p, p < m - j + n -> exA (conv q y) y n m c j p = conv (upto (m - j) q) y p) -> exA (conv q y) y n m c j (m - 1 - j + n) = q (m - 1 - j) * c := fun {j} hj h => by
  rw [h _ (by omega), show m - j = m - 1 - j + 1 by omega, hst, if_pos (by omega), show m - 1 - j + n - (m - 1 - j) = n by omega, hy, conv_out (a := m - 1 - j) (b := n + 1) (fun i hi => upto_out hi) (fun i hi => hy0 i (by omega)) (by omega)]; omega
 have hall : ∀ j, j <= m -> ∀ p, p < m - j + n -> exA (conv q y) y n m c j p = conv (upto (m - j) q) y p := fun j => by
  induction j with
  | zero =>
   intro _ p _
   exact conv_congr (fun i _ => by
    unfold upto
    split
    ·rfl
    ·exact hq i (by omega)) (fun _ _ => rfl)
  | succ j ih =>
   intro hj p hp
   have h1 := ih (by omega)
   have h2 := hnext (by omega) h1
   show exS (exA (conv q y) y n m c j) y (exA (conv q y) y n m c j (m - 1 - j + n) / c) (m - 1 - j) n p = _
   rw [h2, Int.mul_ediv_cancel _ hc, exS]
   have h3 := hst (m - 1 - j) p
   rw [show m - 1 - j + 1 = m - j by omega] at h3
   rw [show m - (j + 1) = m - 1 - j by omega]
   split
   ·rename_i h4
    rw [h1 p (by omega), h3, if_pos h4.1]; omega
   ·rw [h1 p (by omega), h3, if_neg (by omega)]; omega
 exact fun {j} hj => ⟨hall j hj, fun h => hnext h (hall j hj)⟩
theorem ex_bd (hz : ∀ p, Bd (z p).natAbs kz) (hy : ∀ p, Bd (y p).natAbs ky) : ∀ j, (∀ p, Bd (exA z y n m c j p).natAbs (kz + j * (ky + 1))) ∧ ∀ i p, Bd (exM z y n m c j i p).natAbs (kz + (j + 1) * (ky + 1)) := by
 have hM : ∀ j, (∀ p, Bd (exA z y n m c j p).natAbs (kz + j * (ky + 1))) -> ∀ i p, Bd (exM z y n m c j i p).natAbs (kz + (j + 1) * (ky + 1)) := fun j h i p => by
  unfold exM exS
  split
  ·have h1 : Bd (exA z y n m c j (m - 1 - j + n) / c).natAbs (kz + j * (ky + 1)) := (h _).le (Int.natAbs_ediv_le_natAbs ..)
   have h2 := Bd.mul h1 (hy (p - (m - 1 - j)))
   refine (Bd.le (B := (exA z y n m c j p - exA z y n m c j (m - 1 - j + n) / c * y (p - (m - 1 - j))).natAbs) (Bd.add1' ((h p).more (by omega)) h2) ?_).more ?_
   ·rw [<- Int.natAbs_mul]; omega
   ·rw [Nat.succ_mul]; omega
  ·refine (h p).more ?_
   rw [Nat.succ_mul]; omega
 have hA : ∀ j, ∀ p, Bd (exA z y n m c j p).natAbs (kz + j * (ky + 1)) := fun j => by
  induction j with
  | zero => exact fun p => (hz p).more (by omega)
  | succ j ih => exact hM j ih n
 exact fun j => ⟨hA j, hM j (hA j)⟩
end
theorem tl_none {f : Nat -> Int} : ∀ {n : Nat}, (∀ i, i < n -> f i = 0) -> tl f n = 0
 | 0, _ => rfl
 | n + 1, h => by
  unfold tl
  rw [if_pos (h n (by omega)), tl_none fun i hi => h i (by omega)]
theorem coef_tm (n : Nat) (f : Nat -> Int) (i : Nat) : coef (trimL (mk n f)) i = upto n f i := by
 rw [coef_trim, coef_mk]; rfl
theorem coef_bd {L : List Int} {k n : Nat} {f : Nat -> Int} (hL : trimL (mk n f) = L) (h : ∀ i, i < n -> Bd (f i).natAbs k) (i : Nat) : Bd (coef L i).natAbs k := by
 rw [<- hL, coef_tm]
 unfold upto
 split
 ·exact h i (by assumption)
 ·exact bd_zeroD k
theorem tl_trim (L : List Int) : tl (coef (trimL L)) (trimL L).length = (trimL L).length := by
 have h := trimL_of (trimL_nrm L)
 have h2 := congrArg List.length h
 rw [trimL_length] at h2
 exact h2
theorem trim_self {L : List Int} (h : Nrm L) : trimL (mk L.length (coef L)) = L := by
 have : mk L.length (coef L) = L := by
  apply List.ext_getElem (by rw [mk_length])
  intro i h1 h2
  simp [mk, coef, List.getD_eq_getElem?_getD, List.getElem?_eq_getElem h2]
 rw [this]
 exact trimL_of h
theorem least' (P : Nat -> Prop) : ∀ k, (∃ J, J < k ∧ (∀ j, j < J -> P j) ∧ ¬ P J) ∨ ∀ j, j < k -> P j
 | 0 => .inr fun _ h => by omega
 | k + 1 => by
  rcases least' P k with ⟨J, h1, h2, h3⟩ | h
  ·exact .inl ⟨J, by omega, h2, h3⟩
  ·by_cases h1 : P k
   ·refine .inr fun j hj => ?_
    rcases Nat.lt_or_ge j k with h2 | h2
    ·exact h j h2
    ·rw [show j = k by omega]; exact h1
   ·exact .inl ⟨k, by omega, h, h1⟩
section
variable {z y : Nat -> Int} {n m : Nat} {c : Int}
theorem ex_rq (hy : y n = c) (hc : c ≠ 0) : ∀ {j}, j <= m -> (∀ i, i < j -> c ∣ exA z y n m c i (m - 1 - i + n)) -> ∀ p, p < m - j + n -> rq (fun i => ((z i : Int) : Rat)) (fun i => ((y i : Int) : Rat)) n m j p = ((exA z y n m c j p : Int) : Rat)
 | 0, _, _, _, _ => rfl
 | j + 1, hj, hd, p, hp => by
  have h1 := ex_rq hy hc (j := j) (by omega) (fun i hi => hd i (by omega)) p (by omega)
  have h2 := ex_rq hy hc (j := j) (by omega) (fun i hi => hd i (by omega)) (m - 1 - j + n) (by omega)
  have hc' : ((c : Int) : Rat) ≠ 0 := fun e => hc (by exact_mod_cast e)
  obtain ⟨d, hd'⟩ := hd j (by omega)
  show rq (fun i => ((z i : Int) : Rat)) (fun i => ((y i : Int) : Rat)) n m j p - (if m - 1 - j <= p then rq (fun i => ((z i : Int) : Rat)) (fun i => ((y i : Int) : Rat)) n m j (m - 1 - j + n) / ((y n : Int) : Rat) * ((y (p - (m - 1 - j)) : Int) : Rat) else 0) = ((exS (exA z y n m c j) y (exA z y n m c j (m - 1 - j + n) / c) (m - 1 - j) n p : Int) : Rat)
  rw [h1, h2, hy, hd', Int.mul_ediv_cancel_left _ hc, exS]
  by_cases h3 : m - 1 - j <= p
  ·rw [if_pos h3, if_pos ⟨h3, by omega⟩, Rat.intCast_sub, Rat.intCast_mul d, Rat.intCast_mul c, Rat.mul_comm ((c : Int) : Rat), Rat.div_def, Rat.mul_assoc ((d : Int) : Rat), Rat.mul_inv_cancel _ hc', Rat.mul_one]
  ·rw [if_neg h3, if_neg (by omega), Rat.sub_eq_add_neg, Rat.neg_zero, Rat.add_zero]
theorem ex_q (hy : y n = c) (hc : c ≠ 0) {i : Nat} (hi : i < m) (hd : ∀ j, j < m - 1 - i -> c ∣ exA z y n m c j (m - 1 - j + n)) : rqQ (fun i => ((z i : Int) : Rat)) (fun i => ((y i : Int) : Rat)) n m i = ((exA z y n m c (m - 1 - i) (i + n) : Int) : Rat) / ((c : Int) : Rat) := by
 rw [rqQ, if_pos hi, hy, ex_rq hy hc (by omega) hd _ (by omega)]
theorem ex_qe (hy : y n = c) (hc : c ≠ 0) {i : Nat} (hi : i < m) (hd : ∀ j, j < m -> c ∣ exA z y n m c j (m - 1 - j + n)) : rqQ (fun i => ((z i : Int) : Rat)) (fun i => ((y i : Int) : Rat)) n m i = ((exT z y n m c i : Int) : Rat) := by
 have hc' : ((c : Int) : Rat) ≠ 0 := fun e => hc (by exact_mod_cast e)
 obtain ⟨d, hd'⟩ := hd (m - 1 - i) (by omega)
 rw [show m - 1 - (m - 1 - i) + n = i + n by omega] at hd'
 rw [ex_q hy hc hi fun j hj => hd j (by omega), exT, hd', Int.mul_ediv_cancel_left _ hc, Rat.intCast_mul, Rat.mul_comm, Rat.div_def, Rat.mul_assoc, Rat.mul_inv_cancel _ hc', Rat.mul_one]
end
section
variable {W Y : List Int} {nb m : Nat} {c : Int}
theorem nq_top (hy : coef Y nb = c) (hc : c ≠ 0) (hm : m = W.length - nb) (hW : 0 < W.length -> coef W (W.length - 1) ≠ 0) : tl (fun i => (rqQ (fun i => ((coef W i : Int) : Rat)) (fun i => ((coef Y i : Int) : Rat)) nb m i).num) m = m :=
 tl_is (Nat.le_refl _) (fun p _ _ => by omega) fun h e => by
  have hc' : ((c : Int) : Rat) ≠ 0 := fun e => hc (by exact_mod_cast e)
  have h1 := num_zero_iff.1 e
  rw [rqQ, if_pos (by omega), hy, show m - 1 - (m - 1) = 0 by omega, show m - 1 + nb = W.length - 1 by omega] at h1
  have h1 : ((coef W (W.length - 1) : Int) : Rat) / ((c : Int) : Rat) = 0 := h1
  have h2 := Rat.div_mul_cancel (a := ((coef W (W.length - 1) : Int) : Rat)) hc'
  rw [h1, Rat.zero_mul] at h2
  exact hW (by omega) (by exact_mod_cast h2.symm)
theorem nv_is {L2 : List Int} (hy : coef Y nb = c) (hc : c ≠ 0) (hm : m = W.length - nb) (hd : ∀ j, j < m -> c ∣ exA (coef W) (coef Y) nb m c j (m - 1 - j + nb)) (hL2 : trimL (mk (min nb W.length) (exA (coef W) (coef Y) nb m c m)) = L2) : L2.length <= nb ∧ tl (fun i => (rq (fun i => ((coef W i : Int) : Rat)) (fun i => ((coef Y i : Int) : Rat)) nb m m i).num) nb = L2.length := by
 have hl : L2.length <= nb := by
  rw [<- hL2, trimL_mk]
  exact Nat.le_trans (tl_le _ _) (Nat.min_le_left _ _)
 have hr : ∀ p, p < nb -> rq (fun i => ((coef W i : Int) : Rat)) (fun i => ((coef Y i : Int) : Rat)) nb m m p = ((coef L2 p : Int) : Rat) := fun p hp => by
  rw [ex_rq hy hc (Nat.le_refl _) hd p (by omega), <- hL2, coef_tm]
  unfold upto
  split
  ·rfl
  ·have h0 : m = 0 := by omega
   rw [h0]
   have h1 : coef W p = 0 := coef_out (by omega)
   show ((coef W p : Int) : Rat) = _
   rw [h1]
 refine ⟨hl, tl_is hl (fun p h1 h2 => ?_) fun h e => ?_⟩
 ·rw [hr p h2, coef_out h1]; rfl
 ·rw [hr _ (by omega)] at e
  have h3 : coef L2 (L2.length - 1) = 0 := e
  have h1 := tl_last (coef L2) L2.length
  have h2 : tl (coef L2) L2.length = L2.length := by rw [<- hL2]; exact tl_trim _
  rw [h2] at h1
  exact h1 h h3
end
theorem walk {ma mb : Nat} {aa ab : Nat -> Bool} {xsa xsb : Nat -> List Nat} {w : World} {va vb : Value} (hna : ma <= 9223372036854775807) (hla : Rw 2 (fun i w v => RawI w v (aa i) (xsa i)) ma w va) (hnb : mb <= 9223372036854775807) (hlb : Rw 2 (fun i w v => RawI w v (ab i) (xsb i)) mb w vb) (ev : Bool) : Calls Tryz.prog 6 #[va, vb, .bool ev] w (Bool_ w true) := by
 obtain ⟨eza, hza⟩ : ∃ ez : Nat -> Int, ∀ j, sg (aa j) (Proofs.YteblgmjpociffaaGreat.val 4294967296 ((xsa j).take 2)) = ez j := ⟨_, fun _ => rfl⟩
 obtain ⟨ezb, hzb⟩ : ∃ ez : Nat -> Int, ∀ j, sg (ab j) (Proofs.YteblgmjpociffaaGreat.val 4294967296 ((xsb j).take 2)) = ez j := ⟨_, fun _ => rfl⟩
 obtain ⟨Na, hNna⟩ : ∃ N, min ma 6 = N := ⟨_, rfl⟩
 obtain ⟨Nb, hNnb⟩ : ∃ N, min mb 5 = N := ⟨_, rfl⟩
 have hba : ∀ i, i < Na -> Bd (eza i).natAbs 2 := fun i hi => by
  obtain ⟨p, c, rfl, _, h1⟩ := hla
  obtain ⟨_, _, _, l, _, _, s, _, _, h2⟩ := h1 i (by omega)
  rw [<- hza i, sg_abs]
  exact Bd.row _ h2 2
 have hbb : ∀ i, i < Nb -> Bd (ezb i).natAbs 2 := fun i hi => by
  obtain ⟨p, c, rfl, _, h1⟩ := hlb
  obtain ⟨_, _, _, l, _, _, s, _, _, h2⟩ := h1 i (by omega)
  rw [<- hzb i, sg_abs]
  exact Bd.row _ h2 2
 obtain ⟨Y, hY⟩ : ∃ L, trimL (mk Nb ezb) = L := ⟨_, rfl⟩
 obtain ⟨Z, hZ⟩ : ∃ L, trimL (mk Na eza) = L := ⟨_, rfl⟩
 have hlea := tl_le eza Na
 have hleb := tl_le ezb Nb
 have hYlt : Y.length = tl ezb Nb := by rw [<- hY, trimL_mk]
 have hZl : Z.length = tl eza Na := by rw [<- hZ, trimL_mk]
 have hbZ := coef_bd hZ hba
 have hbY := coef_bd hY hbb
 have htA : tl (coef Z) Z.length = Z.length := by rw [<- hZ]; exact tl_trim _
 have htB : tl (coef Y) Y.length = Y.length := by rw [<- hY]; exact tl_trim _
 have hYu : ∀ i, coef Y i = upto Nb ezb i := fun i => by rw [<- hY, coef_tm]
 have hZu : ∀ i, coef Z i = upto Na eza i := fun i => by rw [<- hZ, coef_tm]
 have hZt : 0 < Z.length -> coef Z (Z.length - 1) ≠ 0 := fun h => by
  have h1 := tl_last (coef Z) Z.length (by omega)
  rw [htA] at h1; exact h1
 obtain ⟨ML, hML⟩ : ∃ L, mulL (coef Z) Z.length (coef Y) Y.length = L := ⟨_, rfl⟩
 have hMl : ML.length <= 10 := by
  rcases Nat.eq_zero_or_pos Z.length with h | h
  ·rw [<- hML, mulL, if_pos (.inl (by omega))]; exact Nat.zero_le _
  rcases Nat.eq_zero_or_pos Y.length with h2 | h2
  ·rw [<- hML, mulL, if_pos (.inr (by omega))]; exact Nat.zero_le _
  rw [<- hML, mulL_length (by omega) (by omega)]; omega
 have hcB : ∀ j i p, j < Z.length -> i <= Y.length -> Bd (cvI (coef Z) (coef Y) Y.length j i p).natAbs 12 := fun j i p hj hi =>
  (cvI_bd (c := 6) (n := Z.length) (fun i _ => hbZ i) (fun i _ => hbY i) hj (by omega) hi p).more (by omega)
 rcases Nat.eq_zero_or_pos (tl ezb Nb) with h0 | h0
 ·cases ev
  ·exact law_true (path_0 hna hza hNna hnb hzb hNnb (by rw [trimL_mk]; exact h0)) (vs := [va, vb, .bool false]) ⟨arg_poly hla, arg_poly hlb, rfl, trivial⟩
  ·exact law_true (path_0e (ML := ML) hna hza hNna hnb hzb hNnb (by rw [hZ]; exact htA) (by rw [hY]; exact htB) (by rw [hZ]; omega) (by rw [hY]; omega) (by rw [hZ, hY]; exact hcB) (by rw [hZ, hY]; exact hML) hMl (by rw [trimL_mk]; exact h0)) (vs := [va, vb, .bool true]) ⟨arg_poly hla, arg_poly hlb, rfl, trivial⟩
 obtain ⟨nb, hnb1⟩ : ∃ nb, tl ezb Nb = nb + 1 := ⟨tl ezb Nb - 1, by omega⟩
 obtain ⟨c, hYt⟩ : ∃ c, coef Y nb = c := ⟨_, rfl⟩
 have hYl : Y.length = nb + 1 := by omega
 have hc0 : c ≠ 0 := by
  have := tl_last (coef Y) Y.length (by omega)
  rw [htB, hYl, Nat.add_sub_cancel, hYt] at this
  exact this
 have hY0 : ∀ i, nb < i -> coef Y i = 0 := fun i hi => coef_out (by omega)
 have hc : ldZ (coef Y) (nb + 1) = c := by
  have : tl (coef Y) (nb + 1) = nb + 1 := by
   unfold tl
   rw [if_neg (by rw [hYt]; exact hc0)]
  rw [ldZ, this, if_neg (by omega), Nat.add_sub_cancel, hYt]
 cases ev
 ·obtain ⟨m, hm⟩ : ∃ m, m = Z.length - nb := ⟨_, rfl⟩
  have hexb := ex_bd (n := nb) (m := m) (c := c) hbZ hbY
  have hM : ∀ j i p, j < m -> Bd (exM (coef Z) (coef Y) nb m c j i p).natAbs 100 := fun j i p hj => by
   refine ((hexb j).2 i p).more ?_
   have : (j + 1) * (2 + 1) <= 10 * (2 + 1) := Nat.mul_le_mul_right _ (by omega)
   omega
  have hnq := nq_top hYt hc0 hm hZt
  obtain ⟨nv, hnv⟩ : ∃ nv, tl (fun i => (rq (fun i => ((coef Z i : Int) : Rat)) (fun i => ((coef Y i : Int) : Rat)) nb m m i).num) nb = nv := ⟨_, rfl⟩
  have hnvl : nv <= nb := by rw [<- hnv]; exact tl_le _ _
  obtain ⟨L2, hL2⟩ : ∃ L, trimL (mk (min nb Z.length) (exA (coef Z) (coef Y) nb m c m)) = L := ⟨_, rfl⟩
  have hcom := fun (P : Prop) (h : (∀ (QL : List Int), (∀ i, i < m -> dto m m (exT (coef Z) (coef Y) nb m c) i = coef QL i) -> P)) => h (mk m (dto m m (exT (coef Z) (coef Y) nb m c))) fun i hi => by rw [coef_mk, if_pos hi]
  rcases least' (fun j => c ∣ exA (coef Z) (coef Y) nb m c j (m - 1 - j + nb)) m with ⟨J, hJ, hdJ, hnd⟩ | hdv
  ·have hnd' : exA (coef Z) (coef Y) nb m c J (m - 1 - J + nb) % c ≠ 0 := fun e => hnd (Int.dvd_of_emod_eq_zero e)
   have hEx : ∀ (Φ : Nat -> World -> Value -> Prop) (p q : Nat), (∀ w v, Φ p w v -> Rw 2 (fun i w v => IntV w v (eza i) 2) Na w v) -> (∀ w v, Φ q w v -> Rw 2 (fun i w v => IntV w v (ezb i) 2) Nb w v) -> SiteOk Φ Tryz.prog ⟨41, [.fact p, .fact q], [⟨.one (.lit .nl), []⟩, ⟨.one (.lit (.ci .i64 3)), []⟩], true⟩ := fun Φ p q hp hq =>
    viaG (pexact_x (K := 100) (by omega) (by omega) (by omega) (by omega) hY (by omega) hYl (by omega) hZ (by omega) hm (by omega) hc hc0 hJ hdJ hnd' hM) ⟨hp, hq, trivial⟩ ⟨⟨rfl, trivial⟩, ⟨rfl, trivial⟩, trivial⟩
   rcases Nat.eq_zero_or_pos nv with hv0 | hv0
   ·have hne : (rqQ (fun i => ((coef Z i : Int) : Rat)) (fun i => ((coef Y i : Int) : Rat)) nb m (m - 1 - J)).den ≠ 1 := fun e => by
     have hc' : ((c : Int) : Rat) ≠ 0 := fun e => hc0 (by exact_mod_cast e)
     have h1 := ex_q (z := coef Z) (y := coef Y) (n := nb) (m := m) hYt hc0 (i := m - 1 - J) (by omega) fun j hj => hdJ j (by omega)
     rw [show m - 1 - (m - 1 - J) = J by omega] at h1
     obtain ⟨q, hq⟩ : ∃ q, rqQ (fun i => ((coef Z i : Int) : Rat)) (fun i => ((coef Y i : Int) : Rat)) nb m (m - 1 - J) = q := ⟨_, rfl⟩
     rw [hq] at h1 e
     have h2 : q * ((c : Int) : Rat) = ((exA (coef Z) (coef Y) nb m c J (m - 1 - J + nb) : Int) : Rat) := by rw [h1, Rat.div_mul_cancel hc']
     have h3 : ((q.num : Int) : Rat) = q := by
      have h4 : q * (((q.den : Nat) : Int) : Rat) = ((q.num : Int) : Rat) := by
       have h5 : (((q.den : Nat) : Int) : Rat) ≠ 0 := fun e' => by
        have h6 : ((q.den : Nat) : Int) = 0 := by exact_mod_cast e'
        omega
       conv => lhs; lhs; rw [<- Rat.num_divInt_den q]
       rw [Rat.divInt_eq_div, Rat.div_mul_cancel h5]
      rw [<- h4, e]; exact Rat.mul_one q
     rw [<- h3, <- Rat.intCast_mul] at h2
     have h7 : q.num * c = exA (coef Z) (coef Y) nb m c J (m - 1 - J + nb) := by exact_mod_cast h2
     exact hnd (h7 ▸ Int.dvd_mul_left _ _)
    rcases least' (fun i => (rqQ (fun i => ((coef Z i : Int) : Rat)) (fun i => ((coef Y i : Int) : Rat)) nb m i).den = 1) m with ⟨J1, hJm, hw, hJ1⟩ | hall
    ·exact law_true (path_mid (m := m) (nv := nv) (J1 := J1) hna hza hNna hnb hzb hNnb (by rw [hY]; exact hYl) (by omega) (by rw [hZ]; omega) (by rw [hZ]; exact hm) (by rw [hY]; exact hc) hc0 (by rw [hZ, hY]; exact hnq) (by rw [hZ, hY]; exact hnv) hnvl (by rw [hZ]; exact fun i => (hbZ i).more (by omega)) (by rw [hY]; exact hbY) (by rw [hZ]; exact hZt) (by rw [hY]; exact hY0) (by rw [hY, hYt]; exact hc0) hEx hv0 (by rw [hZ, hY]; exact hw) (by rw [hZ, hY]; exact hJ1) hJm) (vs := [va, vb, .bool false]) ⟨arg_poly hla, arg_poly hlb, rfl, trivial⟩
    ·exact absurd (hall (m - 1 - J) (by omega)) hne
   ·exact law_true (path_init (m := m) (nv := nv) hna hza hNna hnb hzb hNnb (by rw [hY]; exact hYl) (by omega) (by rw [hZ]; omega) (by rw [hZ]; exact hm) (by rw [hY]; exact hc) hc0 (by rw [hZ, hY]; exact hnq) (by rw [hZ, hY]; exact hnv) hnvl (by rw [hZ]; exact fun i => (hbZ i).more (by omega)) (by rw [hY]; exact hbY) (by rw [hZ]; exact hZt) (by rw [hY]; exact hY0) (by rw [hY, hYt]; exact hc0) hEx hv0) (vs := [va, vb, .bool false]) ⟨arg_poly hla, arg_poly hlb, rfl, trivial⟩
  ·have hvl := nv_is hYt hc0 hm hdv hL2
   rcases Nat.eq_zero_or_pos L2.length with hl | hl
   ·have hL0 : L2 = [] := List.eq_nil_of_length_eq_zero hl
    refine hcom _ fun QL hQE => ?_
    exact law_true (path_fit (QL := QL) (m := m) (nv := nv) hna hza hNna hnb hzb hNnb (by rw [hY]; exact hYl) (by omega) (by rw [hZ]; omega) (by rw [hZ]; exact hm) (by rw [hY]; exact hc) hc0 (by rw [hZ, hY]; exact hnq) (by rw [hZ, hY]; exact hnv) hnvl (by rw [hZ]; exact fun i => (hbZ i).more (by omega)) (by rw [hY]; exact hbY) (by rw [hZ]; exact hZt) (by rw [hY]; exact hY0) (by rw [hY, hYt]; exact hc0) rfl (by rw [hZ, hY]; exact hdv) (by rw [hZ, hY]; exact hM) (by rw [hZ, hY, hL2, hL0]) (by rw [hZ, hY]; exact hQE) (by
     rw [hZ, hY]
     intro i hi
     rw [ex_qe hYt hc0 hi hdv, <- hQE i hi, dto, if_pos ⟨by omega, hi⟩]) (by rw [<- hnv, hvl.2, hl])) (vs := [va, vb, .bool false]) ⟨arg_poly hla, arg_poly hlb, rfl, trivial⟩
   ·have hEx : ∀ (Φ : Nat -> World -> Value -> Prop) (p q : Nat), (∀ w v, Φ p w v -> Rw 2 (fun i w v => IntV w v (eza i) 2) Na w v) -> (∀ w v, Φ q w v -> Rw 2 (fun i w v => IntV w v (ezb i) 2) Nb w v) -> SiteOk Φ Tryz.prog ⟨41, [.fact p, .fact q], [⟨.one (.lit .nl), []⟩, ⟨.one (.lit (.ci .i64 3)), []⟩], true⟩ := fun Φ p q hp hq =>
     viaG (pexact_r (K := 100) (by omega) (by omega) (by omega) (by omega) hY (by omega) hYl (by omega) hZ (by omega) hm (by omega) hc hc0 hdv hM hL2 hl) ⟨hp, hq, trivial⟩ ⟨⟨rfl, trivial⟩, ⟨rfl, trivial⟩, trivial⟩
    exact law_true (path_init (m := m) (nv := nv) hna hza hNna hnb hzb hNnb (by rw [hY]; exact hYl) (by omega) (by rw [hZ]; omega) (by rw [hZ]; exact hm) (by rw [hY]; exact hc) hc0 (by rw [hZ, hY]; exact hnq) (by rw [hZ, hY]; exact hnv) hnvl (by rw [hZ]; exact fun i => (hbZ i).more (by omega)) (by rw [hY]; exact hbY) (by rw [hZ]; exact hZt) (by rw [hY]; exact hY0) (by rw [hY, hYt]; exact hc0) hEx (by rw [<- hnv, hvl.2]; exact hl)) (vs := [va, vb, .bool false]) ⟨arg_poly hla, arg_poly hlb, rfl, trivial⟩
 ·obtain ⟨m, hm⟩ : ∃ m, m = ML.length - nb := ⟨_, rfl⟩
  have hMZ : m = Z.length := by
   rcases Nat.eq_zero_or_pos Z.length with h | h
   ·have : ML = [] := by rw [<- hML, mulL, if_pos (.inl (by omega))]
    rw [hm, this, h]; simp
   ·rw [hm, <- hML, mulL_length (by omega) (by omega)]; omega
  have hbM : ∀ p, Bd (coef ML p).natAbs 12 := fun p => by
   rw [<- hML]; exact (mulL_bdD (fun i _ => hbZ i) (fun i _ => hbY i) p).more (by omega)
  have hMc : coef ML = conv (coef Z) (coef Y) := funext fun p => by
   rw [<- hML, coef_mul]
   exact conv_congr (fun i _ => upto_coef _ _) (fun i _ => upto_coef _ _)
  have hMn : Nrm ML := hML ▸ mulL_nrm _ _ _ _
  have htM : tl (coef ML) ML.length = ML.length := by
   have h := congrArg List.length (trimL_of hMn)
   rw [trimL_length] at h; exact h
  have hMt : 0 < ML.length -> coef ML (ML.length - 1) ≠ 0 := fun h => by
   have h1 := tl_last (coef ML) ML.length (by omega)
   rw [htM] at h1; exact h1
  have hZ0 : ∀ i, m <= i -> coef Z i = 0 := fun i hi => coef_out (by omega)
  have hex := fun (j : Nat) (hj : j <= m) => ex_all (q := coef Z) (y := coef Y) (n := nb) (m := m) (c := c) hYt hY0 hc0 hZ0 hj
  have hexb := ex_bd (n := nb) (m := m) (c := c) hbM hbY
  have hdv : ∀ j, j < m -> c ∣ exA (coef ML) (coef Y) nb m c j (m - 1 - j + nb) := fun j hj => by
   rw [hMc, (hex j (Nat.le_of_lt hj)).2 hj]
   exact Int.dvd_mul_left _ _
  have hM : ∀ j i p, j < m -> Bd (exM (coef ML) (coef Y) nb m c j i p).natAbs 100 := fun j i p hj => by
   refine ((hexb j).2 i p).more ?_
   have : (j + 1) * (2 + 1) <= 10 * (2 + 1) := Nat.mul_le_mul_right _ (by omega)
   omega
  have hL2 : trimL (mk (min nb ML.length) (exA (coef ML) (coef Y) nb m c m)) = [] := by
   refine List.eq_nil_of_length_eq_zero ?_
   rw [trimL_mk]
   refine tl_none fun i hi => ?_
   rw [hMc, (hex _ (Nat.le_refl _)).1 i (by omega), Nat.sub_self]
   exact conv_zeroL (fun i => upto_out (by omega)) i
  have hnq := nq_top hYt hc0 hm hMt
  have hvl := nv_is hYt hc0 hm hdv hL2
  obtain ⟨QL, hQE⟩ : ∃ QL : List Int, ∀ i, i < m -> dto m m (exT (coef ML) (coef Y) nb m c) i = coef QL i := ⟨mk m (dto m m (exT (coef ML) (coef Y) nb m c)), fun i hi => by rw [coef_mk, if_pos hi]⟩
  exact law_true (path_fite (QL := QL) (ML := ML) (m := m) (nv := 0) hna hza hNna hnb hzb hNnb (by rw [hZ]; exact htA) (by rw [hY]; exact htB) (by rw [hZ]; omega) (by rw [hY]; omega) (by rw [hZ, hY]; exact hcB) (by rw [hZ, hY]; exact hML) hMl (by rw [hY]; exact hYl) (by omega) hMl hm (by rw [hY]; exact hc) hc0 (by rw [hY]; exact hnq) (by rw [hY]; exact hvl.2) (by omega) hbM (by rw [hY]; exact hbY) hMt (by rw [hY]; exact hY0) (by rw [hY, hYt]; exact hc0) (trim_self hMn) (by rw [hY]; exact hdv) (by rw [hY]; exact hM) (by rw [hY]; exact hL2) (by rw [hY]; exact hQE) (by
   rw [hY]
   intro i hi
   rw [ex_qe hYt hc0 hi hdv, <- hQE i hi, dto, if_pos ⟨by omega, hi⟩]) rfl) (vs := [va, vb, .bool true]) ⟨arg_poly hla, arg_poly hlb, rfl, trivial⟩
set_option maxRecDepth 100000 in
theorem lifted (os : Os) (started : os.Started) (H : Type) (enc : TypeId × Value -> H) :
  ReturnsInHanded {} Tryz.checked os 6 .any (Rows.pdivExactsSpec.pre6 enc Tryz.prog Tryz.f6 Rows.pdivExactsRow.domain false) (Rows.pdivExactsSpec.post enc Tryz.prog Tryz.f6 false true false false) := by
 refine returnsInHanded_of_change (C := Tryz.checked) Tryz.own started (by kernel_rfl) Tryz.func6
  (ChangeSpec.witness6 (enc := enc) (C := Tryz.checked) false ⟨#[], #[.slice none 0 0, .slice none 0 0, .bool false], []⟩ 8 (by kernel_rfl) (by kernel_rfl) (by kernel_rfl) (by kernel_rfl)) ?_
 intro W base args ds gs before hval0 hW _ _
 have hval : ∀ (j : Nat) t v, Tryz.f6.params[j]? = some t -> args[j]? = some v -> Value.okWide Tryz.prog W .any base t v := hval0
 obtain ⟨p, q, hA0, hV, rfl, _, _⟩ := id hW
 have hA : DataW.TrodAll enc Tryz.prog W 0 (fun _ => true) true Tryz.f6.params.toList args.toList ds p := hA0
 rw [Tryz.params6] at hA hval
 obtain ⟨v0, vs0, d0, ds0, p0, q0, hargs, rfl, rfl, h0, r0⟩ := trodAll_cons hA
 obtain ⟨v1, vs1, d1, ds1, p1, q1, rfl, rfl, rfl, h1, r1⟩ := trodAll_cons r0
 obtain ⟨v2, vs2, d2, ds2, p2, q2, rfl, rfl, rfl, h2, r2⟩ := trodAll_cons r1
 obtain ⟨rfl, rfl, rfl⟩ := trodAll_nil r2
 obtain rfl : args = #[v0, v1, v2] := by cases args; simp_all
 obtain ⟨n0, a0, xs0, l0, s0⟩ := poly_of_trod h0 (hval 0 23 v0 rfl rfl)
 obtain ⟨n1, a1, xs1, l1, s1⟩ := poly_of_trod h1 (hval 1 23 v1 rfl rfl)
 obtain ⟨n2, rfl, rfl, rfl⟩ := open_bool Tryz.underlying4 (hval 2 4 v2 rfl rfl) h2
 refine (walk l0 s0 l1 s1 n2).mono fun e W' ⟨he, hg⟩ => ?_
 subst he
 refine ⟨_, rfl, law_post Tryz.laidOut rfl (by kernel_rfl) Tryz.underlying4 ?_ ?_ hW hg⟩
 ·rw [Tryz.params6]; decide +kernel
 ·rw [Tryz.params6]
  intro ds h
  match ds, h with
  | [_, _, _], _ => rfl
theorem holds : Rows.PdivExactsSaid :=
 OpenClaim.holds_of_wide 6 Tryz.f6 rfl rfl rfl rfl rfl rfl rfl ⟨rfl, rfl, rfl, rfl, rfl⟩ rfl rfl rfl rfl rfl (by kernel_rfl) Tryz.func6 (by kernel_rfl)
  (of_decide_eq_true (by kernel_rfl)) (by unfold Func.isWrapper; first | (rw [if_pos (by decide +kernel)]; kernel_rfl) | (rw [if_neg (by decide +kernel)]; exact ⟨rfl, rfl⟩))
  (fun os started H enc _ => lifted os started H enc)
end Go.Proofs.YteblgmjpociffaaGreat.vexacts
