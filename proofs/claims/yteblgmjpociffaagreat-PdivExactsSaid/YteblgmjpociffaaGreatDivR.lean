/- pdiv.reduce. -/
import Derived.Test.YteblgmjpociffaaGreatDivT
import Derived.Test.YteblgmjpociffaaGreatDivA
namespace Go.Proofs.YteblgmjpociffaaGreat.Sym
open Go.RowKit
def rA1 (z y : Nat -> Int) (n m : Nat) (c : Int) (j : Nat) : Nat -> Int := rd1 (rdA z y n m c j) (m - 1 - j) (c ^ j)
def rMid (z y : Nat -> Int) (n m : Nat) (c : Int) (j k : Nat) : Nat -> Int := rd2 (rA1 z y n m c j) y c n (m - 1 - j) k
section
variable {z y : Nat -> Int} {n m j k : Nat} {c : Int}
theorem rdT_at (hj : j < m) : rA1 z y n m c j (m - 1 - j + n) = dto m (j + 1) (rdT z y n m c) (m - 1 - j) := by
 unfold dto rdT rA1
 rw [if_pos (by omega), show m - 1 - (m - 1 - j) = j by omega]
theorem rMid_at (hj : j < m) : rMid z y n m c j k (m - 1 - j + k) * c - dto m (j + 1) (rdT z y n m c) (m - 1 - j) * y k = rMid z y n m c j (k + 1) (m - 1 - j + k) := by
 rw [<- rdT_at hj]
 exact rd2_at
end
def b_preduce (z y : Nat -> Int) (n m la : Nat) (c : Int) (L2 : List Int) (l K : Nat) (s0 : Option Addr) (n0 m0 : Nat) (w0 : World) : List (World -> Value -> Prop) := [Pin w0 (.slice s0 n0 m0), fun w v => Rw 2 (fun ι w v => IntV w v (y ι) l) (n + 1) w v, fun w v => ArrO 2 26 (fun ι w v => NorV w v ((rdA z y n m c 0) ι) K) la w v, fun _ v => v = .int .i64 ((n : Nat) : Int), fun w v => NorV w v c l, fun w v => NorV w v (1 : Int) 2, LenS la, fun _ v => v = .int .i64 ((la : Nat) : Int), fun _ v => v = .int .i64 (((la : Nat) : Int) - ((n : Nat) : Int)), fun _ v => v = .int .i64 ((m : Nat) : Int), fun w v => ArrO 2 26 (fun ι w v => NorV w v ((dto m 0 (rdT z y n m c)) ι) K) m w v, LenS m, fun _ v => v = .int .i64 ((m : Nat) : Int), fun _ v => v = .int .i64 (((m : Nat) : Int) - 1), fun w v => ArrO 2 26 (fun ι w v => NorV w v ((rdA z y n m c m) ι) K) la w v, fun w v => ArrO 2 26 (fun ι w v => NorV w v ((dto m m (rdT z y n m c)) ι) K) m w v, fun w v => ArrO 2 26 (fun ι w v => NorV w v ((coef L2) ι) K) L2.length w v]
def l_preduce_2 (z y : Nat -> Int) (n m la : Nat) (c : Int) (l K : Nat) (j i : Nat) : List (World -> Value -> Prop) := [fun _ v => v = .int .i64 ((i : Nat) : Int), fun w v => ArrO 2 26 (fun ι w v => NorV w v ((rMid z y n m c j i) ι) K) la w v, fun _ _ => True, fun w v => Ptr 2 (fun w v => IntV w v (y i) l) w v, fun w v => IntV w v (y i) l, fun _ v => v = .int .i64 (((m - 1 - j + i) : Nat) : Int), fun _ v => v = .int .i64 (((m - 1 - j + i) : Nat) : Int), At 2, fun w v => Ptr 2 (fun w v => NorV w v ((rMid z y n m c j i) (m - 1 - j + i)) K) w v, fun w v => NorV w v ((rMid z y n m c j i) (m - 1 - j + i)) K, fun w v => NorV w v (((rMid z y n m c j i) (m - 1 - j + i)) * c) (K + l), At 2, fun w v => Ptr 2 (fun w v => NorV w v ((dto m (j + 1) (rdT z y n m c)) (m - 1 - j)) K) w v, fun w v => NorV w v ((dto m (j + 1) (rdT z y n m c)) (m - 1 - j)) K, fun w v => NorV w v (((dto m (j + 1) (rdT z y n m c)) (m - 1 - j)) * (y i)) (K + l), fun w v => NorV w v ((((rMid z y n m c j i) (m - 1 - j + i)) * c) - (((dto m (j + 1) (rdT z y n m c)) (m - 1 - j)) * (y i))) ((K + l) + (K + l) + 1), At 2, fun w v => Ptr 2 (fun w v => NorV w v ((rMid z y n m c j i) (m - 1 - j + i)) K) w v, fun w v => ArrO 2 26 (fun ι w v => NorV w v ((rMid z y n m c j (i + 1)) ι) K) la w v, fun _ v => v = .int .i64 (((i + 1) : Nat) : Int)]
def d_preduce_2 : LoopD := ⟨[1, 4, 5, 6, 7, 8, 9, 12, 13, 14, 15, 16, 17, 18, 19, 20, 21, 22, 23, 24, 25, 26, 27, 30, 31, 32, 33, 34, 35, 36, 37, 38, 39, 40, 41, 42, 43, 44, 45, 46, 47, 48, 49, 50, 51, 52, 53, 54], [(.slot 55, .i), (.slot 0, .s)], [(.one 0, 42), (.one 1, .at [1] 43), (.one 1, .lo 1)], [.closed (.one (.ci .i64 0)), .from 29, .from 0], 42, [(43, 40)]⟩
def r_preduce_2_0 : List Step := [.base ⟨0, [.fact 42, .fact 39], [⟨.one (.lit (.cb true)), []⟩], .quiet (mBin .lss)⟩,
   .base ⟨0, [.fact 38, .fact 42], [⟨.one (.p), [(0, 0, 45)]⟩], .quiet (mIdx 23)⟩,
   .base ⟨0, [.fact 45], [⟨.agg [.b, .s], [(0, 0, 46)]⟩], .quiet (mLoad 26)⟩,
   .base ⟨0, [.fact 17, .fact 42], [⟨.one (.i), [(0, 0, 47)]⟩], .quiet (mBin .add)⟩,
   .base ⟨0, [.fact 17, .fact 42], [⟨.one (.i), [(0, 0, 48)]⟩], .quiet (mBin .add)⟩,
   .base ⟨0, [.fact 43, .fact 48], [⟨.one (.p), [(0, 0, 50)]⟩], .joint [1] 49 (mIdx 23)⟩,
   .base ⟨0, [.fact 50], [⟨.agg [.b, .s], [(0, 0, 51)]⟩], .quietF [1] (mLoad 26)⟩,
   .base ⟨48, [.fact 51, .fact 4], [⟨.agg [.b, .s], [(0, 0, 52)]⟩], false⟩,
   .base ⟨0, [.fact 37, .fact 17], [⟨.one (.p), [(0, 0, 54)]⟩], .joint [2] 53 (mIdx 23)⟩,
   .base ⟨0, [.fact 54], [⟨.agg [.b, .s], [(0, 0, 55)]⟩], .quietF [2] (mLoad 26)⟩,
   .base ⟨48, [.fact 55, .fact 46], [⟨.agg [.b, .s], [(0, 0, 56)]⟩], false⟩,
   .base ⟨60, [.fact 52, .fact 56], [⟨.agg [.b, .s], [(0, 0, 57)]⟩], false⟩,
   .base ⟨0, [.fact 43, .fact 47], [⟨.one (.p), [(0, 0, 59)]⟩], .joint [1] 58 (mIdx 23)⟩,
   .base ⟨0, [.fact 43, .fact 47, .any, .fact 57], [⟨.one .s, [(0, 0, 60)]⟩], .put [] 1 0 58 (mPut 26 (.tmp 60) (.tmp 63))⟩,
   .base ⟨0, [.fact 42, .lit (.ci .i64 1)], [⟨.one (.i), [(0, 0, 61)]⟩], .quiet (mBin .add)⟩]
def o_preduce_2 : List Step := [.base ⟨0, [.fact 42, .fact 39], [⟨.one (.lit (.cb false)), []⟩], .quiet (mBin .lss)⟩]
def l_preduce_1 (z y : Nat -> Int) (n m la : Nat) (c : Int) (l kp K : Nat) (j : Nat) : List (World -> Value -> Prop) := [fun _ v => v = .int .i64 (((m : Nat) : Int) - 1 - ((j : Nat) : Int)), fun w v => ArrO 2 26 (fun ι w v => NorV w v ((rdA z y n m c j) ι) K) la w v, fun _ _ => True, fun w v => ArrO 2 26 (fun ι w v => NorV w v ((dto m j (rdT z y n m c)) ι) K) m w v, fun _ _ => True, fun w v => NorV w v (c ^ j) kp, At 2, fun w v => Ptr 2 (fun w v => NorV w v ((rdA z y n m c j) (m - 1 - j)) K) w v, fun w v => NorV w v ((rdA z y n m c j) (m - 1 - j)) K, fun w v => NorV w v (((rdA z y n m c j) (m - 1 - j)) * (c ^ j)) (K + kp), At 2, fun w v => Ptr 2 (fun w v => NorV w v ((rdA z y n m c j) (m - 1 - j)) K) w v, fun w v => ArrO 2 26 (fun ι w v => NorV w v ((rA1 z y n m c j) ι) K) la w v, fun w v => NorV w v ((c ^ j) * c) (kp + l), fun _ v => v = .int .i64 (((m - 1 - j + n) : Nat) : Int), At 2, fun w v => Ptr 2 (fun w v => NorV w v ((rA1 z y n m c j) (m - 1 - j + n)) K) w v, fun w v => NorV w v ((rA1 z y n m c j) (m - 1 - j + n)) K, At 2, fun w v => Ptr 2 (fun w v => NorV w v ((dto m j (rdT z y n m c)) (m - 1 - j)) K) w v, fun w v => ArrO 2 26 (fun ι w v => NorV w v ((dto m (j + 1) (rdT z y n m c)) ι) K) m w v, fun w v => Rw 2 (fun ι w v => IntV w v (y ι) l) n w v, fun _ v => v = .int .i64 ((n : Nat) : Int), fun w v => ArrO 2 26 (fun ι w v => NorV w v ((rdA z y n m c (j + 1)) ι) K) la w v, fun _ v => v = .int .i64 ((((m : Nat) : Int) - 1 - ((j : Nat) : Int)) - 1)]
def d_preduce_1 : LoopD := ⟨[1, 5, 6, 7, 8, 12, 13, 14, 15, 16, 17, 18, 19, 20, 21, 22, 23, 24, 25], [(.slot 9, .i), (.slot 0, .s), (.slot 4, .s), (.cell 9 0, .b), (.cell 9 1, .s)], [(.one 0, 17), (.one 1, .at [1] 18), (.one 1, .lo 1), (.one 2, .at [2] 20), (.one 2, .lo 2), (.agg [3, 4], 22)], [.from 13, .from 2, .from 0, .from 10, .from 0, .from 5], 17, [(18, 14), (20, 15)]⟩
def r_preduce_1_0 : List Step := [.base ⟨0, [.fact 17, .lit (.ci .i64 0)], [⟨.one (.lit (.cb true)), []⟩], .quiet (mBin .geq)⟩,
   .base ⟨0, [.fact 18, .fact 17], [⟨.one (.p), [(0, 0, 24)]⟩], .joint [1] 23 (mIdx 23)⟩,
   .base ⟨0, [.fact 24], [⟨.agg [.b, .s], [(0, 0, 25)]⟩], .quietF [1] (mLoad 26)⟩,
   .base ⟨48, [.fact 25, .fact 22], [⟨.agg [.b, .s], [(0, 0, 26)]⟩], false⟩,
   .base ⟨0, [.fact 18, .fact 17], [⟨.one (.p), [(0, 0, 28)]⟩], .joint [1] 27 (mIdx 23)⟩,
   .base ⟨0, [.fact 18, .fact 17, .any, .fact 26], [⟨.one .s, [(0, 0, 29)]⟩], .put [] 1 0 27 (mPut 26 (.tmp 30) (.tmp 31))⟩,
   .base ⟨48, [.fact 22, .fact 4], [⟨.agg [.b, .s], [(0, 0, 30)]⟩], false⟩,
   .base ⟨0, [.fact 17, .fact 3], [⟨.one (.i), [(0, 0, 31)]⟩], .quiet (mBin .add)⟩,
   .base ⟨0, [.fact 29, .fact 31], [⟨.one (.p), [(0, 0, 33)]⟩], .joint [1] 32 (mIdx 23)⟩,
   .base ⟨0, [.fact 33], [⟨.agg [.b, .s], [(0, 0, 34)]⟩], .quietF [1] (mLoad 26)⟩,
   .base ⟨0, [.fact 20, .fact 17], [⟨.one (.p), [(0, 0, 36)]⟩], .joint [2] 35 (mIdx 23)⟩,
   .base ⟨0, [.fact 20, .fact 17, .any, .fact 34], [⟨.one .s, [(0, 0, 37)]⟩], .put [] 2 0 35 (mPut 26 (.tmp 42) (.tmp 43))⟩,
   .base ⟨0, [.fact 1, .fact 3], [⟨.one (.s), [(0, 0, 38)]⟩], .quiet (mTo' 23)⟩,
   .base ⟨0, [.fact 38], [⟨.one (.i), [(0, 0, 39)]⟩], .quiet (mLen 23)⟩,
   .loop d_preduce_2 [(r_preduce_2_0, [.from 61, .from 60, .from 0])] o_preduce_2,
   .base ⟨0, [.fact 17, .lit (.ci .i64 1)], [⟨.one (.i), [(0, 0, 41)]⟩], .quiet (mBin .sub)⟩]
def o_preduce_1 : List Step := [.base ⟨0, [.fact 17, .lit (.ci .i64 0)], [⟨.one (.lit (.cb false)), []⟩], .quiet (mBin .geq)⟩]
def ss_preduce : List Step := [.base ⟨58, [.fact 1], [⟨.one (.i), [(0, 0, 3)]⟩], false⟩,
   .base ⟨45, [.fact 1], [⟨.agg [.b, .s], [(0, 0, 4)]⟩], false⟩,
   .base ⟨19, [.lit (.ci .i64 1)], [⟨.agg [.b, .s], [(0, 0, 5)]⟩], false⟩,
   .freed (.one (.s 0 0)) 2 6,
   .base ⟨0, [.fact 6], [⟨.one (.i), [(0, 0, 7)]⟩], .quiet (mLen 23)⟩,
   .base ⟨0, [.fact 7, .fact 3], [⟨.one (.i), [(0, 0, 8)]⟩], .quiet (mBin .sub)⟩,
   .base ⟨0, [.lit (.ci .i64 0), .fact 8], [⟨.one (.i), [(0, 0, 9)]⟩], .quiet (mMax .max)⟩,
   .base ⟨0, [.fact 9, .fact 9], [⟨.one (.s), [(0, 0, 10)]⟩], .loose [] 2 0 (mMake 23)⟩,
   .freed (.one (.s 18 0)) 10 11,
   .base ⟨0, [.fact 11], [⟨.one (.i), [(0, 0, 12)]⟩], .quiet (mLen 23)⟩,
   .base ⟨0, [.fact 12, .lit (.ci .i64 1)], [⟨.one (.i), [(0, 0, 13)]⟩], .quiet (mBin .sub)⟩,
   .loop d_preduce_1 [(r_preduce_1_0, [.from 41, .from 40, .from 0, .from 37, .from 0, .from 30])] o_preduce_1,
   .base ⟨98, [.fact 14, .fact 3], [⟨.one (.s), [(0, 0, 16)]⟩], .callN [1] 3⟩]
def ins_preduce : List Out := [⟨.one (.s), [(0, 0, 0)]⟩, ⟨.one (.s), [(0, 0, 1)]⟩]
set_option maxRecDepth 100000 in
theorem preduce {z y : Nat -> Int} {n m la : Nat} {c : Int} {L2 : List Int} {l kp K : Nat} {s0 : Option Addr} {n0 m0 : Nat} {w0 : World} (hla : la <= 1000000) (hn : n <= 900000) (hm : m = la - n) (hl : l <= 100000) (hkp : kp <= 100000) (hK : K <= 100000) (hc : ldZ y (n + 1) = c) (hB : ∀ j, j <= m -> Bd (c ^ j).natAbs kp) (hA1 : ∀ j p, j < m -> Bd (rA1 z y n m c j p).natAbs K) (hM : ∀ j k p, j < m -> Bd (rMid z y n m c j k p).natAbs K) (hL2 : trimL (mk (min n la) (rdA z y n m c m)) = L2) : MutWOk (ph (b_preduce z y n m la c L2 l K s0 n0 m0 w0)) Tryz.prog 94 ins_preduce 2 [⟨.one (.s), [(0, 0, 15)]⟩, ⟨.one (.s), [(0, 0, 16)]⟩] (.slice s0 n0 m0) w0 := by
 skip
 exact fn_okW ins_preduce [⟨.one (.s), [(0, 0, 15)]⟩, ⟨.one (.s), [(0, 0, 16)]⟩] 2 0 ss_preduce rfl Tryz.func94 (by kernel_rfl)
  (lbase (sDeg (n := (n + 1)) (fun _ _ h => Rw.lenS (sz := 2) (F := (fun ι w v => IntV w v (y ι) l)) (n := (n + 1)) h) rfl (by omega) (by omega))
   (lbase (sLead (z := y) (n := (n + 1)) (fun _ _ h => Rw.to (sz := 2) (n := (n + 1)) (F := (fun ι w v => IntV w v (y ι) l)) (h) (fun i w v _ h => (fun _ _ _ h => h) i w v h)) rfl (by omega) (by omega) (hc))
   (lbase (sOf (z := 1) rfl (by decide) (by decide) rfl)
   (lfreed (freeLen (e := 26) (sz := 2) (n := la) (F := (fun ι w v => NorV w v ((rdA z y n m c 0) ι) K)) (fun _ _ h => h) rfl)
   (lbase (qLenS' (n := la) Tryz.underlying23 (fun _ _ h => h) rfl)
   (lbase (qSubJ (fun _ _ h => h) (fun _ _ h => h) (rfl) rfl (by omega) (by omega))
   (lbase (qMaxD (fun _ _ h => h) (by split <;> omega) rfl)
   (lbase (qMakeI (n := m) (F := (fun ι w v => NorV w v ((dto m 0 (rdT z y n m c)) ι) K)) (fun _ _ h => h) (by omega) (fun i w => by rw [dto_zero]; exact NorV.zero w K) rfl)
   (lfreed (freeLen (e := 26) (sz := 2) (n := m) (F := (fun ι w v => NorV w v ((dto m 0 (rdT z y n m c)) ι) K)) (fun _ _ h => h) rfl)
   (lbase (qLenS' (n := m) Tryz.underlying23 (fun _ _ h => h) rfl)
   (lbase (qSubK (fun _ _ h => h) (rfl) rfl (by omega) (by omega))
   (lloop (counted m (fun j => ph (b_preduce z y n m la c L2 l K s0 n0 m0 w0 ++ l_preduce_1 z y n m la c l kp K j)) (fun _ => 0) (fun j p hp => ph_app' (show p < (b_preduce z y n m la c L2 l K s0 n0 m0 w0).length from hp)) ⟨fun _ _ h => h.trans (congrArg (Value.int .i64) (by omega)), fun _ _ h => h, fun _ _ _ => trivial, fun _ _ h => h, fun _ _ _ => trivial, fun _ _ h => NorV.re (h.eq (by rw [Int.pow_zero])) (hB 0 (by omega)), trivial⟩ (fun j hj => by
   skip
   exact ⟨(r_preduce_1_0, [.from 41, .from 40, .from 0, .from 37, .from 0, .from 30]), rfl, ⟨fun _ _ h => h.trans (congrArg (Value.int .i64) (by omega)), fun _ _ h => h, fun _ _ _ => trivial, fun _ _ h => h, fun _ _ _ => trivial, fun _ _ h => NorV.re (h.eq (by rw [Int.pow_succ])) (hB (j + 1) (by omega)), trivial⟩, (lbase (qTestC (op := .geq) (fun _ _ h => h) (ts_run (decide_eq_true (by omega)) (by simp)))
   (lbase (qIdxJ (i := (m - 1 - j)) (sz := 2) (n := la) (F := (fun ι w v => NorV w v ((rdA z y n m c j) ι) K)) Tryz.underlying23 (by kernel_rfl) (fun _ _ h => ArrO.arr h) (fun _ _ h => h.trans (congrArg (Value.int .i64) (by omega))) (by omega) rfl rfl)
   (lbase (qLoadF (sz := 2) (F := fun w v => NorV w v ((rdA z y n m c j) (m - 1 - j)) K) (by kernel_rfl) (by kernel_rfl) (fun _ _ h => h) (fun _ _ _ g h => NorV.kp h g) (fun _ _ h => NorV.is h) rfl)
   (lbase (sMul nI nI rfl (by omega) rfl)
   (lbase (qIdxJ (i := (m - 1 - j)) (sz := 2) (n := la) (F := (fun ι w v => NorV w v ((rdA z y n m c j) ι) K)) Tryz.underlying23 (by kernel_rfl) (fun _ _ h => ArrO.arr h) (fun _ _ h => h.trans (congrArg (Value.int .i64) (by omega))) (by omega) rfl rfl)
   (lbase (qPutR (i := (m - 1 - j)) (n := la) (F := (fun ι w v => NorV w v ((rdA z y n m c j) ι) K)) (F' := (fun ι w v => NorV w v ((rA1 z y n m c j) ι) K)) (G := fun w v => NorV w v (((rdA z y n m c j) (m - 1 - j)) * (c ^ j)) (K + kp)) (.tmp 30) (.tmp 31) (by kernel_rfl) (fun _ _ h => h) (fun _ _ h => h.trans (congrArg (Value.int .i64) (by omega))) (by omega) (fun _ _ h => h) rfl (fun _ _ h => NorV.cells h) (fun _ _ _ _ g h => NorV.kp h g) (fun _ _ _ g h => NorV.kp h g) (fun a w v ha h => by rw [rA1, rd1_ne ha]; exact h) (fun w v h => NorV.re (h.eq rd1_at) (hA1 j _ (by omega))) rfl)
   (lbase (sMul nI nI rfl (by omega) rfl)
   (lbase (qAddJ (fun _ _ h => h) (fun _ _ h => h) (by omega) rfl (by omega) (by omega))
   (lbase (qIdxJ (i := (m - 1 - j + n)) (sz := 2) (n := la) (F := (fun ι w v => NorV w v ((rA1 z y n m c j) ι) K)) Tryz.underlying23 (by kernel_rfl) (fun _ _ h => ArrO.arr h) (fun _ _ h => h) (by omega) rfl rfl)
   (lbase (qLoadF (sz := 2) (F := fun w v => NorV w v ((rA1 z y n m c j) (m - 1 - j + n)) K) (by kernel_rfl) (by kernel_rfl) (fun _ _ h => h) (fun _ _ _ g h => NorV.kp h g) (fun _ _ h => NorV.is h) rfl)
   (lbase (qIdxJ (i := (m - 1 - j)) (sz := 2) (n := m) (F := (fun ι w v => NorV w v ((dto m j (rdT z y n m c)) ι) K)) Tryz.underlying23 (by kernel_rfl) (fun _ _ h => ArrO.arr h) (fun _ _ h => h.trans (congrArg (Value.int .i64) (by omega))) (by omega) rfl rfl)
   (lbase (qPutR (i := (m - 1 - j)) (n := m) (F := (fun ι w v => NorV w v ((dto m j (rdT z y n m c)) ι) K)) (F' := (fun ι w v => NorV w v ((dto m (j + 1) (rdT z y n m c)) ι) K)) (G := fun w v => NorV w v ((rA1 z y n m c j) (m - 1 - j + n)) K) (.tmp 42) (.tmp 43) (by kernel_rfl) (fun _ _ h => h) (fun _ _ h => h.trans (congrArg (Value.int .i64) (by omega))) (by omega) (fun _ _ h => h) rfl (fun _ _ h => NorV.cells h) (fun _ _ _ _ g h => NorV.kp h g) (fun _ _ _ g h => NorV.kp h g) (fun i w v hi h => by rw [dto_ne (by omega) hi]; exact h) (fun w v h => h.eq (rdT_at (by omega))) rfl)
   (lbase (qToA (m := n) (n := (n + 1)) (F := (fun ι w v => IntV w v (y ι) l)) Tryz.underlying23 (by kernel_rfl) (fun _ _ h => h) (fun _ _ h => h) (by first | omega | exact tl_le _ _) rfl)
   (lbase (qLen (sz := 2) (n := n) (F := (fun ι w v => IntV w v (y ι) l)) Tryz.underlying23 (fun _ _ h => Rw.arr h) rfl)
   (lloop (counted n (fun i => ph ((b_preduce z y n m la c L2 l K s0 n0 m0 w0 ++ l_preduce_1 z y n m la c l kp K j) ++ l_preduce_2 z y n m la c l K j i)) (fun _ => 0) (fun i p hp => ph_app' (show p < (b_preduce z y n m la c L2 l K s0 n0 m0 w0 ++ l_preduce_1 z y n m la c l kp K j).length from hp)) ⟨fun _ => rfl, fun _ _ h => ArrO.to (sz := 2) (e := 26) (n := la) (F := (fun ι w v => NorV w v ((rA1 z y n m c j) ι) K)) (G := (fun ι w v => NorV w v ((rMid z y n m c j 0) ι) K)) h fun a w v ha h => by show NorV _ _ _ _; rw [rMid, rd2_zero]; exact h, fun _ _ _ => trivial, trivial⟩ (fun i hi => by
   skip
   exact ⟨(r_preduce_2_0, [.from 61, .from 60, .from 0]), rfl, ⟨fun _ _ h => h, fun _ _ h => h, fun _ _ _ => trivial, trivial⟩, (lbase (qTest (op := .lss) (fun _ _ h => h) (fun _ _ h => h) (ts_run (decide_eq_true (by omega)) (by simp)))
   (lbase (qIdx (i := i) (sz := 2) (n := n) (F := (fun ι w v => IntV w v (y ι) l)) Tryz.underlying23 (by kernel_rfl) (fun _ _ h => Rw.arr h) (fun _ _ h => h) (by omega) rfl)
   (lbase (qLoad (sz := 2) (F := fun w v => IntV w v (y i) l) (by kernel_rfl) (by kernel_rfl) (fun _ _ h => h) (fun _ _ _ g h => IntV.kp h g) (fun _ _ h => IntV.is h) rfl)
   (lbase (qAddJ (fun _ _ h => h) (fun _ _ h => h) (by omega) rfl (by omega) (by omega))
   (lbase (qAddJ (fun _ _ h => h) (fun _ _ h => h) (by omega) rfl (by omega) (by omega))
   (lbase (qIdxJ (i := (m - 1 - j + i)) (sz := 2) (n := la) (F := (fun ι w v => NorV w v ((rMid z y n m c j i) ι) K)) Tryz.underlying23 (by kernel_rfl) (fun _ _ h => ArrO.arr h) (fun _ _ h => h) (by omega) rfl rfl)
   (lbase (qLoadF (sz := 2) (F := fun w v => NorV w v ((rMid z y n m c j i) (m - 1 - j + i)) K) (by kernel_rfl) (by kernel_rfl) (fun _ _ h => h) (fun _ _ _ g h => NorV.kp h g) (fun _ _ h => NorV.is h) rfl)
   (lbase (sMul nI nI rfl (by omega) rfl)
   (lbase (qIdxJ (i := (m - 1 - j)) (sz := 2) (n := m) (F := (fun ι w v => NorV w v ((dto m (j + 1) (rdT z y n m c)) ι) K)) Tryz.underlying23 (by kernel_rfl) (fun _ _ h => ArrO.arr h) (fun _ _ h => h.trans (congrArg (Value.int .i64) (by omega))) (by omega) rfl rfl)
   (lbase (qLoadF (sz := 2) (F := fun w v => NorV w v ((dto m (j + 1) (rdT z y n m c)) (m - 1 - j)) K) (by kernel_rfl) (by kernel_rfl) (fun _ _ h => h) (fun _ _ _ g h => NorV.kp h g) (fun _ _ h => NorV.is h) rfl)
   (lbase (sMul nI iI rfl (by omega) rfl)
   (lbase (sSub5 nI nI rfl (by omega) rfl)
   (lbase (qIdxJ (i := (m - 1 - j + i)) (sz := 2) (n := la) (F := (fun ι w v => NorV w v ((rMid z y n m c j i) ι) K)) Tryz.underlying23 (by kernel_rfl) (fun _ _ h => ArrO.arr h) (fun _ _ h => h) (by omega) rfl rfl)
   (lbase (qPutR (i := (m - 1 - j + i)) (n := la) (F := (fun ι w v => NorV w v ((rMid z y n m c j i) ι) K)) (F' := (fun ι w v => NorV w v ((rMid z y n m c j (i + 1)) ι) K)) (G := fun w v => NorV w v ((((rMid z y n m c j i) (m - 1 - j + i)) * c) - (((dto m (j + 1) (rdT z y n m c)) (m - 1 - j)) * (y i))) ((K + l) + (K + l) + 1)) (.tmp 60) (.tmp 63) (by kernel_rfl) (fun _ _ h => h) (fun _ _ h => h) (by omega) (fun _ _ h => h) rfl (fun _ _ h => NorV.cells h) (fun _ _ _ _ g h => NorV.kp h g) (fun _ _ _ g h => NorV.kp h g) (fun a w v ha h => by rw [rMid, rd2_ne ha]; exact h) (fun w v h => NorV.re (h.eq (rMid_at hj)) (hM j (i + 1) _ (by omega))) rfl)
   (lbase (qAddK (fun _ _ h => h) (by omega) rfl (by omega) (by omega))
   lnil)))))))))))))))⟩)
   (lbase (qTest (op := .lss) (fun _ _ h => h) (fun _ _ h => h) (ts_run (decide_eq_false (by omega)) (by simp)))
   lnil)
   (fun q hq w v h => by
    simp only [d_preduce_2, List.mem_cons, List.not_mem_nil, or_false] at hq
    rcases hq with rfl
    ·exact (fun h => h) h)) (lbase (qSubK (fun _ _ h => h) (rfl) rfl (by omega) (by omega))
   lnil))))))))))))))))⟩)
   (lbase (qTestC (op := .geq) (fun _ _ h => h) (ts_run (decide_eq_false (by omega)) (by simp)))
   lnil)
   (fun q hq w v h => by
    simp only [d_preduce_1, List.mem_cons, List.not_mem_nil, or_false] at hq
    rcases hq with rfl | rfl
    ·exact (fun h => h) h
    ·exact (fun h => h) h)) (lbase (sBelow (z := (rdA z y n m c m)) (l := la) (fun _ _ h => Rw.to (sz := 2) (n := la) (F := (fun ι w v => NorV w v ((rdA z y n m c m) ι) K)) (ArrO.rw h) (fun i w v _ h => (fun _ _ _ h => NorV.i h) i w v h)) (fun _ _ h => h) rfl (by omega) (by omega) hL2)
   lnil)))))))))))))
section
variable {Φ : Nat -> World -> Value -> Prop} {p q x x' n m la l kp K j j2 : Nat} {z y : Nat -> Int} {c : Int} {L2 : List Int}
theorem sReduce (hp : ∀ w v, Φ p w v -> ArrO 2 26 (fun i w v => NorV w v (z i) K) la w v) (hq : ∀ w v, Φ q w v -> Rw 2 (fun i w v => IntV w v (y i) l) (n + 1) w v) (hx : Φ x = fun w v => ArrO 2 26 (fun i w v => NorV w v (dto m m (rdT z y n m c) i) K) m w v) (hx' : Φ x' = fun w v => Rw 2 (fun i w v => NorV w v (coef L2 i) K) L2.length w v)
  (hla : la <= 1000000) (hn : n <= 900000) (hm : m = la - n) (hl : l <= 100000) (hkp : kp <= 100000) (hK : K <= 100000) (hc : ldZ y (n + 1) = c) (hB : ∀ j, j <= m -> Bd (c ^ j).natAbs kp) (hA1 : ∀ j p, j < m -> Bd (rA1 z y n m c j p).natAbs K) (hM : ∀ j k p, j < m -> Bd (rMid z y n m c j k p).natAbs K) (hL2 : trimL (mk (min n la) (rdA z y n m c m)) = L2) :
  SiteOk Φ Tryz.prog ⟨94, [.fact p, .fact q], [⟨.one .s, [(0, 0, x)]⟩, ⟨.one .s, [(0, 0, x')]⟩], .callW [] j j2 0⟩ := fun X L W0 w vs hg hX hL hLX ha ha2 hb => by
 match vs, ha, ha2 with
 | [v, b], ha, ha2 =>
  have h1 := hp _ _ (ha.1 w (Off.refl _ _))
  obtain ⟨s0, c0, rfl, _⟩ := h1.arr
  have hbl : ∀ g, blk (.slice s0 la c0) = some g -> L g := fun g hg => hb _ g rfl hg
  have hq' : ∀ w1, Off (fun k => X k ∨ L k) w w1 -> Rw 2 (fun i w v => IntV w v (y i) l) (n + 1) w1 b := fun w1 hw => hq _ _ (ha2.2.1 w1 hw)
  refine (preduce (s0 := s0) (n0 := la) (m0 := c0) (w0 := w) hla hn hm hl hkp hK hc hB hA1 hM hL2 W0 [.slice s0 la c0, b] rfl hg ⟨⟨⟨⟨_, _, _, rfl⟩, fun _ h => by cases h⟩, fun c' hc' w1 hw => ?_⟩, ⟨Rw.is (hq' w (Off.refl _ _)), fun c' hc' w1 hw => ?_⟩, trivial⟩ (fun g hg => hL g (hbl g hg)) (fun w1 hk hh => ?_)).mono fun e w' ⟨u1, u2, he, hgr, hkp', ho, hf1, hf2, hne⟩ => ?_
  ·simp only [List.mem_cons, List.not_mem_nil, or_false] at hc'
   subst hc'
   exact Pin.off (u := .slice s0 la c0) hw
  ·simp only [List.mem_cons, List.not_mem_nil, or_false] at hc'
   subst hc'
   exact hq' w1 (hw.wide fun k hk => .inr (hbl k hk))
  ·exact ArrO.off (X := fun _ => False) (F := fun i w v => NorV w v (z i) K) (fun _ _ _ _ g h => NorV.kp h g) h1 ⟨hk, fun k hk' _ => hh k hk'⟩ (fun _ _ h => h)
  ·have r1 : ArrO 2 26 (fun i w v => NorV w v (dto m m (rdT z y n m c) i) K) m w' u1 := ho.1.2 _ (List.mem_singleton.2 rfl) w' (Off.refl _ _)
   have r2 : ArrO 2 26 (fun i w v => NorV w v (coef L2 i) K) L2.length w' u2 := ho.2.1.2 _ (List.mem_singleton.2 rfl) w' (Off.refl _ _)
   have hold : ∀ g, X g ∨ L g -> g < w.heap.size := fun g hg => hg.elim (hX g) fun h => (hL g h).2
   refine ⟨u1, [u2], he, ⟨_, hgr, fun g hg => hbl g hg⟩, hkp', hf1, one_out (Rw.is r1.rw) hx fun w1 hw => ArrO.off (F := fun i w v => NorV w v (dto m m (rdT z y n m c) i) K) (fun _ _ _ _ g h => NorV.kp h g) r1 hw fun g hg h => ?_, one_out (Rw.is r2.rw) hx' fun w1 hw => (ArrO.off (F := fun i w v => NorV w v (coef L2 i) K) (fun _ _ _ _ g h => NorV.kp h g) r2 hw fun g hg h => ?_).rw⟩
   ·have := hf1 g hg
    have := hold g h
    omega
   ·rcases h with h | h
    ·have := hf2 g hg
     have := hold g h
     omega
    ·exact hne g h hg
end
end Go.Proofs.YteblgmjpociffaaGreat.Sym
