/- pdiv.Pseudo; Exact where it comes out even. -/
import Derived.Test.YteblgmjpociffaaGreatDivR
namespace Go.Proofs.YteblgmjpociffaaGreat.Sym
open Go.RowKit
section
variable {Φ : Nat -> World -> Value -> Prop} {p x n m k : Nat} {z : Nat -> Int} {L : List Int}
theorem sNormPn (hp : ∀ w v, Φ p w v -> Rw 2 (fun i w v => IntV w v (z i) k) n w v) (hx : Φ x = fun w v => Rw 2 (fun i w v => NorV w v (coef L i) k) m w v) (hn : n <= 1000000) (hk : k <= 500000) (hL : trimL (mk n z) = L) (hm : L.length = m) : SiteOk Φ Tryz.prog ⟨93, [.fact p], [⟨.one .s, [(0, 0, x)]⟩], false⟩ := by
 subst hm
 exact sNormP hp hx hn hk hL
end
section
variable {Φ : Nat -> World -> Value -> Prop} {p q x n l k : Nat} {z : Nat -> Int} {L : List Int}
theorem sBelowR (hp : ∀ w v, Φ p w v -> Rw 2 (fun i w v => IntV w v (z i) k) l w v) (hq : ∀ w v, Φ q w v -> v = .int .i64 (n : Int)) (hx : Φ x = fun w v => Rw 2 (fun i w v => NorV w v (coef L i) k) L.length w v) (hn : l <= 1000000) (hk : k <= 500000) (hL : trimL (mk (min n l) z) = L) : SiteOk Φ Tryz.prog ⟨98, [.fact p, .fact q], [⟨.one .s, [(0, 0, x)]⟩], false⟩ :=
 viaG (CallNOk.call (pbelow (z := z) (n := n) (l := l) hn hk)) ⟨hp, hq, trivial⟩ ⟨⟨rfl, ⟨rfl, rfl, fun _ _ h => hx ▸ hL ▸ ArrO.rw (e := 26) h⟩, trivial⟩, trivial⟩
end
section
variable {T : Nat -> Int} {c : Int} {i j : Nat}
end
def exS (A y : Nat -> Int) (x : Int) (i k p : Nat) : Int := if i <= p ∧ p < i + k then A p - x * y (p - i) else A p
def exA (z y : Nat -> Int) (n m : Nat) (c : Int) : Nat -> Nat -> Int
 | 0 => z
 | j + 1 => exS (exA z y n m c j) y (exA z y n m c j (m - 1 - j + n) / c) (m - 1 - j) n
def exM (z y : Nat -> Int) (n m : Nat) (c : Int) (j k : Nat) : Nat -> Int := exS (exA z y n m c j) y (exA z y n m c j (m - 1 - j + n) / c) (m - 1 - j) k
def exT (z y : Nat -> Int) (n m : Nat) (c : Int) (p : Nat) : Int := exA z y n m c (m - 1 - p) (p + n) / c
section
variable {z y : Nat -> Int} {n m i j p : Nat} {c : Int}
theorem exM_zero : exM z y n m c j 0 p = exA z y n m c j p := if_neg (by omega)
theorem exM_ne (h : p ≠ m - 1 - j + i) : exM z y n m c j (i + 1) p = exM z y n m c j i p := by
 unfold exM exS
 split <;> split <;> first | rfl | omega
theorem exT_at (hj : j < m) : exA z y n m c j (m - 1 - j + n) / c = dto m (j + 1) (exT z y n m c) (m - 1 - j) := by
 unfold dto exT
 rw [if_pos (by omega), show m - 1 - (m - 1 - j) = j by omega]
theorem exM_at (_ : j < m) : exM z y n m c j i (m - 1 - j + i) - (exA z y n m c j (m - 1 - j + n) / c) * y i = exM z y n m c j (i + 1) (m - 1 - j + i) := by
 unfold exM exS
 rw [if_neg (by omega), if_pos (by omega), show m - 1 - j + i - (m - 1 - j) = i by omega]
end
def b_pexact (z0 z1 : Nat -> Int) (n0 n1 k k1 nb m K : Nat) (c : Int) (Z Y : List Int) : List (World -> Value -> Prop) := [fun w v => Rw 2 (fun ι w v => IntV w v (z0 ι) k) n0 w v, fun w v => Rw 2 (fun ι w v => IntV w v (z1 ι) k1) n1 w v, fun w v => ArrO 2 26 (fun ι w v => NorV w v ((coef Z) ι) k) Z.length w v, fun w v => Rw 2 (fun ι w v => NorV w v ((coef Y) ι) k1) (nb + 1) w v, fun _ v => v = .int .i64 (((nb + 1) : Nat) : Int), fun _ v => v = .int .i64 ((nb : Nat) : Int), fun w v => NorV w v c k1, LenS Z.length, fun _ v => v = .int .i64 ((Z.length : Nat) : Int), fun _ v => v = .int .i64 (((Z.length : Nat) : Int) - ((nb : Nat) : Int)), fun _ v => v = .int .i64 ((m : Nat) : Int), fun w v => ArrO 2 26 (fun ι w v => NorV w v ((dto m 0 (exT (coef Z) (coef Y) nb m c)) ι) K) m w v, LenS m, fun _ v => v = .int .i64 ((m : Nat) : Int), fun _ v => v = .int .i64 (((m : Nat) : Int) - 1), fun w v => ArrO 2 26 (fun ι w v => NorV w v ((exA (coef Z) (coef Y) nb m c m) ι) K) Z.length w v, fun w v => ArrO 2 26 (fun ι w v => NorV w v ((dto m m (exT (coef Z) (coef Y) nb m c)) ι) K) m w v, fun w v => Rw 2 (fun ι w v => NorV w v ((coef []) ι) K) 0 w v, fun _ v => v = .int .i64 ((0 : Nat) : Int)]
def l_pexact_2 (k1 nb m K : Nat) (c : Int) (Z Y : List Int) (j i : Nat) : List (World -> Value -> Prop) := [fun _ v => v = .int .i64 ((i : Nat) : Int), fun w v => ArrO 2 26 (fun ι w v => NorV w v ((exM (coef Z) (coef Y) nb m c j i) ι) K) Z.length w v, fun _ _ => True, fun w v => Ptr 2 (fun w v => NorV w v ((coef Y) i) k1) w v, fun w v => NorV w v ((coef Y) i) k1, fun _ v => v = .int .i64 (((m - 1 - j + i) : Nat) : Int), fun _ v => v = .int .i64 (((m - 1 - j + i) : Nat) : Int), At 2, fun w v => Ptr 2 (fun w v => NorV w v ((exM (coef Z) (coef Y) nb m c j i) (m - 1 - j + i)) K) w v, fun w v => NorV w v ((exM (coef Z) (coef Y) nb m c j i) (m - 1 - j + i)) K, fun w v => NorV w v ((((exA (coef Z) (coef Y) nb m c j) (m - 1 - j + nb)) / c) * ((coef Y) i)) (K + k1), fun w v => NorV w v (((exM (coef Z) (coef Y) nb m c j i) (m - 1 - j + i)) - ((((exA (coef Z) (coef Y) nb m c j) (m - 1 - j + nb)) / c) * ((coef Y) i))) (K + (K + k1) + 1), At 2, fun w v => Ptr 2 (fun w v => NorV w v ((exM (coef Z) (coef Y) nb m c j i) (m - 1 - j + i)) K) w v, fun w v => ArrO 2 26 (fun ι w v => NorV w v ((exM (coef Z) (coef Y) nb m c j (i + 1)) ι) K) Z.length w v, fun _ v => v = .int .i64 (((i + 1) : Nat) : Int)]
def d_pexact_2 : LoopD := ⟨[0, 1, 4, 5, 7, 8, 9, 10, 11, 12, 15, 16, 17, 18, 19, 20, 21, 22, 23, 24, 25, 26, 27, 28, 29, 30, 31, 32, 33, 34, 35, 36, 39, 40, 41, 42, 43, 44, 45, 46, 47, 48, 49, 50, 51, 53, 54, 55, 56, 57, 58, 59, 60], [(.slot 61, .i), (.slot 6, .s)], [(.one 0, 36), (.one 1, .at [1] 37), (.one 1, .lo 1)], [.closed (.one (.ci .i64 0)), .from 20, .from 0], 36, [(37, 34)]⟩
def r_pexact_2_0 : List Step := [.base ⟨0, [.fact 36, .fact 33], [⟨.one (.lit (.cb true)), []⟩], .quiet (mBin .lss)⟩,
   .base ⟨0, [.fact 32, .fact 36], [⟨.one (.p), [(0, 0, 39)]⟩], .quiet (mIdx 23)⟩,
   .base ⟨0, [.fact 39], [⟨.agg [.b, .s], [(0, 0, 40)]⟩], .quiet (mLoad 26)⟩,
   .base ⟨0, [.fact 19, .fact 36], [⟨.one (.i), [(0, 0, 41)]⟩], .quiet (mBin .add)⟩,
   .base ⟨0, [.fact 19, .fact 36], [⟨.one (.i), [(0, 0, 42)]⟩], .quiet (mBin .add)⟩,
   .base ⟨0, [.fact 37, .fact 42], [⟨.one (.p), [(0, 0, 44)]⟩], .joint [1] 43 (mIdx 23)⟩,
   .base ⟨0, [.fact 44], [⟨.agg [.b, .s], [(0, 0, 45)]⟩], .quietF [1] (mLoad 26)⟩,
   .base ⟨48, [.fact 28, .fact 40], [⟨.agg [.b, .s], [(0, 0, 46)]⟩], false⟩,
   .base ⟨60, [.fact 45, .fact 46], [⟨.agg [.b, .s], [(0, 0, 47)]⟩], false⟩,
   .base ⟨0, [.fact 37, .fact 41], [⟨.one (.p), [(0, 0, 49)]⟩], .joint [1] 48 (mIdx 23)⟩,
   .base ⟨0, [.fact 37, .fact 41, .any, .fact 47], [⟨.one .s, [(0, 0, 50)]⟩], .put [] 1 0 48 (mPut 26 (.tmp 66) (.tmp 69))⟩,
   .base ⟨0, [.fact 36, .lit (.ci .i64 1)], [⟨.one (.i), [(0, 0, 51)]⟩], .quiet (mBin .add)⟩]
def o_pexact_2 : List Step := [.base ⟨0, [.fact 36, .fact 33], [⟨.one (.lit (.cb false)), []⟩], .quiet (mBin .lss)⟩]
def l_pexact_1 (k1 nb m K : Nat) (c : Int) (Z Y : List Int) (j : Nat) : List (World -> Value -> Prop) := [fun _ v => v = .int .i64 (((m : Nat) : Int) - 1 - ((j : Nat) : Int)), fun w v => ArrO 2 26 (fun ι w v => NorV w v ((exA (coef Z) (coef Y) nb m c j) ι) K) Z.length w v, fun _ _ => True, fun w v => ArrO 2 26 (fun ι w v => NorV w v ((dto m j (exT (coef Z) (coef Y) nb m c)) ι) K) m w v, fun _ _ => True, fun _ v => v = .int .i64 (((m - 1 - j + nb) : Nat) : Int), At 2, fun w v => Ptr 2 (fun w v => NorV w v ((exA (coef Z) (coef Y) nb m c j) (m - 1 - j + nb)) K) w v, fun w v => NorV w v ((exA (coef Z) (coef Y) nb m c j) (m - 1 - j + nb)) K, fun w v => NorV w v (((exA (coef Z) (coef Y) nb m c j) (m - 1 - j + nb)) / c) K, At 2, fun w v => Ptr 2 (fun w v => NorV w v ((dto m j (exT (coef Z) (coef Y) nb m c)) (m - 1 - j)) K) w v, fun w v => ArrO 2 26 (fun ι w v => NorV w v ((dto m (j + 1) (exT (coef Z) (coef Y) nb m c)) ι) K) m w v, fun w v => Rw 2 (fun ι w v => NorV w v ((coef Y) ι) k1) nb w v, fun _ v => v = .int .i64 ((nb : Nat) : Int), fun w v => ArrO 2 26 (fun ι w v => NorV w v ((exA (coef Z) (coef Y) nb m c (j + 1)) ι) K) Z.length w v, fun _ v => v = .int .i64 ((((m : Nat) : Int) - 1 - ((j : Nat) : Int)) - 1)]
def d_pexact_1 : LoopD := ⟨[0, 1, 4, 5, 7, 8, 15, 16, 17, 18, 19, 20, 21, 22, 23, 24, 25, 26, 27, 28, 29, 30, 31, 32, 33, 34], [(.slot 10, .i), (.slot 6, .s), (.slot 9, .s)], [(.one 0, 19), (.one 1, .at [1] 20), (.one 1, .lo 1), (.one 2, .at [2] 22), (.one 2, .lo 2)], [.from 14, .from 2, .from 0, .from 11, .from 0], 19, [(20, 15), (22, 16)]⟩
def r_pexact_1_0 : List Step := [.base ⟨0, [.fact 19, .lit (.ci .i64 0)], [⟨.one (.lit (.cb true)), []⟩], .quiet (mBin .geq)⟩,
   .base ⟨0, [.fact 19, .fact 5], [⟨.one (.i), [(0, 0, 24)]⟩], .quiet (mBin .add)⟩,
   .base ⟨0, [.fact 20, .fact 24], [⟨.one (.p), [(0, 0, 26)]⟩], .joint [1] 25 (mIdx 23)⟩,
   .base ⟨0, [.fact 26], [⟨.agg [.b, .s], [(0, 0, 27)]⟩], .quietF [1] (mLoad 26)⟩,
   .base ⟨97, [.fact 27, .fact 6], [⟨.agg [.b, .s], [(0, 0, 28)]⟩, ⟨.one (.lit (.ci .i64 0)), []⟩], true⟩,
   .base ⟨0, [.fact 22, .fact 19], [⟨.one (.p), [(0, 0, 30)]⟩], .joint [2] 29 (mIdx 23)⟩,
   .base ⟨0, [.fact 22, .fact 19, .any, .fact 28], [⟨.one .s, [(0, 0, 31)]⟩], .put [] 2 0 29 (mPut 26 (.tmp 53) (.tmp 54))⟩,
   .base ⟨0, [.fact 3, .fact 5], [⟨.one (.s), [(0, 0, 32)]⟩], .quiet (mTo' 23)⟩,
   .base ⟨0, [.fact 32], [⟨.one (.i), [(0, 0, 33)]⟩], .quiet (mLen 23)⟩,
   .loop d_pexact_2 [(r_pexact_2_0, [.from 51, .from 50, .from 0])] o_pexact_2,
   .base ⟨0, [.fact 19, .lit (.ci .i64 1)], [⟨.one (.i), [(0, 0, 35)]⟩], .quiet (mBin .sub)⟩]
def o_pexact_1 : List Step := [.base ⟨0, [.fact 19, .lit (.ci .i64 0)], [⟨.one (.lit (.cb false)), []⟩], .quiet (mBin .geq)⟩]
def ss_pexact : List Step := [.base ⟨93, [.fact 0], [⟨.one (.s), [(0, 0, 2)]⟩], .callN [] 1⟩,
   .base ⟨93, [.fact 1], [⟨.one (.s), [(0, 0, 3)]⟩], false⟩,
   .base ⟨0, [.fact 3], [⟨.one (.i), [(0, 0, 4)]⟩], .quiet (mLen 23)⟩,
   .base ⟨0, [.fact 4, .lit (.ci .i64 0)], [⟨.one (.lit (.cb false)), []⟩], .quiet (mBin .eql)⟩,
   .base ⟨58, [.fact 3], [⟨.one (.i), [(0, 0, 5)]⟩], false⟩,
   .base ⟨45, [.fact 3], [⟨.agg [.b, .s], [(0, 0, 6)]⟩], false⟩,
   .freed (.one (.s 4 0)) 2 7,
   .base ⟨0, [.fact 7], [⟨.one (.i), [(0, 0, 8)]⟩], .quiet (mLen 23)⟩,
   .base ⟨0, [.fact 8, .fact 5], [⟨.one (.i), [(0, 0, 9)]⟩], .quiet (mBin .sub)⟩,
   .base ⟨0, [.lit (.ci .i64 0), .fact 9], [⟨.one (.i), [(0, 0, 10)]⟩], .quiet (mMax .max)⟩,
   .base ⟨0, [.fact 10, .fact 10], [⟨.one (.s), [(0, 0, 11)]⟩], .loose [] 2 0 (mMake 23)⟩,
   .freed (.one (.s 24 0)) 11 12,
   .base ⟨0, [.fact 12], [⟨.one (.i), [(0, 0, 13)]⟩], .quiet (mLen 23)⟩,
   .base ⟨0, [.fact 13, .lit (.ci .i64 1)], [⟨.one (.i), [(0, 0, 14)]⟩], .quiet (mBin .sub)⟩,
   .loop d_pexact_1 [(r_pexact_1_0, [.from 35, .from 34, .from 0, .from 31, .from 0])] o_pexact_1,
   .base ⟨98, [.fact 15, .fact 5], [⟨.one (.s), [(0, 0, 17)]⟩], .callJ [1] false⟩,
   .base ⟨0, [.fact 17], [⟨.one (.i), [(0, 0, 18)]⟩], .quietJ [1] (mLen 23)⟩,
   .base ⟨0, [.fact 18, .lit (.ci .i64 0)], [⟨.one (.lit (.cb false)), []⟩], .quietJ [1] (mBin .gtr)⟩]
def ins_pexact : List Out := [⟨.one (.s), [(0, 0, 0)]⟩, ⟨.one (.s), [(0, 0, 1)]⟩]
set_option maxRecDepth 100000 in
theorem pexact {z0 z1 : Nat -> Int} {n0 n1 k k1 nb m K : Nat} {c : Int} {Z Y : List Int} (hn0 : n0 <= 1000000) (hn1 : n1 <= 1000000) (hk : k <= 90000) (hk1 : k1 <= 90000) (hY : trimL (mk n1 z1) = Y) (hkK : k <= K) (hYl : Y.length = nb + 1) (hnb : nb <= 800000) (hZ : trimL (mk n0 z0) = Z) (hZl : Z.length <= 1000000) (hm : m = Z.length - nb) (hK : K <= 90000) (hc : ldZ (coef Y) (nb + 1) = c) (hc0 : c ≠ 0) (hdv : ∀ j, j < m -> c ∣ exA (coef Z) (coef Y) nb m c j (m - 1 - j + nb)) (hM : ∀ j i p, j < m -> Bd (exM (coef Z) (coef Y) nb m c j i p).natAbs K) (hL2 : trimL (mk (min nb Z.length) (exA (coef Z) (coef Y) nb m c m)) = []) : SiteOk (ph (b_pexact z0 z1 n0 n1 k k1 nb m K c Z Y)) Tryz.prog ⟨41, [.fact 0, .fact 1], [⟨.one (.s), [(0, 0, 16)]⟩, ⟨.one (.lit (.ci .i64 0)), []⟩], true⟩ := by
 skip
 exact fn_okL ins_pexact [⟨.one (.s), [(0, 0, 16)]⟩, ⟨.one (.lit (.ci .i64 0)), []⟩] ss_pexact Tryz.func41 (by kernel_rfl)
  (lbase (sNormN (fun _ _ h => Rw.to (sz := 2) (n := n0) (F := (fun ι w v => IntV w v (z0 ι) k)) (h) (fun i w v _ h => (fun _ _ _ h => h) i w v h)) rfl (by omega) (by omega) hZ)
   (lbase (sNormPn (L := Y) (m := (nb + 1)) (fun _ _ h => Rw.to (sz := 2) (n := n1) (F := (fun ι w v => IntV w v (z1 ι) k1)) (h) (fun i w v _ h => (fun _ _ _ h => h) i w v h)) rfl (by omega) (by omega) hY hYl)
   (lbase (qLen (sz := 2) (n := (nb + 1)) (F := (fun ι w v => NorV w v ((coef Y) ι) k1)) Tryz.underlying23 (fun _ _ h => Rw.arr h) rfl)
   (lbase (qTestC (op := .eql) (fun _ _ h => h) (ts_run (show decide ((((nb + 1) : Nat) : Int) = 0) = false from decide_eq_false (by omega)) (by simp)))
   (lbase (sDeg (n := (nb + 1)) (fun _ _ h => Rw.lenS (sz := 2) (F := (fun ι w v => NorV w v ((coef Y) ι) k1)) (n := (nb + 1)) h) rfl (by omega) (by omega))
   (lbase (sLead (z := (coef Y)) (n := (nb + 1)) (fun _ _ h => Rw.to (sz := 2) (n := (nb + 1)) (F := (fun ι w v => NorV w v ((coef Y) ι) k1)) (h) (fun i w v _ h => (fun _ _ _ h => NorV.i h) i w v h)) rfl (by omega) (by omega) (hc))
   (lfreed (freeLen (e := 26) (sz := 2) (n := Z.length) (F := (fun ι w v => NorV w v ((coef Z) ι) k)) (fun _ _ h => h) rfl)
   (lbase (qLenS' (n := Z.length) Tryz.underlying23 (fun _ _ h => h) rfl)
   (lbase (qSubJ (fun _ _ h => h) (fun _ _ h => h) (rfl) rfl (by omega) (by omega))
   (lbase (qMaxD (fun _ _ h => h) (by split <;> omega) rfl)
   (lbase (qMakeI (n := m) (F := (fun ι w v => NorV w v ((dto m 0 (exT (coef Z) (coef Y) nb m c)) ι) K)) (fun _ _ h => h) (by omega) (fun i w => by rw [dto_zero]; exact NorV.zero w K) rfl)
   (lfreed (freeLen (e := 26) (sz := 2) (n := m) (F := (fun ι w v => NorV w v ((dto m 0 (exT (coef Z) (coef Y) nb m c)) ι) K)) (fun _ _ h => h) rfl)
   (lbase (qLenS' (n := m) Tryz.underlying23 (fun _ _ h => h) rfl)
   (lbase (qSubK (fun _ _ h => h) (rfl) rfl (by omega) (by omega))
   (lloop (counted m (fun j => ph (b_pexact z0 z1 n0 n1 k k1 nb m K c Z Y ++ l_pexact_1 k1 nb m K c Z Y j)) (fun _ => 0) (fun j p hp => ph_app' (show p < (b_pexact z0 z1 n0 n1 k k1 nb m K c Z Y).length from hp)) ⟨fun _ _ h => h.trans (congrArg (Value.int .i64) (by omega)), fun _ _ h => ArrO.to (sz := 2) (e := 26) (n := Z.length) (F := fun ι w v => NorV w v (coef Z ι) k) (G := (fun ι w v => NorV w v ((exA (coef Z) (coef Y) nb m c 0) ι) K)) h fun a w v ha h => NorV.more h (by omega), fun _ _ _ => trivial, fun _ _ h => h, fun _ _ _ => trivial, trivial⟩ (fun j hj => by
   skip
   exact ⟨(r_pexact_1_0, [.from 35, .from 34, .from 0, .from 31, .from 0]), rfl, ⟨fun _ _ h => h.trans (congrArg (Value.int .i64) (by omega)), fun _ _ h => h, fun _ _ _ => trivial, fun _ _ h => h, fun _ _ _ => trivial, trivial⟩, (lbase (qTestC (op := .geq) (fun _ _ h => h) (ts_run (decide_eq_true (by omega)) (by simp)))
   (lbase (qAddJ (fun _ _ h => h) (fun _ _ h => h) (by omega) rfl (by omega) (by omega))
   (lbase (qIdxJ (i := (m - 1 - j + nb)) (sz := 2) (n := Z.length) (F := (fun ι w v => NorV w v ((exA (coef Z) (coef Y) nb m c j) ι) K)) Tryz.underlying23 (by kernel_rfl) (fun _ _ h => ArrO.arr h) (fun _ _ h => h) (by omega) rfl rfl)
   (lbase (qLoadF (sz := 2) (F := fun w v => NorV w v ((exA (coef Z) (coef Y) nb m c j) (m - 1 - j + nb)) K) (by kernel_rfl) (by kernel_rfl) (fun _ _ h => h) (fun _ _ _ g h => NorV.kp h g) (fun _ _ h => NorV.is h) rfl)
   (lbase (sExact nI nI rfl (by omega) (hc0) (hdv j hj) rfl)
   (lbase (qIdxJ (i := (m - 1 - j)) (sz := 2) (n := m) (F := (fun ι w v => NorV w v ((dto m j (exT (coef Z) (coef Y) nb m c)) ι) K)) Tryz.underlying23 (by kernel_rfl) (fun _ _ h => ArrO.arr h) (fun _ _ h => h.trans (congrArg (Value.int .i64) (by omega))) (by omega) rfl rfl)
   (lbase (qPutR (i := (m - 1 - j)) (n := m) (F := (fun ι w v => NorV w v ((dto m j (exT (coef Z) (coef Y) nb m c)) ι) K)) (F' := (fun ι w v => NorV w v ((dto m (j + 1) (exT (coef Z) (coef Y) nb m c)) ι) K)) (G := fun w v => NorV w v (((exA (coef Z) (coef Y) nb m c j) (m - 1 - j + nb)) / c) K) (.tmp 53) (.tmp 54) (by kernel_rfl) (fun _ _ h => h) (fun _ _ h => h.trans (congrArg (Value.int .i64) (by omega))) (by omega) (fun _ _ h => h) rfl (fun _ _ h => NorV.cells h) (fun _ _ _ _ g h => NorV.kp h g) (fun _ _ _ g h => NorV.kp h g) (fun i w v hi h => by rw [dto_ne (by omega) hi]; exact h) (fun w v h => h.eq (exT_at hj)) rfl)
   (lbase (qToA (m := nb) (n := (nb + 1)) (F := (fun ι w v => NorV w v ((coef Y) ι) k1)) Tryz.underlying23 (by kernel_rfl) (fun _ _ h => h) (fun _ _ h => h) (by first | omega | exact tl_le _ _) rfl)
   (lbase (qLen (sz := 2) (n := nb) (F := (fun ι w v => NorV w v ((coef Y) ι) k1)) Tryz.underlying23 (fun _ _ h => Rw.arr h) rfl)
   (lloop (counted nb (fun i => ph ((b_pexact z0 z1 n0 n1 k k1 nb m K c Z Y ++ l_pexact_1 k1 nb m K c Z Y j) ++ l_pexact_2 k1 nb m K c Z Y j i)) (fun _ => 0) (fun i p hp => ph_app' (show p < (b_pexact z0 z1 n0 n1 k k1 nb m K c Z Y ++ l_pexact_1 k1 nb m K c Z Y j).length from hp)) ⟨fun _ => rfl, fun _ _ h => ArrO.to (sz := 2) (e := 26) (n := Z.length) (F := (fun ι w v => NorV w v ((exA (coef Z) (coef Y) nb m c j) ι) K)) (G := (fun ι w v => NorV w v ((exM (coef Z) (coef Y) nb m c j 0) ι) K)) h fun a w v ha h => by rw [exM_zero]; exact h, fun _ _ _ => trivial, trivial⟩ (fun i hi => by
   skip
   exact ⟨(r_pexact_2_0, [.from 51, .from 50, .from 0]), rfl, ⟨fun _ _ h => h, fun _ _ h => h, fun _ _ _ => trivial, trivial⟩, (lbase (qTest (op := .lss) (fun _ _ h => h) (fun _ _ h => h) (ts_run (decide_eq_true (by omega)) (by simp)))
   (lbase (qIdx (i := i) (sz := 2) (n := nb) (F := (fun ι w v => NorV w v ((coef Y) ι) k1)) Tryz.underlying23 (by kernel_rfl) (fun _ _ h => Rw.arr h) (fun _ _ h => h) (by omega) rfl)
   (lbase (qLoad (sz := 2) (F := fun w v => NorV w v ((coef Y) i) k1) (by kernel_rfl) (by kernel_rfl) (fun _ _ h => h) (fun _ _ _ g h => NorV.kp h g) (fun _ _ h => NorV.is h) rfl)
   (lbase (qAddJ (fun _ _ h => h) (fun _ _ h => h) (by omega) rfl (by omega) (by omega))
   (lbase (qAddJ (fun _ _ h => h) (fun _ _ h => h) (by omega) rfl (by omega) (by omega))
   (lbase (qIdxJ (i := (m - 1 - j + i)) (sz := 2) (n := Z.length) (F := (fun ι w v => NorV w v ((exM (coef Z) (coef Y) nb m c j i) ι) K)) Tryz.underlying23 (by kernel_rfl) (fun _ _ h => ArrO.arr h) (fun _ _ h => h) (by omega) rfl rfl)
   (lbase (qLoadF (sz := 2) (F := fun w v => NorV w v ((exM (coef Z) (coef Y) nb m c j i) (m - 1 - j + i)) K) (by kernel_rfl) (by kernel_rfl) (fun _ _ h => h) (fun _ _ _ g h => NorV.kp h g) (fun _ _ h => NorV.is h) rfl)
   (lbase (sMul nI nI rfl (by omega) rfl)
   (lbase (sSub5 nI nI rfl (by omega) rfl)
   (lbase (qIdxJ (i := (m - 1 - j + i)) (sz := 2) (n := Z.length) (F := (fun ι w v => NorV w v ((exM (coef Z) (coef Y) nb m c j i) ι) K)) Tryz.underlying23 (by kernel_rfl) (fun _ _ h => ArrO.arr h) (fun _ _ h => h) (by omega) rfl rfl)
   (lbase (qPutR (i := (m - 1 - j + i)) (n := Z.length) (F := (fun ι w v => NorV w v ((exM (coef Z) (coef Y) nb m c j i) ι) K)) (F' := (fun ι w v => NorV w v ((exM (coef Z) (coef Y) nb m c j (i + 1)) ι) K)) (G := fun w v => NorV w v (((exM (coef Z) (coef Y) nb m c j i) (m - 1 - j + i)) - ((((exA (coef Z) (coef Y) nb m c j) (m - 1 - j + nb)) / c) * ((coef Y) i))) (K + (K + k1) + 1)) (.tmp 66) (.tmp 69) (by kernel_rfl) (fun _ _ h => h) (fun _ _ h => h) (by omega) (fun _ _ h => h) rfl (fun _ _ h => NorV.cells h) (fun _ _ _ _ g h => NorV.kp h g) (fun _ _ _ g h => NorV.kp h g) (fun a w v ha h => by rw [exM_ne ha]; exact h) (fun w v h => NorV.re (h.eq (exM_at hj)) (hM j (i + 1) _ (by omega))) rfl)
   (lbase (qAddK (fun _ _ h => h) (by omega) rfl (by omega) (by omega))
   lnil))))))))))))⟩)
   (lbase (qTest (op := .lss) (fun _ _ h => h) (fun _ _ h => h) (ts_run (decide_eq_false (by omega)) (by simp)))
   lnil)
   (fun q hq w v h => by
    simp only [d_pexact_2, List.mem_cons, List.not_mem_nil, or_false] at hq
    rcases hq with rfl
    ·exact (fun h => h) h)) (lbase (qSubK (fun _ _ h => h) (rfl) rfl (by omega) (by omega))
   lnil)))))))))))⟩)
   (lbase (qTestC (op := .geq) (fun _ _ h => h) (ts_run (decide_eq_false (by omega)) (by simp)))
   lnil)
   (fun q hq w v h => by
    simp only [d_pexact_1, List.mem_cons, List.not_mem_nil, or_false] at hq
    rcases hq with rfl | rfl
    ·exact (fun h => h) h
    ·exact (fun h => h) h)) (lbase (onJ [1] (sBelowR (L := []) (z := (exA (coef Z) (coef Y) nb m c m)) (l := Z.length) (fun _ _ h => Rw.to (sz := 2) (n := Z.length) (F := (fun ι w v => NorV w v ((exA (coef Z) (coef Y) nb m c m) ι) K)) (ArrO.rw h) (fun i w v _ h => (fun _ _ _ h => NorV.i h) i w v h)) (fun _ _ h => h) rfl (by omega) (by omega) hL2))
   (lbase (qLen (sz := 2) (n := 0) (F := (fun ι w v => NorV w v ((coef []) ι) K)) Tryz.underlying23 (fun _ _ h => Rw.arr h) rfl)
   (lbase (qTestC (op := .gtr) (fun _ _ h => h) (ts_run (show decide (((0 : Nat) : Int) > 0) = false from rfl) (by simp)))
   lnil))))))))))))))))))
  (ins_ok [.fact 0 (.one (.s)), .fact 1 (.one (.s))] ⟨fun _ _ h => Rw.is (sz := 2) (F := (fun ι w v => IntV w v (z0 ι) k)) (n := n0) h, fun _ _ h => Rw.is (sz := 2) (F := (fun ι w v => IntV w v (z1 ι) k1)) (n := n1) h, trivial⟩) (fun _ _ _ h => h)
def b_pexact_0 (z0 z1 : Nat -> Int) (n0 n1 k k1 : Nat) (Z Y : List Int) : List (World -> Value -> Prop) := [fun w v => Rw 2 (fun ι w v => IntV w v (z0 ι) k) n0 w v, fun w v => Rw 2 (fun ι w v => IntV w v (z1 ι) k1) n1 w v, fun w v => ArrO 2 26 (fun ι w v => NorV w v ((coef Z) ι) k) Z.length w v, fun w v => Rw 2 (fun ι w v => NorV w v ((coef Y) ι) k1) 0 w v, fun _ v => v = .int .i64 ((0 : Nat) : Int)]
def ss_pexact_0 : List Step := [.base ⟨93, [.fact 0], [⟨.one (.s), [(0, 0, 2)]⟩], .callN [] 1⟩,
   .base ⟨93, [.fact 1], [⟨.one (.s), [(0, 0, 3)]⟩], false⟩,
   .base ⟨0, [.fact 3], [⟨.one (.i), [(0, 0, 4)]⟩], .quiet (mLen 23)⟩,
   .base ⟨0, [.fact 4, .lit (.ci .i64 0)], [⟨.one (.lit (.cb true)), []⟩], .quiet (mBin .eql)⟩]
def ins_pexact_0 : List Out := [⟨.one (.s), [(0, 0, 0)]⟩, ⟨.one (.s), [(0, 0, 1)]⟩]
set_option maxRecDepth 100000 in
theorem pexact_0 {z0 z1 : Nat -> Int} {n0 n1 k k1 : Nat} {Z Y : List Int} (hn0 : n0 <= 1000000) (hn1 : n1 <= 1000000) (hk : k <= 90000) (hk1 : k1 <= 90000) (hZ : trimL (mk n0 z0) = Z) (hY : trimL (mk n1 z1) = Y) (hYl : Y.length = 0) : SiteOk (ph (b_pexact_0 z0 z1 n0 n1 k k1 Z Y)) Tryz.prog ⟨41, [.fact 0, .fact 1], [⟨.one (.lit (.nl)), []⟩, ⟨.one (.lit (.ci .i64 2)), []⟩], true⟩ := by
 skip
 exact fn_okL ins_pexact_0 [⟨.one (.lit (.nl)), []⟩, ⟨.one (.lit (.ci .i64 2)), []⟩] ss_pexact_0 Tryz.func41 (by kernel_rfl)
  (lbase (sNormN (fun _ _ h => Rw.to (sz := 2) (n := n0) (F := (fun ι w v => IntV w v (z0 ι) k)) (h) (fun i w v _ h => (fun _ _ _ h => h) i w v h)) rfl (by omega) (by omega) hZ)
   (lbase (sNormPn (L := Y) (m := 0) (fun _ _ h => Rw.to (sz := 2) (n := n1) (F := (fun ι w v => IntV w v (z1 ι) k1)) (h) (fun i w v _ h => (fun _ _ _ h => h) i w v h)) rfl (by omega) (by omega) hY hYl)
   (lbase (qLen (sz := 2) (n := 0) (F := (fun ι w v => NorV w v ((coef Y) ι) k1)) Tryz.underlying23 (fun _ _ h => Rw.arr h) rfl)
   (lbase (qTestC (op := .eql) (fun _ _ h => h) (ts_run (show decide (((0 : Nat) : Int) = 0) = true from rfl) (by simp)))
   lnil))))
  (ins_ok [.fact 0 (.one (.s)), .fact 1 (.one (.s))] ⟨fun _ _ h => Rw.is (sz := 2) (F := (fun ι w v => IntV w v (z0 ι) k)) (n := n0) h, fun _ _ h => Rw.is (sz := 2) (F := (fun ι w v => IntV w v (z1 ι) k1)) (n := n1) h, trivial⟩) (fun _ _ _ h => h)
end Go.Proofs.YteblgmjpociffaaGreat.Sym
