/- pdiv.Pseudo; Exact where it comes out even. -/
import Derived.Test.YteblgmjpociffaaGreatDivR
namespace Go.Proofs.YteblgmjpociffaaGreat.Sym
open Go.RowKit
section
variable {Φ : Nat → World → Value → Prop} {p x n m k : Nat} {z : Nat → Int} {L : List Int}
theorem sNormPn (hp : ∀ w v, Φ p w v → Rw 2 (fun i w v => IntV w v (z i) k) n w v) (hx : Φ x = fun w v => Rw 2 (fun i w v => NorV w v (coef L i) k) m w v) (hn : n ≤ 1000000) (hk : k ≤ 500000) (hL : trimL (mk n z) = L) (hm : L.length = m) : SiteOk Φ Tryz.prog ⟨93, [.fact p], [⟨.one .s, [(0, 0, x)]⟩], false⟩ := by
  subst hm
  exact sNormP hp hx hn hk hL
end
section
variable {Φ : Nat → World → Value → Prop} {p q x n l k : Nat} {z : Nat → Int} {L : List Int}
end
/-- The quotient's row behind j steps: each number times a power of c. -/
def psQ (T : Nat → Int) (c : Int) (j p : Nat) : Int := if p < j then T p * c ^ p else T p
section
variable {T : Nat → Int} {c : Int} {i j : Nat}
theorem psQ_zero : psQ T c 0 i = T i := if_neg (by omega)
theorem psQ_ne (h : i ≠ j) : psQ T c (j + 1) i = psQ T c j i := by
  unfold psQ
  split <;> split <;> first | rfl | omega
theorem psQ_at : psQ T c j j * c ^ j = psQ T c (j + 1) j := by
  unfold psQ
  rw [if_neg (by omega), if_pos (by omega)]
end
section
variable {z y : Nat → Int} {n m i j p : Nat} {c : Int}
end
def b_ppseudo (z0 z1 : Nat → Int) (n0 n1 k k1 nb m K KQ : Nat) (c : Int) (Z Y L2 : List Int) : List (World → Value → Prop) := [fun w v => Rw 2 (fun ι w v => IntV w v (z0 ι) k) n0 w v, fun w v => Rw 2 (fun ι w v => IntV w v (z1 ι) k1) n1 w v, fun w v => Rw 2 (fun ι w v => NorV w v ((coef Y) ι) k1) (nb + 1) w v, fun _ v => v = .int .i64 (((nb + 1) : Nat) : Int), fun w v => ArrO 2 26 (fun ι w v => NorV w v ((coef Z) ι) k) Z.length w v, fun w v => ArrO 2 26 (fun ι w v => NorV w v ((dto m m (rdT (coef Z) (coef Y) nb m c)) ι) K) m w v, fun w v => Rw 2 (fun ι w v => NorV w v ((coef L2) ι) K) L2.length w v, fun w v => NorV w v c k1, fun w v => NorV w v (1 : Int) 2, LenS m, fun _ v => v = .int .i64 ((m : Nat) : Int), fun w v => ArrO 2 26 (fun ι w v => NorV w v ((psQ (dto m m (rdT (coef Z) (coef Y) nb m c)) c m) ι) KQ) m w v, LenS m, fun _ v => v = .int .i64 ((m : Nat) : Int)]
def l_ppseudo_1 (k1 nb m kp KQ : Nat) (c : Int) (Z Y : List Int) (j : Nat) : List (World → Value → Prop) := [fun _ v => v = .int .i64 ((j : Nat) : Int), fun w v => ArrO 2 26 (fun ι w v => NorV w v ((psQ (dto m m (rdT (coef Z) (coef Y) nb m c)) c j) ι) KQ) m w v, fun _ _ => True, fun w v => NorV w v (c ^ j) kp, At 2, fun w v => Ptr 2 (fun w v => NorV w v ((psQ (dto m m (rdT (coef Z) (coef Y) nb m c)) c j) j) KQ) w v, fun w v => NorV w v ((psQ (dto m m (rdT (coef Z) (coef Y) nb m c)) c j) j) KQ, fun w v => NorV w v (((psQ (dto m m (rdT (coef Z) (coef Y) nb m c)) c j) j) * (c ^ j)) (KQ + kp), At 2, fun w v => Ptr 2 (fun w v => NorV w v ((psQ (dto m m (rdT (coef Z) (coef Y) nb m c)) c j) j) KQ) w v, fun w v => ArrO 2 26 (fun ι w v => NorV w v ((psQ (dto m m (rdT (coef Z) (coef Y) nb m c)) c (j + 1)) ι) KQ) m w v, fun w v => NorV w v ((c ^ j) * c) (kp + k1), fun _ v => v = .int .i64 (((j + 1) : Nat) : Int)]
def d_ppseudo_1 : LoopD := ⟨[0, 1, 5, 6, 7, 8, 9, 12, 13, 14, 15, 16, 17, 18, 19, 20, 21, 22, 23, 24, 25, 26, 28], [(.slot 29, .i), (.two 27 4, .s), (.cell 24 0, .b), (.cell 24 1, .s)], [(.one 0, 14), (.one 1, .at [2] 15), (.one 1, .lo 2), (.agg [2, 3], 17)], [.closed (.one (.ci .i64 0)), .from 5, .from 0, .from 8], 14, [(15, 11)]⟩
def r_ppseudo_1_0 : List Step := [.base ⟨0, [.fact 14, .fact 10], [⟨.one (.lit (.cb true)), []⟩], .quiet (mBin .lss)⟩,
      .base ⟨0, [.fact 15, .fact 14], [⟨.one (.p), [(0, 0, 19)]⟩], .joint [2] 18 (mIdx 23)⟩,
      .base ⟨0, [.fact 19], [⟨.agg [.b, .s], [(0, 0, 20)]⟩], .quietF [2] (mLoad 26)⟩,
      .base ⟨48, [.fact 20, .fact 17], [⟨.agg [.b, .s], [(0, 0, 21)]⟩], false⟩,
      .base ⟨0, [.fact 15, .fact 14], [⟨.one (.p), [(0, 0, 23)]⟩], .joint [2] 22 (mIdx 23)⟩,
      .base ⟨0, [.fact 15, .fact 14, .any, .fact 21], [⟨.one .s, [(0, 0, 24)]⟩], .put [] 2 0 22 (mPut 26 (.tmp 34) (.tmp 35))⟩,
      .base ⟨48, [.fact 17, .fact 7], [⟨.agg [.b, .s], [(0, 0, 25)]⟩], false⟩,
      .base ⟨0, [.fact 14, .lit (.ci .i64 1)], [⟨.one (.i), [(0, 0, 26)]⟩], .quiet (mBin .add)⟩]
def o_ppseudo_1 : List Step := [.base ⟨0, [.fact 14, .fact 10], [⟨.one (.lit (.cb false)), []⟩], .quiet (mBin .lss)⟩]
def ss_ppseudo : List Step := [.base ⟨93, [.fact 1], [⟨.one (.s), [(0, 0, 2)]⟩], false⟩,
      .base ⟨0, [.fact 2], [⟨.one (.i), [(0, 0, 3)]⟩], .quiet (mLen 23)⟩,
      .base ⟨0, [.fact 3, .lit (.ci .i64 0)], [⟨.one (.lit (.cb false)), []⟩], .quiet (mBin .eql)⟩,
      .base ⟨93, [.fact 0], [⟨.one (.s), [(0, 0, 4)]⟩], .callN [] 1⟩,
      .base ⟨94, [.fact 4, .fact 2], [⟨.one (.s), [(0, 0, 5)]⟩, ⟨.one (.s), [(0, 0, 6)]⟩], .callW [] 1 2 0⟩,
      .base ⟨45, [.fact 2], [⟨.agg [.b, .s], [(0, 0, 7)]⟩], false⟩,
      .base ⟨19, [.lit (.ci .i64 1)], [⟨.agg [.b, .s], [(0, 0, 8)]⟩], false⟩,
      .freed (.one (.s 14 0)) 5 9,
      .base ⟨0, [.fact 9], [⟨.one (.i), [(0, 0, 10)]⟩], .quiet (mLen 23)⟩,
      .loop d_ppseudo_1 [(r_ppseudo_1_0, [.from 26, .from 24, .from 0, .from 25])] o_ppseudo_1,
      .freed (.one (.s 30 1)) 11 12,
      .base ⟨0, [.fact 12], [⟨.one (.i), [(0, 0, 13)]⟩], .quiet (mLen 23)⟩]
def ins_ppseudo : List Out := [⟨.one (.s), [(0, 0, 0)]⟩, ⟨.one (.s), [(0, 0, 1)]⟩]
set_option maxRecDepth 100000 in
theorem ppseudo {z0 z1 : Nat → Int} {n0 n1 k k1 nb m kp K KQ : Nat} {c : Int} {Z Y L2 : List Int} (hn0 : n0 ≤ 1000000) (hn1 : n1 ≤ 1000000) (hk : k ≤ 90000) (hk1 : k1 ≤ 90000) (hY : trimL (mk n1 z1) = Y) (hkK : k ≤ K) (hYl : Y.length = nb + 1) (hnb : nb ≤ 800000) (hZ : trimL (mk n0 z0) = Z) (hZl : Z.length ≤ 1000000) (hm : m = Z.length - nb) (hkp : kp ≤ 90000) (hK : K ≤ 90000) (hKQ : KQ ≤ 90000) (hKK : K ≤ KQ) (hc : ldZ (coef Y) (nb + 1) = c) (hB : ∀ j, j ≤ m → Bd (c ^ j).natAbs kp) (hA1 : ∀ j p, j < m → Bd (rA1 (coef Z) (coef Y) nb m c j p).natAbs K) (hM : ∀ j i p, j < m → Bd (rMid (coef Z) (coef Y) nb m c j i p).natAbs K) (hL2 : trimL (mk (min nb Z.length) (rdA (coef Z) (coef Y) nb m c m)) = L2) (hQ : ∀ j, j < m → Bd (psQ (dto m m (rdT (coef Z) (coef Y) nb m c)) c (j + 1) j).natAbs KQ) : SiteOk (ph (b_ppseudo z0 z1 n0 n1 k k1 nb m K KQ c Z Y L2)) Tryz.prog ⟨38, [.fact 0, .fact 1], [⟨.one (.s), [(0, 0, 11)]⟩, ⟨.one (.s), [(0, 0, 6)]⟩, ⟨.one (.i), [(0, 0, 13)]⟩, ⟨.one (.lit (.ci .i64 0)), []⟩], true⟩ := by
  skip
  exact fn_okL ins_ppseudo [⟨.one (.s), [(0, 0, 11)]⟩, ⟨.one (.s), [(0, 0, 6)]⟩, ⟨.one (.i), [(0, 0, 13)]⟩, ⟨.one (.lit (.ci .i64 0)), []⟩] ss_ppseudo Tryz.func38 (by kernel_rfl)
    (lbase (sNormPn (L := Y) (m := (nb + 1)) (fun _ _ h => Rw.to (sz := 2) (n := n1) (F := (fun ι w v => IntV w v (z1 ι) k1)) (h) (fun i w v _ h => (fun _ _ _ h => h) i w v h)) rfl (by omega) (by omega) hY hYl)
      (lbase (qLen (sz := 2) (n := (nb + 1)) (F := (fun ι w v => NorV w v ((coef Y) ι) k1)) Tryz.underlying23 (fun _ _ h => Rw.arr h) rfl)
      (lbase (qTestC (op := .eql) (fun _ _ h => h) (ts_run (show decide ((((nb + 1) : Nat) : Int) = 0) = false from decide_eq_false (by omega)) (by simp)))
      (lbase (sNormN (fun _ _ h => Rw.to (sz := 2) (n := n0) (F := (fun ι w v => IntV w v (z0 ι) k)) (h) (fun i w v _ h => (fun _ _ _ h => h) i w v h)) rfl (by omega) (by omega) hZ)
      (lbase (sReduce (z := (coef Z)) (y := (coef Y)) (n := nb) (m := m) (c := c) (L2 := L2) (la := Z.length) (l := k1) (kp := kp) (K := K) (fun _ _ h => ArrO.to (sz := 2) (e := 26) (n := Z.length) (F := (fun ι w v => NorV w v ((coef Z) ι) k)) (G := fun i w v => NorV w v ((coef Z) i) K) h fun _ _ _ _ h => NorV.more h (by omega)) (fun _ _ h => Rw.to (sz := 2) (n := (nb + 1)) (F := (fun ι w v => NorV w v ((coef Y) ι) k1)) (h) (fun i w v _ h => (fun _ _ _ h => NorV.i h) i w v h)) rfl rfl (by omega) (by omega) (by omega) (by omega) (by omega) (by omega) hc hB hA1 hM hL2)
      (lbase (sLead (z := (coef Y)) (n := (nb + 1)) (fun _ _ h => Rw.to (sz := 2) (n := (nb + 1)) (F := (fun ι w v => NorV w v ((coef Y) ι) k1)) (h) (fun i w v _ h => (fun _ _ _ h => NorV.i h) i w v h)) rfl (by omega) (by omega) (hc))
      (lbase (sOf (z := 1) rfl (by decide) (by decide) rfl)
      (lfreed (freeLen (e := 26) (sz := 2) (n := m) (F := (fun ι w v => NorV w v ((dto m m (rdT (coef Z) (coef Y) nb m c)) ι) K)) (fun _ _ h => h) rfl)
      (lbase (qLenS' (n := m) Tryz.underlying23 (fun _ _ h => h) rfl)
      (lloop (counted m (fun j => ph (b_ppseudo z0 z1 n0 n1 k k1 nb m K KQ c Z Y L2 ++ l_ppseudo_1 k1 nb m kp KQ c Z Y j)) (fun _ => 0) (fun j p hp => ph_app' (show p < (b_ppseudo z0 z1 n0 n1 k k1 nb m K KQ c Z Y L2).length from hp)) ⟨fun _ => rfl, fun _ _ h => ArrO.to (sz := 2) (e := 26) (n := m) (F := fun ι w v => NorV w v ((dto m m (rdT (coef Z) (coef Y) nb m c)) ι) K) (G := (fun ι w v => NorV w v ((psQ (dto m m (rdT (coef Z) (coef Y) nb m c)) c 0) ι) KQ)) h fun a w v ha h => by rw [psQ_zero]; exact NorV.more h (by omega), fun _ _ _ => trivial, fun _ _ h => NorV.re (h.eq (by rw [Int.pow_zero])) (hB 0 (by omega)), trivial⟩ (fun j hj => by
      skip
      exact ⟨(r_ppseudo_1_0, [.from 26, .from 24, .from 0, .from 25]), rfl, ⟨fun _ _ h => h, fun _ _ h => h, fun _ _ _ => trivial, fun _ _ h => NorV.re (h.eq (by rw [Int.pow_succ])) (hB (j + 1) (by omega)), trivial⟩, (lbase (qTest (op := .lss) (fun _ _ h => h) (fun _ _ h => h) (ts_run (decide_eq_true (by omega)) (by simp)))
      (lbase (qIdxJ (i := j) (sz := 2) (n := m) (F := (fun ι w v => NorV w v ((psQ (dto m m (rdT (coef Z) (coef Y) nb m c)) c j) ι) KQ)) Tryz.underlying23 (by kernel_rfl) (fun _ _ h => ArrO.arr h) (fun _ _ h => h) (by omega) rfl rfl)
      (lbase (qLoadF (sz := 2) (F := fun w v => NorV w v ((psQ (dto m m (rdT (coef Z) (coef Y) nb m c)) c j) j) KQ) (by kernel_rfl) (by kernel_rfl) (fun _ _ h => h) (fun _ _ _ g h => NorV.kp h g) (fun _ _ h => NorV.is h) rfl)
      (lbase (sMul nI nI rfl (by omega) rfl)
      (lbase (qIdxJ (i := j) (sz := 2) (n := m) (F := (fun ι w v => NorV w v ((psQ (dto m m (rdT (coef Z) (coef Y) nb m c)) c j) ι) KQ)) Tryz.underlying23 (by kernel_rfl) (fun _ _ h => ArrO.arr h) (fun _ _ h => h) (by omega) rfl rfl)
      (lbase (qPutR (i := j) (n := m) (F := (fun ι w v => NorV w v ((psQ (dto m m (rdT (coef Z) (coef Y) nb m c)) c j) ι) KQ)) (F' := (fun ι w v => NorV w v ((psQ (dto m m (rdT (coef Z) (coef Y) nb m c)) c (j + 1)) ι) KQ)) (G := fun w v => NorV w v (((psQ (dto m m (rdT (coef Z) (coef Y) nb m c)) c j) j) * (c ^ j)) (KQ + kp)) (.tmp 34) (.tmp 35) (by kernel_rfl) (fun _ _ h => h) (fun _ _ h => h) (by omega) (fun _ _ h => h) rfl (fun _ _ h => NorV.cells h) (fun _ _ _ _ g h => NorV.kp h g) (fun _ _ _ g h => NorV.kp h g) (fun a w v ha h => by rw [psQ_ne ha]; exact h) (fun w v h => NorV.re (h.eq psQ_at) (hQ j hj)) rfl)
      (lbase (sMul nI nI rfl (by omega) rfl)
      (lbase (qAddK (fun _ _ h => h) (by omega) rfl (by omega) (by omega))
      lnil))))))))⟩)
      (lbase (qTest (op := .lss) (fun _ _ h => h) (fun _ _ h => h) (ts_run (decide_eq_false (by omega)) (by simp)))
      lnil)
      (fun q hq w v h => by
        simp only [d_ppseudo_1, List.mem_cons, List.not_mem_nil, or_false] at hq
        rcases hq with rfl
        · exact (fun h => h) h)) (lfreed (freeLen (e := 26) (sz := 2) (n := m) (F := (fun ι w v => NorV w v ((psQ (dto m m (rdT (coef Z) (coef Y) nb m c)) c m) ι) KQ)) (fun _ _ h => h) rfl)
      (lbase (qLenS' (n := m) Tryz.underlying23 (fun _ _ h => h) rfl)
      lnil))))))))))))
    (ins_ok [.fact 0 (.one (.s)), .fact 1 (.one (.s))] ⟨fun _ _ h => Rw.is (sz := 2) (F := (fun ι w v => IntV w v (z0 ι) k)) (n := n0) h, fun _ _ h => Rw.is (sz := 2) (F := (fun ι w v => IntV w v (z1 ι) k1)) (n := n1) h, trivial⟩) (fun _ _ _ h => h)

def b_ppseudo_0 (z0 z1 : Nat → Int) (n0 n1 k k1 : Nat) (Y : List Int) : List (World → Value → Prop) := [fun w v => Rw 2 (fun ι w v => IntV w v (z0 ι) k) n0 w v, fun w v => Rw 2 (fun ι w v => IntV w v (z1 ι) k1) n1 w v, fun w v => Rw 2 (fun ι w v => NorV w v ((coef Y) ι) k1) 0 w v, fun _ v => v = .int .i64 ((0 : Nat) : Int)]
def ss_ppseudo_0 : List Step := [.base ⟨93, [.fact 1], [⟨.one (.s), [(0, 0, 2)]⟩], false⟩,
      .base ⟨0, [.fact 2], [⟨.one (.i), [(0, 0, 3)]⟩], .quiet (mLen 23)⟩,
      .base ⟨0, [.fact 3, .lit (.ci .i64 0)], [⟨.one (.lit (.cb true)), []⟩], .quiet (mBin .eql)⟩]
def ins_ppseudo_0 : List Out := [⟨.one (.s), [(0, 0, 0)]⟩, ⟨.one (.s), [(0, 0, 1)]⟩]
set_option maxRecDepth 100000 in
theorem ppseudo_0 {z0 z1 : Nat → Int} {n0 n1 k k1 : Nat} {Y : List Int} (hn1 : n1 ≤ 1000000) (hk1 : k1 ≤ 90000) (hY : trimL (mk n1 z1) = Y) (hYl : Y.length = 0) : SiteOk (ph (b_ppseudo_0 z0 z1 n0 n1 k k1 Y)) Tryz.prog ⟨38, [.fact 0, .fact 1], [⟨.one (.lit (.nl)), []⟩, ⟨.one (.lit (.nl)), []⟩, ⟨.one (.lit (.ci .i64 0)), []⟩, ⟨.one (.lit (.ci .i64 2)), []⟩], true⟩ := by
  skip
  exact fn_okL ins_ppseudo_0 [⟨.one (.lit (.nl)), []⟩, ⟨.one (.lit (.nl)), []⟩, ⟨.one (.lit (.ci .i64 0)), []⟩, ⟨.one (.lit (.ci .i64 2)), []⟩] ss_ppseudo_0 Tryz.func38 (by kernel_rfl)
    (lbase (sNormPn (L := Y) (m := 0) (fun _ _ h => Rw.to (sz := 2) (n := n1) (F := (fun ι w v => IntV w v (z1 ι) k1)) (h) (fun i w v _ h => (fun _ _ _ h => h) i w v h)) rfl (by omega) (by omega) hY hYl)
      (lbase (qLen (sz := 2) (n := 0) (F := (fun ι w v => NorV w v ((coef Y) ι) k1)) Tryz.underlying23 (fun _ _ h => Rw.arr h) rfl)
      (lbase (qTestC (op := .eql) (fun _ _ h => h) (ts_run (show decide (((0 : Nat) : Int) = 0) = true from rfl) (by simp)))
      lnil)))
    (ins_ok [.fact 0 (.one (.s)), .fact 1 (.one (.s))] ⟨fun _ _ h => Rw.is (sz := 2) (F := (fun ι w v => IntV w v (z0 ι) k)) (n := n0) h, fun _ _ h => Rw.is (sz := 2) (F := (fun ι w v => IntV w v (z1 ι) k1)) (n := n1) h, trivial⟩) (fun _ _ _ h => h)
end Go.Proofs.YteblgmjpociffaaGreat.Sym
