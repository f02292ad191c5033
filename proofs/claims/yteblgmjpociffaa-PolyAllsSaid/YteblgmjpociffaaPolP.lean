/- poly.Sum, Product. -/
import Derived.Test.YteblgmjpociffaaPolL
namespace Go.Proofs.Yteblgmjpociffaa.Sym
open Go.RowKit
def sumP (zz : Nat → Nat → Int) (ln : Nat → Nat) : Nat → List Int
  | 0 => []
  | j + 1 => trimL (mk (max (sumP zz ln j).length (ln j)) (fun i => upto (sumP zz ln j).length (coef (sumP zz ln j)) i + upto (ln j) (zz j) i))
def prodP (zz : Nat → Nat → Int) (ln : Nat → Nat) : Nat → List Int
  | 0 => [1]
  | j + 1 => mulL (coef (prodP zz ln j)) (prodP zz ln j).length (zz j) (ln j)
theorem sumP_succ {zz : Nat → Nat → Int} {ln : Nat → Nat} {j : Nat} : trimL (mk (max (sumP zz ln j).length (ln j)) (fun i => upto (sumP zz ln j).length (coef (sumP zz ln j)) i + upto (ln j) (zz j) i)) = sumP zz ln (j + 1) := rfl
theorem sumP_le {zz : Nat → Nat → Int} {ln : Nat → Nat} {c : Nat} : ∀ {j : Nat}, (∀ i, i < j → ln i ≤ c) → (sumP zz ln j).length ≤ c
  | 0, _ => Nat.zero_le _
  | j + 1, h => by
    have h1 := sumP_le (zz := zz) (ln := ln) (c := c) (j := j) fun i hi => h i (by omega)
    have h2 := h j (by omega)
    rw [sumP, trimL_mk]
    exact Nat.le_trans (tl_le _ _) (by omega)
theorem rw_slice {sz n : Nat} {F : Nat → World → Value → Prop} {w : World} {v : Value} (h : Rw sz F n w v) : ∃ p n c, v = .slice p n c := by
  obtain ⟨p, c, rfl, _⟩ := h; exact ⟨_, _, _, rfl⟩
def b_psum (zz : Nat → Nat → Int) (ln : Nat → Nat) (n k : Nat) : List (World → Value → Prop) := [fun w v => Rw 1 (PRow zz ln k) n w v, fun _ v => v = .int .i64 ((n : Nat) : Int), fun w v => Rw 2 (fun ι w v => NorV w v ((coef (sumP zz ln n)) ι) (n * (k + 1))) ((sumP zz ln n).length) w v]
def l_psum_1 (zz : Nat → Nat → Int) (ln : Nat → Nat) (k : Nat) (j : Nat) : List (World → Value → Prop) := [fun _ v => v = .int .i64 ((j : Nat) : Int), fun w v => Rw 2 (fun ι w v => NorV w v ((coef (sumP zz ln j)) ι) (j * (k + 1))) ((sumP zz ln j).length) w v, fun w v => Ptr 1 (fun w v => ∃ s, v = .agg #[s] ∧ Rw 2 (fun ι w v => IntV w v (zz j ι) k) (ln j) w s) w v, fun w v => Rw 2 (fun ι w v => IntV w v ((zz j) ι) k) (ln j) w v, fun w v => Rw 2 (fun ι w v => NorV w v ((coef (sumP zz ln (j + 1))) ι) ((j * (k + 1)) + k + 1)) ((sumP zz ln (j + 1)).length) w v, fun _ v => v = .int .i64 (((j + 1) : Nat) : Int)]
def d_psum_1 : LoopD := ⟨[0, 2, 6, 7], [(.slot 8, .i), (.slot 3, .s)], [(.one 0, 3), (.one 1, 4)], [.closed (.one (.ci .i64 0)), .closed (.one (.nl))], 3, [(4, 2)]⟩
def r_psum_1_0 : List Step := [.base ⟨0, [.fact 3, .fact 1], [⟨.one (.lit (.cb true)), []⟩], .quiet (mBin .lss)⟩,
      .base ⟨0, [.fact 0, .fact 3], [⟨.one (.p), [(0, 0, 5)]⟩], .quiet (mIdx 39)⟩,
      .base ⟨0, [.fact 5], [⟨.one (.s), [(0, 0, 6)]⟩], .quiet (mLoad 23)⟩,
      .base ⟨8, [.fact 4, .fact 6], [⟨.one (.s), [(0, 0, 7)]⟩], false⟩,
      .base ⟨0, [.fact 3, .lit (.ci .i64 1)], [⟨.one (.i), [(0, 0, 8)]⟩], .quiet (mBin .add)⟩]
def o_psum_1 : List Step := [.base ⟨0, [.fact 3, .fact 1], [⟨.one (.lit (.cb false)), []⟩], .quiet (mBin .lss)⟩]
def ss_psum : List Step := [.base ⟨0, [.fact 0], [⟨.one (.i), [(0, 0, 1)]⟩], .quiet (mLen 39)⟩,
      .loop d_psum_1 [(r_psum_1_0, [.from 8, .from 7])] o_psum_1]
def ins_psum : List Out := [⟨.one (.s), [(0, 0, 0)]⟩]
set_option maxRecDepth 100000 in
theorem psum {zz : Nat → Nat → Int} {ln : Nat → Nat} {n k : Nat} (hn : n ≤ 1000) (hk : k ≤ 10000) (hnk : n * (k + 1) ≤ 100000) (hln : ∀ i, i < n → ln i ≤ 100000) : SiteOk (ph (b_psum zz ln n k)) Try.prog ⟨29, [.fact 0], [⟨.one (.s), [(0, 0, 2)]⟩], false⟩ := by
  skip
  exact fn_okL ins_psum [⟨.one (.s), [(0, 0, 2)]⟩] ss_psum Try.func29 (by kernel_rfl)
    (lbase (qLen (sz := 1) (n := n) (F := (PRow zz ln k)) Try.underlying39 (fun _ _ h => Rw.arr h) rfl)
      (lloop (counted n (fun j => ph (b_psum zz ln n k ++ l_psum_1 zz ln k j)) (fun _ => 0) (fun j p hp => ph_app' (show p < (b_psum zz ln n k).length from hp)) ⟨fun _ => rfl, fun w => Rw.nil 2 (fun ι w v => NorV w v (coef (sumP zz ln 0) ι) (0 * (k + 1))) w, trivial⟩ (fun j hj => by
      have h1 : (j + 1) * (k + 1) = j * (k + 1) + k + 1 := by rw [Nat.succ_mul]; omega
      have h2 : j * (k + 1) ≤ n * (k + 1) := Nat.mul_le_mul_right _ (by omega)
      have h3 := hln j hj
      have h4 := sumP_le (zz := zz) (c := 100000) (ln := ln) (j := j) (fun i hi => hln i (by omega))
      exact ⟨(r_psum_1_0, [.from 8, .from 7]), rfl, ⟨fun _ _ h => h, fun _ _ h => Rw.to (sz := 2) (n := (sumP zz ln (j + 1)).length) (F := fun ι w v => NorV w v (coef (sumP zz ln (j + 1)) ι) (j * (k + 1) + k + 1)) (G := fun ι w v => NorV w v (coef (sumP zz ln (j + 1)) ι) ((j + 1) * (k + 1))) h fun _ _ _ _ h => h.more (by omega), trivial⟩, (lbase (qTest (op := .lss) (fun _ _ h => h) (fun _ _ h => h) (ts_run (decide_eq_true (by omega)) (by simp)))
      (lbase (qIdx (i := j) (sz := 1) (n := n) (F := (PRow zz ln k)) Try.underlying39 (by kernel_rfl) (fun _ _ h => Rw.arr h) (fun _ _ h => h) (by omega) rfl)
      (lbase (qLoadP (by kernel_rfl) (fun _ _ h => h) (fun _ _ h => rw_slice h) rfl)
      (lbase (sAddP (z := (coef (sumP zz ln j))) (n := (sumP zz ln j).length) (y := (zz j)) (m := (ln j)) (fun _ _ h => Rw.to (sz := 2) (n := (sumP zz ln j).length) (F := (fun ι w v => NorV w v ((coef (sumP zz ln j)) ι) (j * (k + 1)))) (h) (fun i w v _ h => (fun _ _ _ h => NorV.i h) i w v h)) (fun _ _ h => Rw.to (sz := 2) (n := (ln j)) (F := (fun ι w v => IntV w v ((zz j) ι) k)) (h) (fun i w v _ h => (fun _ _ _ h => h) i w v h)) rfl (by omega) (by omega) (by omega) (by omega) sumP_succ)
      (lbase (qAddK (fun _ _ h => h) (by omega) rfl (by omega) (by omega))
      lnil)))))⟩)
      (lbase (qTest (op := .lss) (fun _ _ h => h) (fun _ _ h => h) (ts_run (decide_eq_false (by omega)) (by simp)))
      lnil)
      (fun q hq w v h => by
        simp only [d_psum_1, List.mem_cons, List.not_mem_nil, or_false] at hq
        rcases hq with rfl
        · exact (fun h => h) h)) lnil))
    (ins_ok [.fact 0 (.one (.s))] ⟨fun _ _ h => Rw.is (sz := 1) (F := (PRow zz ln k)) (n := n) h, trivial⟩) (fun _ _ _ h => h)

def b_pprod (zz : Nat → Nat → Int) (ln : Nat → Nat) (n k c : Nat) : List (World → Value → Prop) := [fun w v => Rw 1 (PRow zz ln k) n w v, fun _ v => v = .int .i64 1, fun w v => Rw 1 (fun i _ v => v = .agg #[.int .i64 ((fun _ => 1) i)]) 1 w v, fun w v => Rw 2 (fun ι w v => NorV w v ((coef ([1])) ι) 2) ([(1 : Int)].length) w v, fun _ v => v = .int .i64 ((n : Nat) : Int), fun w v => Rw 2 (fun ι w v => NorV w v ((coef (prodP zz ln n)) ι) (2 + n * (k + c + 1))) ((prodP zz ln n).length) w v]
def l_pprod_1 (zz : Nat → Nat → Int) (ln : Nat → Nat) (k c : Nat) (j : Nat) : List (World → Value → Prop) := [fun _ v => v = .int .i64 ((j : Nat) : Int), fun w v => Rw 2 (fun ι w v => NorV w v ((coef (prodP zz ln j)) ι) (2 + j * (k + c + 1))) ((prodP zz ln j).length) w v, fun w v => Ptr 1 (fun w v => ∃ s, v = .agg #[s] ∧ Rw 2 (fun ι w v => IntV w v (zz j ι) k) (ln j) w s) w v, fun w v => Rw 2 (fun ι w v => IntV w v ((zz j) ι) k) (ln j) w v, fun w v => Rw 2 (fun ι w v => NorV w v ((coef (prodP zz ln (j + 1))) ι) ((2 + j * (k + c + 1)) + k + c + 1)) ((prodP zz ln (j + 1)).length) w v, fun _ v => v = .int .i64 (((j + 1) : Nat) : Int)]
def d_pprod_1 : LoopD := ⟨[0, 2, 6, 7, 8, 9], [(.slot 10, .i), (.slot 3, .s)], [(.one 0, 6), (.one 1, .at [2] 7)], [.closed (.one (.ci .i64 0)), .from 3], 6, [(7, 5)]⟩
def r_pprod_1_0 : List Step := [.base ⟨0, [.fact 6, .fact 4], [⟨.one (.lit (.cb true)), []⟩], .quiet (mBin .lss)⟩,
      .base ⟨0, [.fact 0, .fact 6], [⟨.one (.p), [(0, 0, 8)]⟩], .quiet (mIdx 39)⟩,
      .base ⟨0, [.fact 8], [⟨.one (.s), [(0, 0, 9)]⟩], .quiet (mLoad 23)⟩,
      .base ⟨16, [.fact 7, .fact 9], [⟨.one (.s), [(0, 0, 10)]⟩], .callJ [2] false⟩,
      .base ⟨0, [.fact 6, .lit (.ci .i64 1)], [⟨.one (.i), [(0, 0, 11)]⟩], .quiet (mBin .add)⟩]
def o_pprod_1 : List Step := [.base ⟨0, [.fact 6, .fact 4], [⟨.one (.lit (.cb false)), []⟩], .quiet (mBin .lss)⟩]
def ss_pprod : List Step := [.derive (.one (.ci .i64 1)) (.one (.lit (.ci .i64 1))) [] 1,
      .base ⟨0, [.any, .fact 1], [⟨.one (.s), [(0, 0, 2)]⟩], .loose [] 2 0 (mRow 40 1)⟩,
      .base ⟨33, [.fact 2], [⟨.one (.s), [(0, 0, 3)]⟩], .callJ [2] false⟩,
      .base ⟨0, [.fact 0], [⟨.one (.i), [(0, 0, 4)]⟩], .quiet (mLen 39)⟩,
      .loop d_pprod_1 [(r_pprod_1_0, [.from 11, .from 10])] o_pprod_1]
def ins_pprod : List Out := [⟨.one (.s), [(0, 0, 0)]⟩]
set_option maxRecDepth 100000 in
theorem pprod {zz : Nat → Nat → Int} {ln : Nat → Nat} {n k c : Nat} (hn : n ≤ 1000) (hk : k ≤ 10000) (hcc : c ≤ 1000) (hnk : n * (k + c + 1) ≤ 50000) (hln : ∀ i, i < n → ln i ≤ 100000) (hc : ∀ j, j < n → (prodP zz ln j).length ≤ c) : SiteOk (ph (b_pprod zz ln n k c)) Try.prog ⟨30, [.fact 0], [⟨.one (.s), [(0, 0, 5)]⟩], false⟩ := by
  skip
  exact fn_okL ins_pprod [⟨.one (.s), [(0, 0, 5)]⟩] ss_pprod Try.func30 (by kernel_rfl)
    (lderive (deriveZ rfl)
      (lbase (qRowZ (a := 1) (fun _ _ h => h) rfl)
      (lbase (onJ [2] (sPOf (z := fun _ => 1) (n := 1) (fun _ _ h => h) rfl (by omega) (fun _ => by omega) (by decide)))
      (lbase (qLen (sz := 1) (n := n) (F := (PRow zz ln k)) Try.underlying39 (fun _ _ h => Rw.arr h) rfl)
      (lloop (counted n (fun j => ph (b_pprod zz ln n k c ++ l_pprod_1 zz ln k c j)) (fun _ => 0) (fun j p hp => ph_app' (show p < (b_pprod zz ln n k c).length from hp)) ⟨fun _ => rfl, fun _ _ h => Rw.to (sz := 2) (n := [(1 : Int)].length) (F := fun ι w v => NorV w v (coef [1] ι) 2) (G := fun ι w v => NorV w v (coef (prodP zz ln 0) ι) (2 + 0 * (k + c + 1))) h fun _ _ _ _ h => h.more (by omega), trivial⟩ (fun j hj => by
      have h1 : (j + 1) * (k + c + 1) = j * (k + c + 1) + k + c + 1 := by rw [Nat.succ_mul]; omega
      have h2 : j * (k + c + 1) ≤ n * (k + c + 1) := Nat.mul_le_mul_right _ (by omega)
      have h3 := hln j hj
      have h4 := hc j hj
      exact ⟨(r_pprod_1_0, [.from 11, .from 10]), rfl, ⟨fun _ _ h => h, fun _ _ h => Rw.to (sz := 2) (n := (prodP zz ln (j + 1)).length) (F := fun ι w v => NorV w v (coef (prodP zz ln (j + 1)) ι) (2 + j * (k + c + 1) + k + c + 1)) (G := fun ι w v => NorV w v (coef (prodP zz ln (j + 1)) ι) (2 + (j + 1) * (k + c + 1))) h fun _ _ _ _ h => h.more (by omega), trivial⟩, (lbase (qTest (op := .lss) (fun _ _ h => h) (fun _ _ h => h) (ts_run (decide_eq_true (by omega)) (by simp)))
      (lbase (qIdx (i := j) (sz := 1) (n := n) (F := (PRow zz ln k)) Try.underlying39 (by kernel_rfl) (fun _ _ h => Rw.arr h) (fun _ _ h => h) (by omega) rfl)
      (lbase (qLoadP (by kernel_rfl) (fun _ _ h => h) (fun _ _ h => rw_slice h) rfl)
      (lbase (onJ [2] (sPMul (c := c) (z := (coef (prodP zz ln j))) (n := (prodP zz ln j).length) (y := (zz j)) (m := (ln j)) (fun _ _ h => Rw.to (sz := 2) (n := (prodP zz ln j).length) (F := (fun ι w v => NorV w v ((coef (prodP zz ln j)) ι) (2 + j * (k + c + 1)))) (h) (fun i w v _ h => (fun _ _ _ h => NorV.i h) i w v h)) (fun _ _ h => Rw.to (sz := 2) (n := (ln j)) (F := (fun ι w v => IntV w v ((zz j) ι) k)) (h) (fun i w v _ h => (fun _ _ _ h => h) i w v h)) rfl (by omega) (by omega) (by omega) (by omega) (by omega) rfl))
      (lbase (qAddK (fun _ _ h => h) (by omega) rfl (by omega) (by omega))
      lnil)))))⟩)
      (lbase (qTest (op := .lss) (fun _ _ h => h) (fun _ _ h => h) (ts_run (decide_eq_false (by omega)) (by simp)))
      lnil)
      (fun q hq w v h => by
        simp only [d_pprod_1, List.mem_cons, List.not_mem_nil, or_false] at hq
        rcases hq with rfl
        · exact (fun h => h) h)) lnil)))))
    (ins_ok [.fact 0 (.one (.s))] ⟨fun _ _ h => Rw.is (sz := 1) (F := (PRow zz ln k)) (n := n) h, trivial⟩) (fun _ _ _ h => h)

section
variable {Φ : Nat → World → Value → Prop} {p x n k c : Nat} {zz : Nat → Nat → Int} {ln : Nat → Nat} {L : List Int}
theorem sSumP (hp : ∀ w v, Φ p w v → Rw 1 (PRow zz ln k) n w v) (hx : Φ x = fun w v => Rw 2 (fun i w v => NorV w v (coef L i) (n * (k + 1))) L.length w v) (hn : n ≤ 1000) (hk : k ≤ 10000) (hnk : n * (k + 1) ≤ 100000) (hln : ∀ i, i < n → ln i ≤ 100000) (hL : sumP zz ln n = L) : SiteOk Φ Try.prog ⟨29, [.fact p], [⟨.one .s, [(0, 0, x)]⟩], false⟩ :=
  viaG (psum hn hk hnk hln) ⟨hp, trivial⟩ ⟨⟨rfl, ⟨rfl, rfl, fun _ _ h => hx ▸ hL ▸ h⟩, trivial⟩, trivial⟩
theorem sProdP (hp : ∀ w v, Φ p w v → Rw 1 (PRow zz ln k) n w v) (hx : Φ x = fun w v => Rw 2 (fun i w v => NorV w v (coef L i) (2 + n * (k + c + 1))) L.length w v) (hn : n ≤ 1000) (hk : k ≤ 10000) (hcc : c ≤ 1000) (hnk : n * (k + c + 1) ≤ 50000) (hln : ∀ i, i < n → ln i ≤ 100000) (hc : ∀ j, j < n → (prodP zz ln j).length ≤ c) (hL : prodP zz ln n = L) : SiteOk Φ Try.prog ⟨30, [.fact p], [⟨.one .s, [(0, 0, x)]⟩], false⟩ :=
  viaG (pprod hn hk hcc hnk hln hc) ⟨hp, trivial⟩ ⟨⟨rfl, ⟨rfl, rfl, fun _ _ h => hx ▸ hL ▸ h⟩, trivial⟩, trivial⟩
end
end Go.Proofs.Yteblgmjpociffaa.Sym
