/- Layer 6's example. -/
import Derived.Test.YteblgmjpociffaaGreatDivC
import Derived.Test.YteblgmjpociffaaGreatDivP
namespace Go.Proofs.YteblgmjpociffaaGreat.Sym
open Go.RowKit
theorem red_bd {z y : Nat -> Int} {n m kz ky K : Nat} {c : Int} (hz : ∀ p, Bd (z p).natAbs kz) (hy : ∀ p, Bd (y p).natAbs ky) (hc : Bd c.natAbs ky) (hK : kz + 1 + m * (ky + 1) <= K) : (∀ j p, j < m -> Bd (rA1 z y n m c j p).natAbs K) ∧ ∀ j i p, j < m -> Bd (rMid z y n m c j i p).natAbs K := by
 have h2 : ∀ j, j <= m -> j * (ky + 1) <= m * (ky + 1) := fun j hj => Nat.mul_le_mul_right _ hj
 refine ⟨fun j p hj => ?_, fun j i p hj => ?_⟩
 ·have h1 := ((rdA_bd (n := n) hz hy hc (Nat.le_of_lt hj)).2 hj).1 p
  exact h1.more (by have := h2 j (by omega); omega)
 ·have h1 := ((rdA_bd (n := n) hz hy hc (Nat.le_of_lt hj)).2 hj).2 i p
  exact h1.more (by have := h2 (j + 1) (by omega); omega)
theorem coef_small {L : List Int} (h : ∀ x, x ∈ L -> -9223372036854775808 <= x ∧ x <= 9223372036854775807) (i : Nat) : -9223372036854775808 <= coef L i ∧ coef L i <= 9223372036854775807 := by
 unfold coef
 rw [List.getD_eq_getElem?_getD]
 cases hi : L[i]? with
 | none => simp
 | some x => exact h x (List.mem_of_getElem? hi)
theorem coef_bd1 {L : List Int} (h : ∀ x, x ∈ L -> x.natAbs < 4294967296) (i : Nat) : Bd (coef L i).natAbs 1 := by
 unfold coef
 rw [List.getD_eq_getElem?_getD]
 cases hi : L[i]? with
 | none => show 0 < _; omega
 | some x => show _ < 4294967296 ^ 1; have := h x (List.mem_of_getElem? hi); simpa using this
section
variable {Φ : Nat -> World -> Value -> Prop} {a b c : Nat} {x y z : Int}
theorem rowI1 (h : ∀ w v, Φ a w v -> v = .int .i64 x) : ∀ (i p : Nat), [a][i]? = some p -> ∀ w v, Φ p w v -> v.cells.size = 1 ∧ (fun i _ v => v = .agg #[.int .i64 (coef [x] i)] : Nat -> World -> Value -> Prop) i w (.agg v.cells)
 | 0, p, hp, w, v, hv => by
  simp only [List.getElem?_cons_zero, Option.some.injEq] at hp
  subst hp
  rw [h w v hv]; exact ⟨rfl, rfl⟩
 | i + 1, p, hp, _, _, _ => by simp at hp
theorem rowI2 (h : ∀ w v, Φ a w v -> v = .int .i64 x) (h' : ∀ w v, Φ b w v -> v = .int .i64 y) : ∀ (i p : Nat), [a, b][i]? = some p -> ∀ w v, Φ p w v -> v.cells.size = 1 ∧ (fun i _ v => v = .agg #[.int .i64 (coef [x, y] i)] : Nat -> World -> Value -> Prop) i w (.agg v.cells)
 | 0, p, hp, w, v, hv => by
  simp only [List.getElem?_cons_zero, Option.some.injEq] at hp
  subst hp
  rw [h w v hv]; exact ⟨rfl, rfl⟩
 | 1, p, hp, w, v, hv => by
  simp only [List.getElem?_cons_succ, List.getElem?_cons_zero, Option.some.injEq] at hp
  subst hp
  rw [h' w v hv]; exact ⟨rfl, rfl⟩
 | i + 2, p, hp, _, _, _ => by simp at hp
theorem rowI3 (h : ∀ w v, Φ a w v -> v = .int .i64 x) (h' : ∀ w v, Φ b w v -> v = .int .i64 y) (h'' : ∀ w v, Φ c w v -> v = .int .i64 z) : ∀ (i p : Nat), [a, b, c][i]? = some p -> ∀ w v, Φ p w v -> v.cells.size = 1 ∧ (fun i _ v => v = .agg #[.int .i64 (coef [x, y, z] i)] : Nat -> World -> Value -> Prop) i w (.agg v.cells)
 | 0, p, hp, w, v, hv => by
  simp only [List.getElem?_cons_zero, Option.some.injEq] at hp
  subst hp
  rw [h w v hv]; exact ⟨rfl, rfl⟩
 | 1, p, hp, w, v, hv => by
  simp only [List.getElem?_cons_succ, List.getElem?_cons_zero, Option.some.injEq] at hp
  subst hp
  rw [h' w v hv]; exact ⟨rfl, rfl⟩
 | 2, p, hp, w, v, hv => by
  simp only [List.getElem?_cons_succ, List.getElem?_cons_zero, Option.some.injEq] at hp
  subst hp
  rw [h'' w v hv]; exact ⟨rfl, rfl⟩
 | i + 3, p, hp, _, _, _ => by simp at hp
end
def b_pis6 (z : Nat -> Int) (n k kq : Nat) : List (World -> Value -> Prop) := [fun w v => Rw 4 (fun ι w v => DecQ w v (((z ι : Int) : Rat)) kq) n w v, fun w v => Rw 2 (fun ι w v => NorV w v (z ι) k) n w v]
def ss_pis6 : List Step := [.base ⟨92, [.fact 0, .fact 1], [⟨.one (.lit (.cb true)), []⟩], false⟩]
def ins_pis6 : List Out := [⟨.one (.s), [(0, 0, 0)]⟩, ⟨.one (.s), [(0, 0, 1)]⟩]
set_option maxRecDepth 100000 in
theorem pis6 {z : Nat -> Int} {n k kq : Nat} (hn : n <= 1000000) (hkq : kq <= 500000) (hk : k <= 500000) : SiteOk (ph (b_pis6 z n k kq)) Tryz.prog ⟨35, [.fact 0, .fact 1], [⟨.one (.lit (.cb true)), []⟩], false⟩ := by
 skip
 exact fn_okL ins_pis6 [⟨.one (.lit (.cb true)), []⟩] ss_pis6 Tryz.func35 (by kernel_rfl)
  (lbase (sSameP (z := z) (n := n) (k := k) (kq := kq) (fun _ _ h => h) (fun _ _ h => h) (by omega) (by omega) (by omega))
   lnil)
  (ins_ok [.fact 0 (.one (.s)), .fact 1 (.one (.s))] ⟨fun _ _ h => Rw.is (sz := 4) (F := (fun ι w v => DecQ w v (((z ι : Int) : Rat)) kq)) (n := n) h, fun _ _ h => Rw.is (sz := 2) (F := (fun ι w v => NorV w v (z ι) k)) (n := n) h, trivial⟩) (fun _ _ _ h => h)
section
variable {Φ : Nat -> World -> Value -> Prop} {p q x n k kq : Nat} {z : Nat -> Int}
theorem sIs6 (hp : ∀ w v, Φ p w v -> Rw 4 (fun i w v => DecQ w v ((z i : Int) : Rat) kq) n w v) (hq : ∀ w v, Φ q w v -> Rw 2 (fun i w v => NorV w v (z i) k) n w v) (hn : n <= 1000000) (hkq : kq <= 500000) (hk : k <= 500000) : SiteOk Φ Tryz.prog ⟨35, [.fact p, .fact q], [⟨.one (.lit (.cb true)), []⟩], false⟩ :=
 viaG (pis6 hn hkq hk) ⟨hp, hq, trivial⟩ ⟨⟨rfl, trivial⟩, trivial⟩
theorem sRestW (hp : ∀ w v, Φ p w v -> Rw 2 (fun i w v => IntV w v (coef [0, 0, 1] i) 2) 3 w v) (hq : ∀ w v, Φ q w v -> Rw 2 (fun i w v => IntV w v (coef [-1, 2] i) 2) 2 w v) (hx : Φ x = fun w v => Rw 2 (fun i w v => NorV w v (coef [1] i) 20) 1 w v) : SiteOk Φ Tryz.prog ⟨43, [.fact p, .fact q], [⟨.one .s, [(0, 0, x)]⟩, ⟨.one (.lit (.ci .i64 0)), []⟩], true⟩ := by
 have hb := red_bd (z := coef [0, 0, 1]) (y := coef [-1, 2]) (n := 1) (m := 2) (kz := 1) (ky := 1) (K := 20) (c := 2) (coef_bd1 (by decide)) (coef_bd1 (by decide)) (by show 2 < 4294967296 ^ 1; omega) (by omega)
 exact viaG (prest (z0 := coef [0, 0, 1]) (z1 := coef [-1, 2]) (n0 := 3) (n1 := 2) (k := 2) (k1 := 2) (nb := 1) (m := 2) (kp := 3) (K := 20) (c := 2) (Z := [0, 0, 1]) (P := [-1, 2]) (L2 := [1]) (R := [1]) (by omega) (by omega) (by omega) (by omega) (by omega) (by decide +kernel) rfl (by omega) (by decide +kernel) (by decide) (by decide) (by omega) (by omega) (by decide +kernel) (fun j hj => by
   rw [Int.natAbs_pow]
   exact (Bd.powD (show Bd (2 : Int).natAbs 1 by show 2 < 4294967296 ^ 1; omega) j).more (by omega)) hb.1 hb.2 (by decide +kernel) (by decide) (by decide +kernel)) ⟨hp, hq, trivial⟩ ⟨⟨rfl, ⟨rfl, rfl, fun _ _ h => hx ▸ h⟩, trivial⟩, ⟨rfl, trivial⟩, trivial⟩
end
def b_wakes6  : List (World -> Value -> Prop) := [fun _ v => v = .int .i64 (0), fun _ v => v = .int .i64 (1), fun w v => Rw 1 (fun i _ v => v = .agg #[.int .i64 (coef [0, 0, 1] i)]) 3 w v, fun w v => Rw 2 (fun ι w v => NorV w v ((coef ([0, 0, 1])) ι) 2) 3 w v, fun _ v => v = .int .i64 (-1), fun _ v => v = .int .i64 (2), fun w v => Rw 1 (fun i _ v => v = .agg #[.int .i64 (coef [-1, 2] i)]) 2 w v, fun w v => Rw 2 (fun ι w v => NorV w v ((coef ([-1, 2])) ι) 2) 2 w v, fun w v => Rw 2 (fun ι w v => NorV w v ((coef [1]) ι) 20) 1 w v, fun w v => Rw 1 (fun i _ v => v = .agg #[.int .i64 (coef [1] i)]) 1 w v, fun w v => Rw 4 (fun ι w v => DecQ w v ((((coef ([1])) ι : Int) : Rat)) 6) 1 w v]
def ss_wakes6 : List Step := [.derive (.one (.ci .i64 0)) (.one (.lit (.ci .i64 0))) [] 0,
   .derive (.one (.ci .i64 1)) (.one (.lit (.ci .i64 1))) [] 1,
   .derive (.one (.ci .i64 (-1))) (.one (.lit (.ci .i64 (-1)))) [] 4,
   .derive (.one (.ci .i64 2)) (.one (.lit (.ci .i64 2))) [] 5,
   .base ⟨0, [.any, .fact 0, .fact 0, .fact 1], [⟨.one (.s), [(0, 0, 2)]⟩], .fresh [] (mRow 48 3)⟩,
   .base ⟨70, [.fact 2], [⟨.one (.s), [(0, 0, 3)]⟩], false⟩,
   .base ⟨0, [.any, .fact 4, .fact 5], [⟨.one (.s), [(0, 0, 6)]⟩], .fresh [] (mRow 48 2)⟩,
   .base ⟨70, [.fact 6], [⟨.one (.s), [(0, 0, 7)]⟩], false⟩,
   .base ⟨43, [.fact 3, .fact 7], [⟨.one (.s), [(0, 0, 8)]⟩, ⟨.one (.lit (.ci .i64 0)), []⟩], true⟩,
   .base ⟨0, [.any, .fact 1], [⟨.one (.s), [(0, 0, 9)]⟩], .fresh [] (mRow 48 1)⟩,
   .base ⟨72, [.fact 9], [⟨.one (.s), [(0, 0, 10)]⟩], false⟩,
   .base ⟨35, [.fact 10, .fact 8], [⟨.one (.lit (.cb true)), []⟩], false⟩]
def ins_wakes6 : List Out := []
set_option maxRecDepth 100000 in
theorem wakes6   : SiteOk (ph (b_wakes6 )) Tryz.prog ⟨37, [], [⟨.one (.lit (.cb true)), []⟩], false⟩ := by
 skip
 exact fn_okL ins_wakes6 [⟨.one (.lit (.cb true)), []⟩] ss_wakes6 Tryz.func37 (by kernel_rfl)
  (lderive (deriveZ rfl)
   (lderive (deriveZ rfl)
   (lderive (deriveZ rfl)
   (lderive (deriveZ rfl)
   (lbase (qRowN (ps := [0, 0, 1]) (sz := 1) (n := 3) (F := (fun i _ v => v = .agg #[.int .i64 (coef [0, 0, 1] i)])) (zc := .one (.ci .i64 0)) Tryz.underlying48 (by kernel_rfl) (by omega) (by kernel_rfl) (by omega) (by omega) rfl (rowI3 (fun _ _ h => h) (fun _ _ h => h) (fun _ _ h => h)) rfl)
   (lbase (sPOf (z := coef [0, 0, 1]) (n := 3) (zs := [0, 0, 1]) (fun _ _ h => h) rfl (by omega) (coef_small (by decide)) (by decide))
   (lbase (qRowN (ps := [4, 5]) (sz := 1) (n := 2) (F := (fun i _ v => v = .agg #[.int .i64 (coef [-1, 2] i)])) (zc := .one (.ci .i64 0)) Tryz.underlying48 (by kernel_rfl) (by omega) (by kernel_rfl) (by omega) (by omega) rfl (rowI2 (fun _ _ h => h) (fun _ _ h => h)) rfl)
   (lbase (sPOf (z := coef [-1, 2]) (n := 2) (zs := [-1, 2]) (fun _ _ h => h) rfl (by omega) (coef_small (by decide)) (by decide))
   (lbase (sRestW (fun _ _ h => Rw.to (sz := 2) (n := 3) (F := (fun ι w v => NorV w v ((coef ([0, 0, 1])) ι) 2)) (h) (fun i w v _ h => (fun _ _ _ h => NorV.i h) i w v h)) (fun _ _ h => Rw.to (sz := 2) (n := 2) (F := (fun ι w v => NorV w v ((coef ([-1, 2])) ι) 2)) (h) (fun i w v _ h => (fun _ _ _ h => NorV.i h) i w v h)) rfl)
   (lbase (qRowN (ps := [1]) (sz := 1) (n := 1) (F := (fun i _ v => v = .agg #[.int .i64 (coef [1] i)])) (zc := .one (.ci .i64 0)) Tryz.underlying48 (by kernel_rfl) (by omega) (by kernel_rfl) (by omega) (by omega) rfl (rowI1 (fun _ _ h => h)) rfl)
   (lbase (sPROf (z := coef [1]) (n := 1) (L := [1]) (fun _ _ h => h) rfl (by omega) (coef_small (by decide)) (by decide))
   (lbase (sIs6 (z := (coef [1])) (n := 1) (k := 20) (kq := 6) (fun _ _ h => h) (fun _ _ h => h) (by omega) (by omega) (by omega))
   lnil))))))))))))
  (ins_ok [] trivial) (fun _ _ _ h => h)
theorem sWakes6 {Φ : Nat -> World -> Value -> Prop} : SiteOk Φ Tryz.prog ⟨37, [], [⟨.one (.lit (.cb true)), []⟩], false⟩ := viaG wakes6 trivial ⟨⟨rfl, trivial⟩, trivial⟩
end Go.Proofs.YteblgmjpociffaaGreat.Sym
