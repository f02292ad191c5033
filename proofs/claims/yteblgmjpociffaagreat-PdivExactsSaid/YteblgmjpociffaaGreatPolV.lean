/- poly.Lead, and what poly.Move is made of: widened, narrowed, shift. -/
import Derived.Test.YteblgmjpociffaaGreatPolU
namespace Go.Proofs.YteblgmjpociffaaGreat.Sym
open Go.RowKit
def ldZ (z : Nat -> Int) (n : Nat) : Int := if tl z n = 0 then 0 else z (tl z n - 1)
def dto (m j : Nat) (f : Nat -> Int) (i : Nat) : Int := if m - j <= i ∧ i < m then f i else 0
theorem dto_zero {m i : Nat} {f : Nat -> Int} : dto m 0 f i = 0 := if_neg (by omega)
theorem dto_ne {m j i : Nat} {f : Nat -> Int} (hj : j < m) (h : i ≠ m - 1 - j) : dto m (j + 1) f i = dto m j f i := by
 unfold dto
 split <;> split <;> first | rfl | omega
structure IsShift (S : Nat -> Nat -> Int) (u : Int) (n : Nat) : Prop where
 low : ∀ j i, j < n -> i < j -> S (j + 1) i = S j i
 top : ∀ j, j < n -> S (j + 1) (n - 1) = S j (n - 1)
 step : ∀ j i, j <= i -> i + 1 < n -> S (j + 1) i = S j i + S (j + 1) (i + 1) * u
section
variable {S : Nat -> Nat -> Int} {u : Int} {n j i a : Nat}
end
def b_plead (z : Nat -> Int) (n k : Nat) : List (World -> Value -> Prop) := [fun w v => Rw 2 (fun ι w v => IntV w v (z ι) k) n w v, fun w v => Rw 2 (fun ι w v => IntV w v (z ι) k) (tl z n) w v, fun _ v => v = .int .i64 ((((tl z n) : Nat) : Int) - 1), fun _ v => v = .int .i64 (((tl z n - 1) : Nat) : Int), fun w v => IntV w v (ldZ z n) k, fun w v => NorV w v (ldZ z n) k]
def ss_plead : List Step := [.base ⟨53, [.fact 0], [⟨.one (.s), [(0, 0, 1)]⟩], false⟩,
   .base ⟨58, [.fact 1], [⟨.one (.i), [(0, 0, 2)]⟩], false⟩,
   .base ⟨0, [.fact 2, .lit (.ci .i64 0)], [⟨.one (.i), [(0, 0, 3)]⟩], .quiet (mMax .max)⟩,
   .base ⟨103, [.fact 1, .fact 3], [⟨.agg [.b, .s], [(0, 0, 4)]⟩], false⟩,
   .base ⟨102, [.fact 4], [⟨.agg [.b, .s], [(0, 0, 5)]⟩], false⟩]
def ins_plead : List Out := [⟨.one (.s), [(0, 0, 0)]⟩]
set_option maxRecDepth 100000 in
theorem plead {z : Nat -> Int} {n k : Nat} (hn : n <= 1000000) (hk : k <= 500000) : SiteOk (ph (b_plead z n k)) Tryz.prog ⟨45, [.fact 0], [⟨.agg [.b, .s], [(0, 0, 5)]⟩], false⟩ := by
 have hle := tl_le z n
 exact fn_okL ins_plead [⟨.agg [.b, .s], [(0, 0, 5)]⟩] ss_plead Tryz.func45 (by kernel_rfl)
  (lbase (sTrim (z := z) (n := n) (k := k) (F := (fun ι w v => IntV w v (z ι) k)) (fun _ _ h => h) (fun _ _ _ h => h) (fun _ _ _ _ g h => IntV.kp h g) rfl (by omega) (by omega))
   (lbase (sDeg (n := (tl z n)) (fun _ _ h => Rw.lenS (sz := 2) (F := (fun ι w v => IntV w v (z ι) k)) (n := (tl z n)) h) rfl (by omega) (rfl))
   (lbase (qMaxC (fun _ _ h => h) (by split <;> omega) rfl)
   (lbase (sCoef (z := z) (n := (tl z n)) (i := (tl z n - 1)) (fun _ _ h => Rw.to (sz := 2) (n := (tl z n)) (F := (fun ι w v => IntV w v (z ι) k)) (h) (fun i w v _ h => (fun _ _ _ h => h) i w v h)) (fun _ _ h => h) rfl (by omega) (fun h => (if_neg (by omega)).symm) (fun h => if_pos (by omega)))
   (lbase (sNorm iI rfl (by omega) rfl)
   lnil)))))
  (ins_ok [.fact 0 (.one (.s))] ⟨fun _ _ h => Rw.is (sz := 2) (F := (fun ι w v => IntV w v (z ι) k)) (n := n) h, trivial⟩) (fun _ _ _ h => h)
section
variable {Φ : Nat -> World -> Value -> Prop} {p q x n k : Nat} {z : Nat -> Int} {t : Int}
theorem sLead (hp : ∀ w v, Φ p w v -> Rw 2 (fun i w v => IntV w v (z i) k) n w v) (hx : Φ x = fun w v => NorV w v t k) (hn : n <= 1000000) (hk : k <= 500000) (ht : ldZ z n = t) : SiteOk Φ Tryz.prog ⟨45, [.fact p], [⟨iS, [(0, 0, x)]⟩], false⟩ :=
 viaG (plead hn hk) ⟨hp, trivial⟩ ⟨⟨rfl, ⟨rfl, rfl, fun _ _ h => hx ▸ ht ▸ h⟩, trivial⟩, trivial⟩
end
end Go.Proofs.YteblgmjpociffaaGreat.Sym
