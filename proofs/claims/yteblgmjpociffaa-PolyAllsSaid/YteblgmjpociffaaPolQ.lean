/- Cut; a polynomial that came in. -/
import Derived.Test.YteblgmjpociffaaPolX
import Derived.Test.YteblgmjpociffaaRowRat
import Derived.Deep.Slices
namespace Go.Proofs.Yteblgmjpociffaa.Sym
open Go.RowKit Go.ChangeShapes Go.WideShapes Go.ChangeAt
def b_pcut5 (a : Nat → Bool) (xs : Nat → List Nat) (ez : Nat → Int) (n0 K m N : Nat) : List (World → Value → Prop) := [fun w v => Rw 2 (fun ι w v => RawI w v (a ι) (xs ι)) n0 w v, fun _ v => v = .int .i64 ((K : Nat) : Int), fun _ v => v = .int .i64 ((m : Nat) : Int), fun w v => Rw 2 (fun ι w v => KI w v (a ι) ((fun ι => (xs ι).take m) ι) (ez ι) m) N w v, fun w v => Rw 4 (fun ι w v => DecQ w v ((((coef (trimL (mk N ez))) ι : Int) : Rat)) (m + 2 + 2)) ((trimL (mk N ez)).length) w v]
def ss_pcut5 : List Step := [.base ⟨37, [.fact 0, .fact 1, .fact 2], [⟨.one (.s), [(0, 0, 3)]⟩], false⟩,
      .base ⟨38, [.fact 3], [⟨.one (.s), [(0, 0, 4)]⟩], false⟩]
def ins_pcut5 : List Out := [⟨.one (.s), [(0, 0, 0)]⟩, ⟨.one (.i), [(0, 0, 1)]⟩, ⟨.one (.i), [(0, 0, 2)]⟩]
set_option maxRecDepth 100000 in
theorem pcut5 {a : Nat → Bool} {xs : Nat → List Nat} {ez : Nat → Int} {n0 K m N : Nat} (hn : n0 ≤ 9223372036854775807) (hK : K ≤ 1000000) (hm : m ≤ 50000) (hz : ∀ j, sg (a j) (Proofs.Yteblgmjpociffaa.val 4294967296 ((xs j).take m)) = ez j) (hN : min n0 K = N) : SiteOk (ph (b_pcut5 a xs ez n0 K m N)) Try.prog ⟨6, [.fact 0, .fact 1, .fact 2], [⟨.one (.s), [(0, 0, 3)]⟩, ⟨.one (.s), [(0, 0, 4)]⟩], true⟩ := by
  skip
  exact fn_okL ins_pcut5 [⟨.one (.s), [(0, 0, 3)]⟩, ⟨.one (.s), [(0, 0, 4)]⟩] ss_pcut5 Try.func6 (by kernel_rfl)
    (lbase (sKPolyJ K m (fun _ _ h => h) (fun _ _ h => h) (fun _ _ h => h) rfl hn (by omega) hz hN)
      (lbase (sFromP (z := ez) (n := N) (L := (trimL (mk N ez))) (fun _ _ h => Rw.to (sz := 2) (n := N) (F := (fun ι w v => KI w v (a ι) ((fun ι => (xs ι).take m) ι) (ez ι) m)) (h) (fun i w v _ h => (fun _ _ _ h => And.right h) i w v h)) rfl (by omega) (by omega) rfl)
      lnil))
    (ins_ok [.fact 0 (.one (.s)), .fact 1 (.one (.i)), .fact 2 (.one (.i))] ⟨fun _ _ h => Rw.is (sz := 2) (F := (fun ι w v => RawI w v (a ι) (xs ι))) (n := n0) h, fun _ _ h => h ▸ int_is _, fun _ _ h => h ▸ int_is _, trivial⟩) (fun _ _ _ h => h)

section
variable {Φ : Nat → World → Value → Prop} {p x y n n0 : Nat} {z : Nat → Int}
theorem sCut5 {a : Nat → Bool} {xs : Nat → List Nat} {Ki mi : Int} (K m : Nat) (hKi : (K : Int) = Ki) (hmi : (m : Int) = mi) (hp : ∀ w v, Φ p w v → Rw 2 (fun i w v => RawI w v (a i) (xs i)) n0 w v) (hx : Φ x = fun w v => Rw 2 (fun i w v => KI w v (a i) ((xs i).take m) (z i) m) n w v) (hy : Φ y = fun w v => Rw 4 (fun i w v => DecQ w v ((coef (trimL (mk n z)) i : Int) : Rat) (m + 2 + 2)) (trimL (mk n z)).length w v)
    (hn : n0 ≤ 9223372036854775807) (hK : K ≤ 1000000) (hm : m ≤ 50000) (hz : ∀ j, sg (a j) (Proofs.Yteblgmjpociffaa.val 4294967296 ((xs j).take m)) = z j) (hN : min n0 K = n) :
    SiteOk Φ Try.prog ⟨6, [.fact p, .lit (.ci .i64 Ki), .lit (.ci .i64 mi)], [⟨.one .s, [(0, 0, x)]⟩, ⟨.one .s, [(0, 0, y)]⟩], true⟩ := by
  subst hKi
  subst hmi
  exact viaG (pcut5 hn hK hm hz hN) ⟨hp, fun _ => rfl, fun _ => rfl, trivial⟩ ⟨⟨rfl, ⟨rfl, rfl, fun _ _ h => hx ▸ h⟩, trivial⟩, ⟨rfl, ⟨rfl, rfl, fun _ _ h => hy ▸ h⟩, trivial⟩, trivial⟩
end
end Go.Proofs.Yteblgmjpociffaa.Sym
