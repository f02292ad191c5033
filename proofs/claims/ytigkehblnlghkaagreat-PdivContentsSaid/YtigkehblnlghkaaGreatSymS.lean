/- Contracts of chapter 2 and of the reference's whole numbers as calls of the symbolic walk. -/
import Derived.Test.YtigkehblnlghkaaGreatSymK
namespace Go.Proofs.YtigkehblnlghkaaGreat.Sym
open Go.RowKit
section
variable {Φ : Nat → World → Value → Prop}
theorem sMul {p q x i j : Nat} {z : Int} {y : Int} {t : Int} (hp : ∀ w v, Φ p w v → IntV w v z i) (hq : ∀ w v, Φ q w v → IntV w v y j) (hx : Φ x = fun w v => NorV w v t (i + j)) (hi : i + j ≤ 1000000) (ht : z * y = t) : SiteOk Φ Tryz.prog ⟨48, [.fact p, .fact q], [⟨iS, [(0, 0, x)]⟩], false⟩ :=
  site2 fun _ _ _ _ h0 h1 => (Mul_g (hp _ _ (get h0)) (hq _ _ (get h1)) hi ht).mono fun _ _ h => pstI hx h
theorem sNeg {p x i : Nat} {z : Int} {t : Int} (hp : ∀ w v, Φ p w v → IntV w v z i) (hx : Φ x = fun w v => NorV w v t i) (hi : i ≤ 1000000) (ht : -z = t) : SiteOk Φ Tryz.prog ⟨21, [.fact p], [⟨iS, [(0, 0, x)]⟩], false⟩ :=
  site1 fun _ _ _ h0 => (Neg_g (hp _ _ (get h0)) hi ht).mono fun _ _ h => pstI hx h
theorem sNorm {p x i : Nat} {z : Int} {t : Int} (hp : ∀ w v, Φ p w v → IntV w v z i) (hx : Φ x = fun w v => NorV w v t i) (hi : i ≤ 1000000) (ht : z = t) : SiteOk Φ Tryz.prog ⟨102, [.fact p], [⟨iS, [(0, 0, x)]⟩], false⟩ :=
  site1 fun _ _ _ h0 => (ht ▸ Norm_g (hp _ _ (get h0)) hi).mono fun _ _ h => pstI hx h
theorem sExact {p q x i j : Nat} {z : Int} {y : Int} {t : Int} (hp : ∀ w v, Φ p w v → IntV w v z i) (hq : ∀ w v, Φ q w v → IntV w v y j) (hx : Φ x = fun w v => NorV w v t i) (hi : i + j ≤ 900000) (h0' : y ≠ 0) (h1' : y ∣ z) (ht : z / y = t) : SiteOk Φ Tryz.prog ⟨97, [.fact p, .fact q], [⟨iS, [(0, 0, x)]⟩, ⟨.one (.lit (.ci .i64 0)), []⟩], true⟩ :=
  site2 fun _ _ _ _ h0 h1 => (Exact_g (hp _ _ (get h0)) (hq _ _ (get h1)) hi h0' h1' ht).mono fun _ _ h => pstIE hx h
theorem sOfJ {p x : Nat} {t z : Int} (hp : ∀ w v, Φ p w v → v = .int .i64 z) (hx : Φ x = fun w v => NorV w v t 2) (h1 : -9223372036854775808 ≤ z) (h2 : z ≤ 9223372036854775807) (ht : z = t) : SiteOk Φ Tryz.prog ⟨19, [.fact p], [⟨iS, [(0, 0, x)]⟩], false⟩ :=
  site1 fun _ w v h0 => by
    obtain rfl := hp _ _ (get h0)
    exact (Of_g z h1 h2 ht).mono fun _ _ h => pstI hx h
theorem pstJ {X : Nat → Prop} {w w' : World} {e : Ending} {x : Nat} {t : Int} (hx : Φ x = fun _ v => v = .int .i64 t) (h : e = .returned (.int .i64 t) ∧ w.grownBy w' none) : post Φ X [⟨.one .i, [(0, 0, x)]⟩] false w e w' := by
  obtain ⟨rfl, h2⟩ := h
  exact ⟨h2, [_], rfl, o1 (F := fun _ v => v = .int .i64 t) (fun _ _ _ _ h => h) hx ⟨⟨_, rfl⟩, fun _ h => by cases h⟩ rfl, trivial⟩
theorem sCmpJ {p q x i j : Nat} {z y t : Int} (hp : ∀ w v, Φ p w v → IntV w v z i) (hq : ∀ w v, Φ q w v → IntV w v y j) (hx : Φ x = fun _ v => v = .int .i64 t) (hi : i + j ≤ 1000000) (hr : cmpI z y = t) : SiteOk Φ Tryz.prog ⟨47, [.fact p, .fact q], [⟨.one .i, [(0, 0, x)]⟩], false⟩ :=
  site2 fun _ _ _ _ h0 h1 => (Cmp_i t (hp _ _ (get h0)) (hq _ _ (get h1)) hi hr).mono fun _ _ h => pstJ hx h
theorem sIZero {p i : Nat} {z : Int} {r : Bool} (hp : ∀ w v, Φ p w v → NorV w v z i) (hr : decide (z = 0) = r) : SiteOk Φ Tryz.prog ⟨36, [.fact p], [⟨.one (.lit (.cb r)), []⟩], false⟩ :=
  site1 fun _ _ _ h0 => (Zero_z r (hp _ _ (get h0)).1 hr).mono fun _ _ h => pstB h
theorem sOf {x : Nat} {t z : Int} (hx : Φ x = fun w v => NorV w v t 2) (h1 : -9223372036854775808 ≤ z) (h2 : z ≤ 9223372036854775807) (ht : z = t) : SiteOk Φ Tryz.prog ⟨19, [.lit (.ci .i64 z)], [⟨iS, [(0, 0, x)]⟩], false⟩ :=
  site1 fun _ w v h0 => by
    obtain rfl : v = .int .i64 z := h0
    exact (Of_g z h1 h2 ht).mono fun _ _ h => pstI hx h
theorem tMul {p q x i j : Nat} {z : Int} {y : Int} {t : Int} (hp : ∀ w v, Φ p w v → DecI w v z i) (hq : ∀ w v, Φ q w v → DecI w v y j) (hx : Φ x = fun w v => DecI w v t (i + j)) (hi : i + j ≤ 1000000) (ht : z * y = t) : SiteOk Φ Tryz.prog ⟨85, [.fact p, .fact q], [⟨dS, [(0, 0, x)]⟩], false⟩ :=
  site2 fun _ _ _ _ h0 h1 => (Mul_h (hp _ _ (get h0)) (hq _ _ (get h1)) hi ht).mono fun _ _ h => pstD hx h
theorem tNeg {p x i : Nat} {z : Int} {t : Int} (hp : ∀ w v, Φ p w v → DecI w v z i) (hx : Φ x = fun w v => DecI w v t i) (ht : -z = t) : SiteOk Φ Tryz.prog ⟨76, [.fact p], [⟨dS, [(0, 0, x)]⟩], false⟩ :=
  site1 fun _ _ _ h0 => (Neg_h (hp _ _ (get h0)) ht).mono fun _ _ h => pstD hx h
theorem tFrom {p x i : Nat} {z : Int} {t : Int} (hp : ∀ w v, Φ p w v → IntV w v z i) (hx : Φ x = fun w v => DecI w v t i) (hi : i ≤ 1000000) (ht : z = t) : SiteOk Φ Tryz.prog ⟨27, [.fact p], [⟨dS, [(0, 0, x)]⟩], false⟩ :=
  site1 fun _ _ _ h0 => (ht ▸ From_h (hp _ _ (get h0)) hi).mono fun _ _ h => pstD hx h
theorem tTo {p x i : Nat} {z : Int} {t : Int} (hp : ∀ w v, Φ p w v → DecI w v z i) (hx : Φ x = fun w v => NorV w v t i) (hi : i ≤ 1000000) (ht : z = t) : SiteOk Φ Tryz.prog ⟨81, [.fact p], [⟨iS, [(0, 0, x)]⟩], false⟩ :=
  site1 fun _ _ _ h0 => (ht ▸ To_h (hp _ _ (get h0)) hi).mono fun _ _ h => pstI hx h
theorem tZero {p i : Nat} {z : Int} {r : Bool} (hp : ∀ w v, Φ p w v → DecI w v z i) (hr : decide (z = 0) = r) : SiteOk Φ Tryz.prog ⟨75, [.fact p], [⟨.one (.lit (.cb r)), []⟩], false⟩ :=
  site1 fun _ _ _ h0 => (Zero_h (hp _ _ (get h0)) hr).mono fun _ _ h => pstB h
theorem tOf {x : Nat} {t z : Int} (hx : Φ x = fun w v => DecI w v t 2) (h1 : -9223372036854775808 ≤ z) (h2 : z ≤ 9223372036854775807) (ht : z = t) : SiteOk Φ Tryz.prog ⟨28, [.lit (.ci .i64 z)], [⟨dS, [(0, 0, x)]⟩], false⟩ :=
  site1 fun _ w v h0 => by
    obtain rfl : v = .int .i64 z := h0
    exact (Of_h z h1 h2 ht).mono fun _ _ h => pstD hx h
theorem tGcd {p q x i j : Nat} (k : Nat) {z y t : Int} (hp : ∀ w v, Φ p w v → DecI w v z i) (hq : ∀ w v, Φ q w v → DecI w v y j) (hx : Φ x = fun w v => DecI w v t k) (l0 : i ≤ k) (l1 : j ≤ k) (hk : k + k ≤ 1000000) (ht : (Int.gcd z y : Int) = t) : SiteOk Φ Tryz.prog ⟨30, [.fact p, .fact q], [⟨dS, [(0, 0, x)]⟩], false⟩ :=
  site2 fun _ _ _ _ h0 h1 => (Gcd_h k (hp _ _ (get h0)) (hq _ _ (get h1)) l0 l1 hk ht).mono fun _ _ h => pstD hx h
end
end Go.Proofs.YtigkehblnlghkaaGreat.Sym
