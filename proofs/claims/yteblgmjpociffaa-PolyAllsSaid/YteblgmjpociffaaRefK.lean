/- What the laws of package limb need of the reference numbers. -/
import Derived.Test.YteblgmjpociffaaRefA
import Derived.Test.YteblgmjpociffaaRowKit
import Derived.Test.YteblgmjpociffaaLimbA
namespace Go.Proofs.Yteblgmjpociffaa
open Go.RowKit

/-- The slice v is the number X (below the base to the k) in digits to the base 10000. -/
def Dec (w : World) (v : Value) (X k : Nat) : Prop := Sl w .i64 v (dig 10000 X) ∧ Bd X k
theorem Dec.grown {w w' : World} {v : Value} {X k : Nat} (h : Dec w v X k) (g : w.grownBy w' none) : Dec w' v X k := ⟨h.1.grown g (.inl rfl), h.2⟩
theorem Dec.len {w : World} {v : Value} {X k : Nat} (h : Dec w v X k) : (dig 10000 X).length ≤ 3 * k := dec_len h.2
/-- A new number was handed back. -/
def MadeD (w : World) (X k : Nat) (e : Ending) (w' : World) : Prop := ∃ v, e = .returned v ∧ Own w' 3 .i64 w.heap.size v (dig 10000 X) ∧ Bd X k ∧ w.grownBy w' none
theorem MadeD.of {w : World} {X k : Nat} {e : Ending} {w' : World} (h : DecM w X e w') (hb : Bd X k) : MadeD w X k e w' := by
  obtain ⟨v, h1, h2, h3⟩ := h
  exact ⟨v, h1, h2, hb, h3⟩

section
variable {w : World} {v u : Value} {X Y i j : Nat}
theorem AddD_n (hx : Dec w v X i) (hy : Dec w u Y j) (hi : i + j ≤ 1000000) : Calls Try.prog 93 #[v, u] w (MadeD w (X + Y) (i + j + 1)) :=
  (RAdd hx.1 hy.1 (by have := hx.len; omega) (by have := hy.len; omega)).mono fun _ _ h => MadeD.of h (hx.2.add hy.2)
theorem SubD_n (hx : Dec w v X i) (hy : Dec w u Y j) (hi : i ≤ 1000000) (hle : Y ≤ X) : Calls Try.prog 95 #[v, u] w (MadeD w (X - Y) i) :=
  (RSub hx.1 hy.1 (by have := hx.len; omega) hle).mono fun _ _ h => MadeD.of h (hx.2.sub Y)
theorem MulD_n (hx : Dec w v X i) (hy : Dec w u Y j) (hi : i + j ≤ 1000000) : Calls Try.prog 96 #[v, u] w (MadeD w (X * Y) (i + j)) :=
  (RMul hx.1 hy.1 (by have := hx.len; omega) (by have := hy.len; omega)).mono fun _ _ h => MadeD.of h (hx.2.mul hy.2)
/-- What a division of such numbers hands back. -/
def DivD (w : World) (Q R i : Nat) (e : Ending) (w' : World) : Prop := ∃ v u, e = .returned (.tuple #[v, u]) ∧ Own w' 3 .i64 w.heap.size v (dig 10000 Q) ∧ Own w' 3 .i64 w.heap.size u (dig 10000 R) ∧ Bd Q i ∧ Bd R i ∧ w.grownBy w' none
theorem DivD_n (hx : Dec w v X i) (hy : Dec w u Y j) (hi : i + j ≤ 1000000) (hY : 0 < Y) : Calls Try.prog 86 #[v, u] w (DivD w (X / Y) (X % Y) i) :=
  (RDiv hx.1 hy.1 (by have := hx.len; omega) (by have := hy.len; omega) hY).mono fun _ _ ⟨a, b, h1, h2, h3, h4⟩ => ⟨a, b, h1, h2, h3, hx.2.div Y, hx.2.mod Y, h4⟩
theorem pow_bd {n k : Nat} (h : n < 32 * k) : Bd (2 ^ n) k := by
  unfold Bd
  rw [show (4294967296 : Nat) = 2 ^ 32 from rfl, ← Nat.pow_mul]
  exact Nat.pow_lt_pow_right (by omega) h
theorem PowD_n (n k : Nat) (hn : n ≤ 1000000) (hk : n < 32 * k) : Calls Try.prog 66 #[.int .i64 n] w (MadeD w (2 ^ n) k) :=
  (RPow n w hn).mono fun _ _ h => MadeD.of h (pow_bd hk)
theorem CmpD_n (hx : Dec w v X i) (hy : Dec w u Y j) : Calls Try.prog 94 #[v, u] w fun e w' => e = .returned (.int .i64 (cmpN X Y)) ∧ w.grownBy w' none :=
  (RCmp hx.1 hy.1).mono fun _ _ ⟨h, n, hw⟩ => ⟨h, by rw [hw]; exact grown_drewN _ _ _⟩
end

end Go.Proofs.Yteblgmjpociffaa
