/- What the laws of package limb need of the reference numbers. -/
import Derived.Test.YtkebkdmdhhpinaaRefI
import Derived.Test.YtkebkdmdhhpinaaRowKit
import Derived.Test.YtkebkdmdhhpinaaWakes
namespace Go.Proofs.Ytkebkdmdhhpinaa
open Go.RowKit

/-- The slice v is the number X (below the base to the k) in digits to the base 10000. -/
def Dec (w : World) (v : Value) (X k : Nat) : Prop := Sl w .i64 v (dig 10000 X) ∧ Bd X k
theorem Dec.grown {w w' : World} {v : Value} {X k : Nat} (h : Dec w v X k) (g : w.grownBy w' none) : Dec w' v X k := ⟨h.1.grown g (.inl rfl), h.2⟩
theorem Dec.len {w : World} {v : Value} {X k : Nat} (h : Dec w v X k) : (dig 10000 X).length ≤ 3 * k := dec_len h.2
/-- A new number was handed back. -/
def MadeD (w : World) (X k : Nat) (e : Ending) (w' : World) : Prop := ∃ v, e = .returned v ∧ Own w' 3 .i64 w.heap.size v (dig 10000 X) ∧ Bd X k ∧ w.grownBy w' none
theorem MadeD.of {w : World} {X k : Nat} {e : Ending} {w' : World} (h : DecM w X e w') (hb : Bd X k) : MadeD w X k e w' := by
  obtain ⟨v, h1, h2, h3⟩ := h
  exact ⟨v, h1, h2, hb, h3⟩

section
variable {w : World} {v u : Value} {X Y i j : Nat}
theorem From_n {xs : List Nat} (k : Nat) (hx : Sl w .u32 v xs) (ax : All 4294967296 xs) (hl : xs.length ≤ k) (hk : k ≤ 1000000) :
    Calls Try.prog 15 #[v] w (MadeD w (val 4294967296 xs) k) := by
  have Hx := Lib.hid hx
  have Ax := Lib.hid ax
  have Hb := Lib.hid (Bd.of ax hl)
  clear hx ax
  go_enter Try.func15, Try.ntmps15
  go_wp2_with fail
  refine (RFrom Hx.out Ax.out (by omega)).mono ?_
  rintro e w' h
  obtain ⟨v', rfl, h2, h3⟩ := h
  go_wp2_with fail
  go_ret
  exact ⟨_, rfl, h2, Hb.out, h3⟩
theorem Is_n {k : Nat} (hv : Dec w v X k) (hk : k ≤ 1000000) (hu : Sl w .u32 u (dig 4294967296 X)) :
    Calls Try.prog 19 #[v, u] w (Bool_ w true) := by
  have Hv := Lib.hid hv
  have Hu := Lib.hid hu
  clear hv hu
  go_enter Try.func19, Try.ntmps19
  go_wp2_with fail
  refine (RTo Hv.out.1 (by have := Hv.out.len; omega)).mono ?_
  rintro e w1 ⟨v1, rfl, h1, g1⟩
  have H1 := Lib.hid h1
  have Hu1 := Lib.hid (Hu.out.grown g1 (.inl rfl))
  have G1 := Lib.hid g1
  clear h1 g1
  go_wp2_with fail
  refine (Same_b H1.out.sl Hu1.out).mono ?_
  rintro e w2 ⟨rfl, g2⟩
  have G2 := Lib.hid (grown_trans G1.out g2)
  clear g2
  rw [eqB_self]
  go_wp2_with fail
  go_ret
  exact ⟨rfl, G2.out⟩
theorem AddD_n (hx : Dec w v X i) (hy : Dec w u Y j) (hi : i + j ≤ 1000000) : Calls Try.prog 20 #[v, u] w (MadeD w (X + Y) (i + j + 1)) :=
  (RAdd hx.1 hy.1 (by have := hx.len; omega) (by have := hy.len; omega)).mono fun _ _ h => MadeD.of h (hx.2.add hy.2)
theorem SubD_n (hx : Dec w v X i) (hy : Dec w u Y j) (hi : i ≤ 1000000) (hle : Y ≤ X) : Calls Try.prog 22 #[v, u] w (MadeD w (X - Y) i) :=
  (RSub hx.1 hy.1 (by have := hx.len; omega) hle).mono fun _ _ h => MadeD.of h (hx.2.sub Y)
theorem MulD_n (hx : Dec w v X i) (hy : Dec w u Y j) (hi : i + j ≤ 1000000) : Calls Try.prog 28 #[v, u] w (MadeD w (X * Y) (i + j)) :=
  (RMul hx.1 hy.1 (by have := hx.len; omega) (by have := hy.len; omega)).mono fun _ _ h => MadeD.of h (hx.2.mul hy.2)
/-- What a division of such numbers hands back. -/
def DivD (w : World) (Q R i : Nat) (e : Ending) (w' : World) : Prop := ∃ v u, e = .returned (.tuple #[v, u]) ∧ Dec w' v Q i ∧ Dec w' u R i ∧ w.grownBy w' none
theorem DivD_n (hx : Dec w v X i) (hy : Dec w u Y j) (hi : i + j ≤ 1000000) (hY : 0 < Y) : Calls Try.prog 30 #[v, u] w (DivD w (X / Y) (X % Y) i) :=
  (RDiv hx.1 hy.1 (by have := hx.len; omega) (by have := hy.len; omega) hY).mono fun _ _ ⟨a, b, h1, h2, h3, h4⟩ => ⟨a, b, h1, ⟨h2, hx.2.div Y⟩, ⟨h3, hx.2.mod Y⟩, h4⟩
theorem pow_bd {n k : Nat} (h : n < 32 * k) : Bd (2 ^ n) k := by
  unfold Bd
  rw [show (4294967296 : Nat) = 2 ^ 32 from rfl, ← Nat.pow_mul]
  exact Nat.pow_lt_pow_right (by omega) h
theorem PowD_n (n k : Nat) (hn : n ≤ 1000000) (hk : n < 32 * k) : Calls Try.prog 32 #[.int .i64 n] w (MadeD w (2 ^ n) k) :=
  (RPow n w hn).mono fun _ _ h => MadeD.of h (pow_bd hk)
theorem BitsD_n (hx : Dec w v X i) (hi : i ≤ 1000000) : Calls Try.prog 36 #[v] w fun e w' => e = .returned (.int .i64 ((dig 2 X).length : Nat)) ∧ w.grownBy w' none :=
  RBits hx.1 (by have := hx.len; omega)
theorem CmpD_n (hx : Dec w v X i) (hy : Dec w u Y j) : Calls Try.prog 18 #[v, u] w fun e w' => e = .returned (.int .i64 (cmpN X Y)) ∧ w.grownBy w' none :=
  (RCmp hx.1 hy.1).mono fun _ _ ⟨h, n, hw⟩ => ⟨h, by rw [hw]; exact grown_drewN _ _ _⟩
end

end Go.Proofs.Ytkebkdmdhhpinaa
