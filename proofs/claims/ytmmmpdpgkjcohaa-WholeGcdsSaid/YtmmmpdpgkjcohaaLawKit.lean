/- What the laws of layer 1 share: bounds on numbers by limbs; Within. -/
import Derived.Test.YtmmmpdpgkjcohaaLimbP
import Derived.Test.YtmmmpdpgkjcohaaWakes
namespace Go.Proofs.Ytmmmpdpgkjcohaa
open Go.RowKit

/-- A fits into i limbs. -/
def Bd (A i : Nat) : Prop := A < 4294967296 ^ i
theorem Bd.of {xs : List Nat} {i : Nat} (h : All 4294967296 xs) (hl : xs.length ≤ i) : Bd (val 4294967296 xs) i :=
  Nat.lt_of_lt_of_le (val_lt h) (Nat.pow_le_pow_right (by omega) hl)
theorem Bd.row (xs : List Nat) (h : All 4294967296 xs) (i : Nat) : Bd (val 4294967296 (xs.take i)) i := Bd.of (h.take i) (by rw [List.length_take]; omega)
theorem Bd.len {A i : Nat} (h : Bd A i) : (dig 4294967296 A).length ≤ i := dig_len_le (by omega) i A h
theorem Bd.more {A i j : Nat} (h : Bd A i) (hj : i ≤ j) : Bd A j := Nat.lt_of_lt_of_le h (Nat.pow_le_pow_right (by omega) hj)
theorem Bd.le {A B i : Nat} (h : Bd A i) (hB : B ≤ A) : Bd B i := Nat.lt_of_le_of_lt hB h
theorem Bd.mul {A B i j : Nat} (h : Bd A i) (k : Bd B j) : Bd (A * B) (i + j) := by
  unfold Bd at *
  rw [Nat.pow_add]
  exact Nat.mul_lt_mul_of_le_of_lt (Nat.le_of_lt h) k (by omega)
theorem Bd.add {A B i j : Nat} (h : Bd A i) (k : Bd B j) : Bd (A + B) (i + j + 1) := by
  have h1 := h.more (show i ≤ i + j by omega)
  have h2 := k.more (show j ≤ i + j by omega)
  unfold Bd at *
  rw [Nat.pow_succ]
  omega
theorem Bd.shl {A i s k : Nat} (h : Bd A i) (hs : s ≤ 32 * k) : Bd (A * 2 ^ s) (i + k) := by
  unfold Bd at *
  rw [Nat.pow_add]
  have : (2 : Nat) ^ s ≤ 4294967296 ^ k := by
    rw [show 4294967296 = 2 ^ 32 by rfl, ← Nat.pow_mul]
    exact Nat.pow_le_pow_right (by omega) hs
  have hp : 0 < (2 : Nat) ^ s := Nat.pow_pos (by omega)
  exact Nat.lt_of_lt_of_le (Nat.mul_lt_mul_of_pos_right h hp) (Nat.mul_le_mul_left _ this)
theorem Bd.div {A i : Nat} (h : Bd A i) (B : Nat) : Bd (A / B) i := h.le (Nat.div_le_self _ _)
theorem Bd.mod {A i : Nat} (h : Bd A i) (B : Nat) : Bd (A % B) i := h.le (Nat.mod_le _ _)
theorem Bd.sub {A i : Nat} (h : Bd A i) (B : Nat) : Bd (A - B) i := h.le (Nat.sub_le _ _)
theorem bd_len {xs : List Nat} {i : Nat} : (xs.take i).length ≤ i := by rw [List.length_take]; omega

/-- A number from 0 to n - 1 was handed back. -/
def Below_ (w : World) (n : Nat) (e : Ending) (w' : World) : Prop := ∃ k : Nat, k < n ∧ e = .returned (.int .i64 k) ∧ w = w'
/-- Within: any number as one from 0 to n - 1. -/
theorem Within_any (v : Int) (n : Nat) (w : World) (hn : 1 ≤ n) (hn2 : n ≤ 1000000) :
    Calls Try.prog 36 #[.int .i64 v, .int .i64 n] w (Below_ w n) := by
  have h1 : ¬ (n : Int) < 1 := by omega
  have h2 : (1 : Int) ≤ (n : Int) := by omega
  have t := Int.tmod_lt_of_pos v (show (0 : Int) < n by omega)
  have t2 : -(n : Int) < v.tmod n := by
    rcases Int.le_total 0 v with h | h
    · have := Int.tmod_nonneg (b := (n : Int)) h; omega
    · have e := Int.neg_tmod (a := -v) (b := (n : Int))
      rw [Int.neg_neg] at e
      have := Int.tmod_lt_of_pos (-v) (show (0 : Int) < n by omega)
      omega
  by_cases hk : v.tmod n < 0
  · go_enter Try.func36, Try.ntmps36
    go_wp2
    go_ret
    exact ⟨(v.tmod n + n).toNat, by omega, ret_int (by omega), rfl⟩
  · go_enter Try.func36, Try.ntmps36
    go_wp2
    go_ret
    exact ⟨(v.tmod n).toNat, by omega, ret_int (by omega), rfl⟩

/-- The slice v is the number X, of at most k limbs. -/
def Num (w : World) (v : Value) (X k : Nat) : Prop := ∃ xs, Sl w .u32 v xs ∧ All 4294967296 xs ∧ val 4294967296 xs = X ∧ xs.length ≤ k
/-- .. in the form of a result. -/
def NumC (w : World) (v : Value) (X k : Nat) : Prop := Sl w .u32 v (dig 4294967296 X) ∧ Bd X k
theorem NumC.num {w : World} {v : Value} {X k : Nat} (h : NumC w v X k) : Num w v X k := ⟨_, h.1, dig_all (by omega) _, val_dig (by omega) _, h.2.len⟩
theorem Num.grown {w w' : World} {v : Value} {X k : Nat} (h : Num w v X k) (g : w.grownBy w' none) : Num w' v X k := by
  obtain ⟨xs, h1, h2⟩ := h
  exact ⟨xs, h1.grown g (.inl rfl), h2⟩
theorem NumC.grown {w w' : World} {v : Value} {X k : Nat} (h : NumC w v X k) (g : w.grownBy w' none) : NumC w' v X k := ⟨h.1.grown g (.inl rfl), h.2⟩
theorem Num.bd {w : World} {v : Value} {X k : Nat} (h : Num w v X k) : Bd X k := by
  obtain ⟨xs, _, h2, rfl, h4⟩ := h
  exact Bd.of h2 h4
theorem Num.slice {w : World} {v : Value} {X k : Nat} (h : Num w v X k) : ∃ p n cap, v = .slice p n cap := by
  obtain ⟨xs, ⟨p, cap, rfl, _⟩, _⟩ := h
  exact ⟨p, _, cap, rfl⟩
theorem NumC.sliceC {w : World} {v : Value} {X k : Nat} (h : NumC w v X k) : ∃ p cap, v = .slice p (dig 4294967296 X).length cap := by
  obtain ⟨⟨p, cap, rfl, _⟩, _⟩ := h
  exact ⟨p, cap, rfl⟩
theorem Num.row {w : World} {v : Value} {xs : List Nat} (h : Sl w .u32 v xs) (a : All 4294967296 xs) (k : Nat) (hl : xs.length ≤ k) : Num w v (val 4294967296 xs) k := ⟨xs, h, a, rfl, hl⟩
theorem Num.lit (w : World) (x : Nat) (hx : x < 4294967296) : Num (w.alloc (.cells #[.int .u32 x] 65)) (.slice (some ⟨w.heap.size, 0, none⟩) 1 1) x 1 :=
  ⟨[x], (Own.one w .u32 65 x).sl, All.cons hx (All.nil _), by simp [val], Nat.le_refl _⟩

theorem Num.one (w : World) : Num (w.alloc (.cells #[.int .u32 1] 65)) (.slice (some ⟨w.heap.size, 0, none⟩) 1 1) 1 1 := Num.lit w 1 (by omega)
theorem wf_lo {n : Int} (h : (Lit.int .i64 n).wf = true) : -9223372036854775808 ≤ n := by
  have : -9223372036854775808 ≤ n ∧ n ≤ 9223372036854775807 := by simpa [Lit.wf, IntKind.min, IntKind.max, IntKind.signed, IntKind.bits] using h
  exact this.1
theorem wf_hi {n : Int} (h : (Lit.int .i64 n).wf = true) : n ≤ 9223372036854775807 := by
  have : -9223372036854775808 ≤ n ∧ n ≤ 9223372036854775807 := by simpa [Lit.wf, IntKind.min, IntKind.max, IntKind.signed, IntKind.bits] using h
  exact this.2
theorem bits_zero {X : Nat} (h : (dig 2 X).length = 0) : X = 0 := (dig_len_zero (by omega)).1 h
theorem bits_ne {X : Nat} (h : (dig 2 X).length ≠ 0) : X ≠ 0 := fun e => h ((dig_len_zero (by omega)).2 e)
theorem bits_small {X k : Nat} (h : Bd X k) : (dig 2 X).length ≤ 32 * k := by
  refine bits_le ?_
  rw [Nat.pow_mul]
  exact h

/-- A number was made. -/
def MadeN (w : World) (X k : Nat) (e : Ending) (w' : World) : Prop := ∃ v, e = .returned v ∧ Own w' 65 .u32 w.heap.size v (dig 4294967296 X) ∧ Bd X k ∧ w.grownBy w' none
theorem MadeN.of {w : World} {X Y k : Nat} {e : Ending} {w' : World} (h : Made 65 .u32 w (dig 4294967296 X) e w') (hY : X = Y) (hb : Bd Y k) : MadeN w Y k e w' := by
  subst hY
  obtain ⟨v, h1, h2, h3⟩ := h
  exact ⟨v, h1, h2, hb, h3⟩

section
variable {w : World} {v u : Value} {X Y i j : Nat}
theorem Add_n (hx : Num w v X i) (hy : Num w u Y j) (hi : i + j ≤ 1000000) : Calls Try.prog 50 #[v, u] w (MadeN w (X + Y) (i + j + 1)) := by
  have b := hx.bd.add hy.bd
  obtain ⟨xs, s1, a1, rfl, l1⟩ := hx
  obtain ⟨ys, s2, a2, rfl, l2⟩ := hy
  exact (Add_any s1 s2 a1 a2 (by omega) (by omega)).mono fun _ _ h => MadeN.of h rfl b
theorem Mul_n (hx : Num w v X i) (hy : Num w u Y j) (hi : i + j ≤ 1000000) : Calls Try.prog 57 #[v, u] w (MadeN w (X * Y) (i + j)) := by
  have b := hx.bd.mul hy.bd
  obtain ⟨xs, s1, a1, rfl, l1⟩ := hx
  obtain ⟨ys, s2, a2, rfl, l2⟩ := hy
  exact (Mul_any s1 s2 a1 a2 (by omega) (by omega)).mono fun _ _ h => MadeN.of h rfl b
theorem Norm_n (hx : Num w v X i) (hi : i ≤ 1000000) : Calls Try.prog 58 #[v] w (MadeN w X i) := by
  have b := hx.bd
  obtain ⟨xs, s1, a1, rfl, l1⟩ := hx
  refine (Norm_any s1 (by omega)).mono fun _ _ h => ?_
  rw [trim_eq (by omega) a1] at h
  exact MadeN.of h rfl b
theorem Bits_n (hx : Num w v X i) (hi : i ≤ 1000000) : Calls Try.prog 62 #[v] w fun e w' => e = .returned (.int .i64 ((dig 2 X).length : Nat)) ∧ w = w' := by
  obtain ⟨xs, s1, a1, rfl, l1⟩ := hx
  exact Bits_any s1 a1 (by omega)
theorem Cmp_n (r : Int) (hx : Num w v X i) (hy : Num w u Y j) (hr : cmpN X Y = r) : Calls Try.prog 60 #[v, u] w fun e w' => e = .returned (.int .i64 r) ∧ w.grownBy w' none := by
  subst hr
  obtain ⟨xs, s1, a1, rfl, l1⟩ := hx
  obtain ⟨ys, s2, a2, rfl, l2⟩ := hy
  exact Cmp_b s1 s2 a1 a2
theorem Same_n (hx : NumC w v X i) (hy : NumC w u Y j) (h : X = Y) : Calls Try.prog 73 #[v, u] w fun e w' => e = .returned (.bool true) ∧ w.grownBy w' none := by
  subst h
  have := Same_b hx.1 hy.1
  rwa [eqB_self] at this
/-- A difference was made. -/
def SubN (w : World) (X k : Nat) (e : Ending) (w' : World) : Prop := ∃ v, e = .returned (.tuple #[v, .bool true]) ∧ Own w' 65 .u32 w.heap.size v (dig 4294967296 X) ∧ Bd X k ∧ w.grownBy w' none
theorem Sub_n (hx : Num w v X i) (hy : Num w u Y j) (hi : i ≤ 1000000) (hle : Y ≤ X) : Calls Try.prog 72 #[v, u] w (SubN w (X - Y) i) := by
  have b := hx.bd.sub Y
  obtain ⟨xs, s1, a1, rfl, l1⟩ := hx
  obtain ⟨ys, s2, a2, rfl, l2⟩ := hy
  refine (Sub_any s1 s2 a1 a2 (by omega)).mono fun e w' h => ?_
  rcases h with ⟨h, _⟩ | ⟨_, v, h1, h2, h3⟩
  · omega
  · exact ⟨v, h1, h2, b, h3⟩
theorem Sub_no (hx : Num w v X i) (hy : Num w u Y j) (hi : i ≤ 1000000) (hlt : X < Y) : Calls Try.prog 72 #[v, u] w fun e w' => e = .returned (.tuple #[.slice none 0 0, .bool false]) ∧ w.grownBy w' none := by
  obtain ⟨xs, s1, a1, rfl, l1⟩ := hx
  obtain ⟨ys, s2, a2, rfl, l2⟩ := hy
  refine (Sub_any s1 s2 a1 a2 (by omega)).mono fun e w' h => ?_
  rcases h with ⟨_, h, g⟩ | ⟨h, _⟩
  · exact ⟨h, g⟩
  · omega
/-- A quotient and a remainder were made. -/
def DivN (w : World) (Q R i j : Nat) (e : Ending) (w' : World) : Prop :=
  ∃ v u, e = .returned (.tuple #[v, u, .int .i64 0]) ∧ Own w' 65 .u32 w.heap.size v (dig 4294967296 Q) ∧ Own w' 65 .u32 w.heap.size u (dig 4294967296 R) ∧
    (v.ownBlock = none ∨ v.ownBlock ≠ u.ownBlock) ∧ Bd Q i ∧ Bd R j ∧ w.grownBy w' none
theorem DivMod_n (hx : Num w v X i) (hy : Num w u Y j) (hi : i ≤ 1000000) (hne : Y ≠ 0) : Calls Try.prog 71 #[v, u] w (DivN w (X / Y) (X % Y) i j) := by
  have b := hx.bd.div Y
  have c := hy.bd.le (Nat.le_of_lt (Nat.mod_lt X (Nat.pos_of_ne_zero hne)))
  obtain ⟨xs, s1, a1, rfl, l1⟩ := hx
  obtain ⟨ys, s2, a2, rfl, l2⟩ := hy
  refine (DivMod_any s1 s2 a1 a2 (by omega)).mono fun e w' h => ?_
  rcases h with ⟨h, _⟩ | ⟨_, v, u, h1, h2, h3, h4, h5⟩
  · exact absurd h hne
  · exact ⟨v, u, h1, h2, h3, h4, b, c, h5⟩
theorem DivMod_no (hx : Num w v X i) (hy : Num w u Y j) (hi : i ≤ 1000000) (hz : Y = 0) : Calls Try.prog 71 #[v, u] w fun e w' => e = .returned (.tuple #[.slice none 0 0, .slice none 0 0, .int .i64 2]) ∧ w.grownBy w' none := by
  obtain ⟨xs, s1, a1, rfl, l1⟩ := hx
  obtain ⟨ys, s2, a2, rfl, l2⟩ := hy
  refine (DivMod_any s1 s2 a1 a2 (by omega)).mono fun e w' h => ?_
  rcases h with ⟨_, h1, h2⟩ | ⟨h, _⟩
  · exact ⟨h1, h2⟩
  · exact absurd hz h
theorem Sum2_n {p q : Option Addr} {n m cap cap' : Nat} (hx : Num w (.slice p n cap) X i) (hy : Num w (.slice q m cap') Y j) (hi : i + j ≤ 1000000) :
    Calls Try.prog 65 #[.slice (some ⟨w.heap.size, 0, none⟩) 2 2] (w.alloc (.cells #[.slice p n cap, .slice q m cap'] 22)) (MadeN w (X + Y) (i + j + 1)) := by
  have b := hx.bd.add hy.bd
  obtain ⟨xs, s1, a1, rfl, l1⟩ := hx
  obtain ⟨ys, s2, a2, rfl, l2⟩ := hy
  refine (Sum_any _ 2 (two (.slice p n cap) (.slice q m cap')) (two' xs ys) _ (slS_two w _ _ _) ?_ ?_ 1000000 ?_ (by omega)).mono fun e w' h => ?_
  · intro j hj
    have : j = 0 ∨ j = 1 := by omega
    rcases this with rfl | rfl
    · exact s1.grown (grown_alloc _ _ none) (.inl rfl)
    · exact s2.grown (grown_alloc _ _ none) (.inl rfl)
  · intro j hj
    have : j = 0 ∨ j = 1 := by omega
    rcases this with rfl | rfl
    · exact a1
    · exact a2
  · intro j' hj
    have : j' = 0 ∨ j' = 1 := by omega
    rcases this with rfl | rfl
    · show xs.length ≤ _; omega
    · show ys.length ≤ _; omega
  · exact MadeN.of (h.later (grown_alloc w _ none)) (by simp [sumF, two']) b
/-- Row: the first k limbs. -/
theorem Row_n {xs : List Nat} (hx : Sl w .u32 v xs) (ax : All 4294967296 xs) (k : Nat) :
    Calls Try.prog 74 #[v, .int .i64 k] w fun e w' => ∃ v', e = .returned v' ∧ Num w v' (val 4294967296 (xs.take k)) k ∧ w = w' :=
  (Row_sl hx).mono fun _ _ ⟨v', h1, h2, h3⟩ => ⟨v', h1, Num.row h2 (ax.take k) k bd_len, h3⟩
end

end Go.Proofs.Ytmmmpdpgkjcohaa
