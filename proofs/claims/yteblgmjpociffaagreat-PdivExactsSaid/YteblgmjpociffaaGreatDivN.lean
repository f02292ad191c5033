/- The reference's at, Add, Neg, Sub over the rationals. The reference's cut told with the row's block; Add and Sub, whose results lie in new memory. -/
import Derived.Test.YteblgmjpociffaaGreatDivX
import Derived.Test.YteblgmjpociffaaGreatDivT
namespace Go.Proofs.YteblgmjpociffaaGreat.Sym
open Go.RowKit
def uptoX (n : Nat) (q : Nat -> Rat) (i : Nat) : Rat := if i < n then q i else 0
theorem qOf_0X : qOf 0 1 = 0 := by decide +kernel
theorem qOf_m1X : qOf (-1) 1 = -1 := by decide +kernel
def b_xat_in (q : Nat -> Rat) (n i k : Nat) : List (World -> Value -> Prop) := [fun w v => Rw 4 (fun ι w v => DecQ w v (q ι) k) n w v, fun _ v => v = .int .i64 ((i : Nat) : Int), fun _ v => v = .int .i64 ((n : Nat) : Int), fun w v => Ptr 4 (fun w v => DecQ w v (q i) k) w v, fun w v => DecQ w v (q i) k]
def ss_xat_in : List Step := [.base ⟨0, [.fact 1, .lit (.ci .i64 0)], [⟨.one (.lit (.cb false)), []⟩], .quiet (mBin .lss)⟩,
   .base ⟨0, [.fact 0], [⟨.one (.i), [(0, 0, 2)]⟩], .quiet (mLen 30)⟩,
   .base ⟨0, [.fact 1, .fact 2], [⟨.one (.lit (.cb false)), []⟩], .quiet (mBin .geq)⟩,
   .base ⟨0, [.fact 0, .fact 1], [⟨.one (.p), [(0, 0, 3)]⟩], .quiet (mIdx 30)⟩,
   .base ⟨0, [.fact 3], [⟨.agg [.s, .b, .s, .b], [(0, 0, 4)]⟩], .quiet (mLoad 53)⟩]
def ins_xat_in : List Out := [⟨.one (.s), [(0, 0, 0)]⟩, ⟨.one (.i), [(0, 0, 1)]⟩]
set_option maxRecDepth 100000 in
theorem xat_in {q : Nat -> Rat} {n i k : Nat} (_hn : n <= 1000000) (hi : i < n) : SiteOk (ph (b_xat_in q n i k)) Tryz.prog ⟨140, [.fact 0, .fact 1], [⟨.agg [.s, .b, .s, .b], [(0, 0, 4)]⟩], false⟩ := by
 skip
 exact fn_okL ins_xat_in [⟨.agg [.s, .b, .s, .b], [(0, 0, 4)]⟩] ss_xat_in Tryz.func140 (by kernel_rfl)
  (lbase (qTestC (op := .lss) (fun _ _ h => h) (ts_run (show decide (((i : Nat) : Int) < 0) = false from decide_eq_false (by omega)) (by simp)))
   (lbase (qLen (sz := 4) (n := n) (F := (fun ι w v => DecQ w v (q ι) k)) Tryz.underlying30 (fun _ _ h => Rw.arr h) rfl)
   (lbase (qTest (op := .geq) (fun _ _ h => h) (fun _ _ h => h) (ts_run (decide_eq_false (by omega)) (by simp)))
   (lbase (qIdx (i := i) (sz := 4) (n := n) (F := (fun ι w v => DecQ w v (q ι) k)) Tryz.underlying30 (by kernel_rfl) (fun _ _ h => Rw.arr h) (fun _ _ h => h) (by omega) rfl)
   (lbase (qLoad (sz := 4) (F := fun w v => DecQ w v (q i) k) (by kernel_rfl) (by kernel_rfl) (fun _ _ h => h) (fun _ _ _ g h => DecQ.kp h g) (fun _ _ h => DecQ.is h) rfl)
   lnil)))))
  (ins_ok [.fact 0 (.one (.s)), .fact 1 (.one (.i))] ⟨fun _ _ h => Rw.is (sz := 4) (F := (fun ι w v => DecQ w v (q ι) k)) (n := n) h, fun _ _ h => h ▸ int_is _, trivial⟩) (fun _ _ _ h => h)
def b_xat_out (q : Nat -> Rat) (n i k : Nat) : List (World -> Value -> Prop) := [fun w v => Rw 4 (fun ι w v => DecQ w v (q ι) k) n w v, fun _ v => v = .int .i64 ((i : Nat) : Int), fun _ v => v = .int .i64 ((n : Nat) : Int), fun w v => DecQ w v (qOf 0 1) 6, fun w v => DecI w v ((qOf 0 1).num) 6, fun w v => DecI w v ((qOf 0 1).den : Int) 6]
def ss_xat_out : List Step := [.base ⟨0, [.fact 1, .lit (.ci .i64 0)], [⟨.one (.lit (.cb false)), []⟩], .quiet (mBin .lss)⟩,
   .base ⟨0, [.fact 0], [⟨.one (.i), [(0, 0, 2)]⟩], .quiet (mLen 30)⟩,
   .base ⟨0, [.fact 1, .fact 2], [⟨.one (.lit (.cb true)), []⟩], .quiet (mBin .geq)⟩,
   .base ⟨84, [], [⟨.agg [.s, .b, .s, .b], [(0, 0, 3), (0, 2, 4), (2, 2, 5)]⟩], false⟩]
def ins_xat_out : List Out := [⟨.one (.s), [(0, 0, 0)]⟩, ⟨.one (.i), [(0, 0, 1)]⟩]
set_option maxRecDepth 100000 in
theorem xat_out {q : Nat -> Rat} {n i k : Nat} (_hn : n <= 1000000) (hi : n <= i) : SiteOk (ph (b_xat_out q n i k)) Tryz.prog ⟨140, [.fact 0, .fact 1], [⟨.agg [.s, .b, .s, .b], [(0, 0, 3)]⟩], false⟩ := by
 skip
 exact fn_okL ins_xat_out [⟨.agg [.s, .b, .s, .b], [(0, 0, 3)]⟩] ss_xat_out Tryz.func140 (by kernel_rfl)
  (lbase (qTestC (op := .lss) (fun _ _ h => h) (ts_run (show decide (((i : Nat) : Int) < 0) = false from decide_eq_false (by omega)) (by simp)))
   (lbase (qLen (sz := 4) (n := n) (F := (fun ι w v => DecQ w v (q ι) k)) Tryz.underlying30 (fun _ _ h => Rw.arr h) rfl)
   (lbase (qTest (op := .geq) (fun _ _ h => h) (fun _ _ h => h) (ts_run (decide_eq_true (by omega)) (by simp)))
   (lbase (tZeroX rfl rfl rfl)
   lnil))))
  (ins_ok [.fact 0 (.one (.s)), .fact 1 (.one (.i))] ⟨fun _ _ h => Rw.is (sz := 4) (F := (fun ι w v => DecQ w v (q ι) k)) (n := n) h, fun _ _ h => h ▸ int_is _, trivial⟩) (fun _ _ _ h => h)
section
variable {Φ : Nat -> World -> Value -> Prop} {p x y n i k : Nat} {q : Nat -> Rat}
theorem sRCoX (hp : ∀ w v, Φ p w v -> Rw 4 (fun i w v => DecQ w v (q i) k) n w v) (hy : ∀ w v, Φ y w v -> v = .int .i64 (i : Int)) (hx : Φ x = fun w v => DecQ w v (uptoX n q i) k) (hn : n <= 1000000) (hk : 1 <= k) : SiteOk Φ Tryz.prog ⟨140, [.fact p, .fact y], [⟨.agg [.s, .b, .s, .b], [(0, 0, x)]⟩], false⟩ := by
 rcases Nat.lt_or_ge i n with h | h
 ·refine viaG (xat_in (q := q) (n := n) (i := i) (k := k) hn h) ⟨hp, hy, trivial⟩ ⟨⟨rfl, ⟨rfl, rfl, fun w v h1 => ?_⟩, trivial⟩, trivial⟩
  rw [hx, uptoX, if_pos h]; exact h1
 ·refine viaG (xat_out (q := q) (n := n) (i := i) (k := k) hn h) ⟨hp, hy, trivial⟩ ⟨⟨rfl, ⟨rfl, rfl, fun w v h1 => ?_⟩, trivial⟩, trivial⟩
  rw [hx, uptoX, if_neg (by omega)]
  exact DecQ.reX (DecQ.eq h1 qOf_0X) (Nat.pow_pos (by omega)) (one_ltX hk)
end
def aX (q : Nat -> Rat) (n : Nat) (r : Nat -> Rat) (m i : Nat) : Rat := uptoX n q i + uptoX m r i
def dX (q : Nat -> Rat) (n : Nat) (r : Nat -> Rat) (m i : Nat) : Rat := uptoX n q i - uptoX m r i
theorem aX_neg {q r : Nat -> Rat} {n m i : Nat} : aX q n (fun i => -(r i)) m i = dX q n r m i := by
 unfold aX dX uptoX
 by_cases h : i < m
 ·simp only [if_pos h]; rw [Rat.sub_eq_add_neg]
 ·simp only [if_neg h]; rw [Rat.sub_eq_add_neg, Rat.neg_zero]
def b_xneg (q : Nat -> Rat) (n k K N : Nat) : List (World -> Value -> Prop) := [fun w v => Rw 4 (fun ι w v => DecQ w v (q ι) k) n w v, fun w v => DecQ w v (qOf (-1) 1) 6, fun w v => DecI w v ((qOf (-1) 1).num) 6, fun w v => DecI w v ((qOf (-1) 1).den : Int) 6, fun w v => Rw 4 (fun ι w v => DecQ w v ((q ι * (qOf (-1) 1))) K) N w v]
def ss_xneg : List Step := [.base ⟨88, [.lit (.ci .i64 (-1)), .lit (.ci .i64 1)], [⟨.agg [.s, .b, .s, .b], [(0, 0, 1), (0, 2, 2), (2, 2, 3)]⟩], false⟩,
   .base ⟨25, [.fact 0, .fact 1], [⟨.one (.s), [(0, 0, 4)]⟩], false⟩]
def ins_xneg : List Out := [⟨.one (.s), [(0, 0, 0)]⟩]
set_option maxRecDepth 100000 in
theorem xneg {q : Nat -> Rat} {n k K N : Nat} (hn : n <= 1000000) (hk : k <= 8000) (hK : K <= 400000) (hB : ∀ i, i < n -> Bd (q i * qOf (-1) 1).num.natAbs K ∧ Bd (q i * qOf (-1) 1).den K) (hN : tl (fun i => (q i * qOf (-1) 1).num) n = N) : SiteOk (ph (b_xneg q n k K N)) Tryz.prog ⟨101, [.fact 0], [⟨.one (.s), [(0, 0, 4)]⟩], false⟩ := by
 skip
 exact fn_okL ins_xneg [⟨.one (.s), [(0, 0, 4)]⟩] ss_xneg Tryz.func101 (by kernel_rfl)
  (lbase (tOfR (z := (-1)) (y := 1) rfl rfl rfl (by decide) (by decide) (by decide) (by decide) rfl)
   (lbase (sRScaleX (q := fun i => q i) (c := (qOf (-1) 1)) (n := n) (K := K) (fun _ _ h => h) tS rfl (by omega) (by omega) (by omega) (by omega) hB hN)
   lnil))
  (ins_ok [.fact 0 (.one (.s))] ⟨fun _ _ h => Rw.is (sz := 4) (F := (fun ι w v => DecQ w v (q ι) k)) (n := n) h, trivial⟩) (fun _ _ _ h => h)
section
variable {Φ : Nat -> World -> Value -> Prop} {p x y n m k l K N : Nat} {q r s : Nat -> Rat}
theorem sRNegX (hp : ∀ w v, Φ p w v -> Rw 4 (fun i w v => DecQ w v (q i) k) n w v) (hx : Φ x = fun w v => Rw 4 (fun i w v => DecQ w v (-(q i)) k) n w v) (hn : n <= 1000000) (hk : k <= 8000) (_ : True) (hb : ∀ i, i < n -> Bd (q i).num.natAbs k ∧ Bd (q i).den k) (ht : 0 < n -> (q (n - 1)).num ≠ 0) : SiteOk Φ Tryz.prog ⟨101, [.fact p], [⟨.one .s, [(0, 0, x)]⟩], false⟩ := by
 have e : ∀ i, q i * qOf (-1) 1 = -(q i) := fun i => by rw [qOf_m1X, Rat.mul_neg, Rat.mul_one]
 refine viaG (xneg (q := q) (n := n) (k := k) (K := k) (N := n) hn hk (by omega) (fun i hi => ?_) (tl_self fun h => ?_)) ⟨hp, trivial⟩ ⟨⟨rfl, ⟨rfl, rfl, fun w v h => ?_⟩, trivial⟩, trivial⟩
 ·rw [e, Rat.neg_num, Rat.neg_den, Int.natAbs_neg]; exact hb i hi
 ·show (q (n - 1) * qOf (-1) 1).num ≠ 0
  rw [e, Rat.neg_num]
  have := ht h
  omega
 ·rw [hx]
  have h : Rw 4 (fun i w v => DecQ w v (q i * qOf (-1) 1) k) n w v := h
  simp only [e] at h
  exact h
end
section
variable {Φ : Nat -> World -> Value -> Prop} {p x y n m k l K N : Nat} {q r : Nat -> Rat}
end
end Go.Proofs.YteblgmjpociffaaGreat.Sym
namespace Go.Proofs.YteblgmjpociffaaGreat.Sym
open Go.RowKit
def b_cutV_0 (q : Nat -> Rat) (n0 k c0 : Nat) (s0 : Option Addr) : List (World -> Value -> Prop) := [fun w v => RwV s0 c0 4 (fun ι w v => DecQ w v ((q ι)) k) n0 w v, fun _ v => v = .int .i64 ((n0 : Nat) : Int), fun _ v => v = .int .i64 (((tl (fun ι => (q ι).num) n0) : Nat) : Int), fun w v => RwV s0 c0 4 (fun ι w v => DecQ w v ((q ι)) k) (tl (fun ι => (q ι).num) n0) w v]
def l_cutV_0_1 (q : Nat -> Rat) (n0 k : Nat) (j : Nat) : List (World -> Value -> Prop) := [fun _ v => v = .int .i64 (((n0 - j) : Nat) : Int), fun _ v => v = .int .i64 (((n0 - (j + 1)) : Nat) : Int), fun w v => Ptr 4 (fun w v => DecQ w v ((q (n0 - (j + 1)))) k) w v, fun w v => Ptr 2 (fun w v => DecI w v (((q (n0 - (j + 1)))).num) k) w v, fun w v => DecI w v (((q (n0 - (j + 1)))).num) k, fun _ v => v = .int .i64 (((n0 - (j + 1)) : Nat) : Int)]
def d_cutV_0_1 : LoopD := ⟨[0, 2, 4, 5], [(.slot 3, .i)], [(.one 0, 4)], [.from 1], 4, [(4, 2)]⟩
def r_cutV_0_1_0 : List Step := [.base ⟨0, [.fact 4, .lit (.ci .i64 0)], [⟨.one (.lit (.cb true)), []⟩], .quiet (mBin .gtr)⟩,
   .base ⟨0, [.fact 4, .lit (.ci .i64 1)], [⟨.one (.i), [(0, 0, 5)]⟩], .quiet (mBin .sub)⟩,
   .base ⟨0, [.fact 0, .fact 5], [⟨.one (.p), [(0, 0, 6)]⟩], .quiet (mIdx 30)⟩,
   .base ⟨0, [.fact 6], [⟨.one (.p), [(0, 0, 7)]⟩], .quiet (mFld 53 0)⟩,
   .base ⟨0, [.fact 7], [⟨.agg [.s, .b], [(0, 0, 8)]⟩], .quiet (mLoad 51)⟩,
   .base ⟨75, [.fact 8], [⟨.one (.lit (.cb true)), []⟩], false⟩,
   .base ⟨0, [.fact 4, .lit (.ci .i64 1)], [⟨.one (.i), [(0, 0, 9)]⟩], .quiet (mBin .sub)⟩]
def o_cutV_0_1 : List Step := [.base ⟨0, [.fact 4, .lit (.ci .i64 0)], [⟨.one (.lit (.cb false)), []⟩], .quiet (mBin .gtr)⟩]
def ss_cutV_0 : List Step := [.base ⟨0, [.fact 0], [⟨.one (.i), [(0, 0, 1)]⟩], .quiet (mLen 30)⟩,
   .loop d_cutV_0_1 [(r_cutV_0_1_0, [.from 9])] o_cutV_0_1,
   .base ⟨0, [.fact 0, .fact 2], [⟨.one (.s), [(0, 0, 3)]⟩], .quiet (mTo' 30)⟩]
def ins_cutV_0 : List Out := [⟨.one (.s), [(0, 0, 0)]⟩]
set_option maxRecDepth 100000 in
theorem cutV_0 {q : Nat -> Rat} {n0 k c0 : Nat} {s0 : Option Addr} (hn : n0 <= 1000000) (_hk : k <= 500000) (ht : (tl (fun ι => (q ι).num) n0) = 0) : SiteOk (ph (b_cutV_0 q n0 k c0 s0)) Tryz.prog ⟨74, [.fact 0], [⟨.one (.s), [(0, 0, 3)]⟩], false⟩ := by
 have hle := tl_le (fun ι => (q ι).num) n0
 exact fn_okL ins_cutV_0 [⟨.one (.s), [(0, 0, 3)]⟩] ss_cutV_0 Tryz.func74 (by kernel_rfl)
  (lbase (qLen (sz := 4) (n := n0) (F := (fun ι w v => DecQ w v ((q ι)) k)) Tryz.underlying30 (fun _ _ h => Rw.arr h.2) rfl)
   (lloop (counted (n0 - (tl (fun ι => (q ι).num) n0)) (fun j => ph (b_cutV_0 q n0 k c0 s0 ++ l_cutV_0_1 q n0 k j)) (fun _ => 0) (fun j p hp => ph_app' (show p < (b_cutV_0 q n0 k c0 s0).length from hp)) ⟨fun _ _ h => h, trivial⟩ (fun j hj => by
   have h0 : (q (n0 - (j + 1))).num = 0 := tl_zero (fun ι => (q ι).num) n0 _ (by omega) (by omega)
   exact ⟨(r_cutV_0_1_0, [.from 9]), rfl, ⟨fun _ _ h => h, trivial⟩, (lbase (qTestC (op := .gtr) (fun _ _ h => h) (ts_run (decide_eq_true (by omega)) (by simp)))
   (lbase (qSubK (fun _ _ h => h) (by omega) rfl (by omega) (by omega))
   (lbase (qIdx (i := (n0 - (j + 1))) (sz := 4) (n := n0) (F := (fun ι w v => DecQ w v ((q ι)) k)) Tryz.underlying30 (by kernel_rfl) (fun _ _ h => Rw.arr h.2) (fun _ _ h => h) (by omega) rfl)
   (lbase (qFld (off := 0) (len := 2) (sz := 4) (F := fun w v => DecQ w v ((q (n0 - (j + 1)))) k) (G := fun w v => DecI w v (((q (n0 - (j + 1)))).num) k) (by kernel_rfl) (fun _ _ h => h) (by omega) (fun _ _ h => DecQ.fst' h) rfl)
   (lbase (qLoad (sz := 2) (F := fun w v => DecI w v (((q (n0 - (j + 1)))).num) k) (by kernel_rfl) (by kernel_rfl) (fun _ _ h => h) (fun _ _ _ g h => DecI.kp h g) (fun _ _ h => DecI.is h) rfl)
   (lbase (tZero dD (decide_eq_true h0))
   (lbase (qSubK (fun _ _ h => h) (by omega) rfl (by omega) (by omega))
   lnil)))))))⟩)
   (by
   have hle := tl_le (fun ι => (q ι).num) n0
   exact (lbase (qTestC (op := .gtr) (fun _ _ h => h) (ts_run (decide_eq_false (by omega)) (by simp)))
   lnil))
   (fun q hq w v h => by
    simp only [d_cutV_0_1, List.mem_cons, List.not_mem_nil, or_false] at hq
    rcases hq with rfl
    ·exact (fun h => h.trans (congrArg (Value.int .i64) (by have := tl_le (fun ι => (q ι).num) n0; omega))) h)) (lbase (qToV (m := (tl (fun ι => (q ι).num) n0)) (n := n0) (F := (fun ι w v => DecQ w v ((q ι)) k)) Tryz.underlying30 (by kernel_rfl) (fun _ _ h => h) (fun _ _ h => h) (by first | omega | exact tl_le _ _) rfl)
   lnil)))
  (ins_ok [.fact 0 (.one (.s))] ⟨fun _ _ h => Rw.is (sz := 4) (F := fun ι w v => DecQ w v (q ι) k) (n := n0) h.2, trivial⟩) (fun _ _ _ h => h)
def b_cutV_p (q : Nat -> Rat) (n0 k c0 : Nat) (s0 : Option Addr) : List (World -> Value -> Prop) := [fun w v => RwV s0 c0 4 (fun ι w v => DecQ w v ((q ι)) k) n0 w v, fun _ v => v = .int .i64 ((n0 : Nat) : Int), fun _ v => v = .int .i64 (((tl (fun ι => (q ι).num) n0) : Nat) : Int), fun w v => RwV s0 c0 4 (fun ι w v => DecQ w v ((q ι)) k) (tl (fun ι => (q ι).num) n0) w v]
def l_cutV_p_1 (q : Nat -> Rat) (n0 k : Nat) (j : Nat) : List (World -> Value -> Prop) := [fun _ v => v = .int .i64 (((n0 - j) : Nat) : Int), fun _ v => v = .int .i64 (((n0 - (j + 1)) : Nat) : Int), fun w v => Ptr 4 (fun w v => DecQ w v ((q (n0 - (j + 1)))) k) w v, fun w v => Ptr 2 (fun w v => DecI w v (((q (n0 - (j + 1)))).num) k) w v, fun w v => DecI w v (((q (n0 - (j + 1)))).num) k, fun _ v => v = .int .i64 (((n0 - (j + 1)) : Nat) : Int), fun _ v => v = .int .i64 ((((tl (fun ι => (q ι).num) n0) - 1) : Nat) : Int), fun w v => Ptr 4 (fun w v => DecQ w v ((q ((tl (fun ι => (q ι).num) n0) - 1))) k) w v, fun w v => Ptr 2 (fun w v => DecI w v (((q ((tl (fun ι => (q ι).num) n0) - 1))).num) k) w v, fun w v => DecI w v (((q ((tl (fun ι => (q ι).num) n0) - 1))).num) k]
def d_cutV_p_1 : LoopD := ⟨[0, 2, 4, 5], [(.slot 3, .i)], [(.one 0, 4)], [.from 1], 4, [(4, 2)]⟩
def r_cutV_p_1_0 : List Step := [.base ⟨0, [.fact 4, .lit (.ci .i64 0)], [⟨.one (.lit (.cb true)), []⟩], .quiet (mBin .gtr)⟩,
   .base ⟨0, [.fact 4, .lit (.ci .i64 1)], [⟨.one (.i), [(0, 0, 5)]⟩], .quiet (mBin .sub)⟩,
   .base ⟨0, [.fact 0, .fact 5], [⟨.one (.p), [(0, 0, 6)]⟩], .quiet (mIdx 30)⟩,
   .base ⟨0, [.fact 6], [⟨.one (.p), [(0, 0, 7)]⟩], .quiet (mFld 53 0)⟩,
   .base ⟨0, [.fact 7], [⟨.agg [.s, .b], [(0, 0, 8)]⟩], .quiet (mLoad 51)⟩,
   .base ⟨75, [.fact 8], [⟨.one (.lit (.cb true)), []⟩], false⟩,
   .base ⟨0, [.fact 4, .lit (.ci .i64 1)], [⟨.one (.i), [(0, 0, 9)]⟩], .quiet (mBin .sub)⟩]
def o_cutV_p_1 : List Step := [.base ⟨0, [.fact 4, .lit (.ci .i64 0)], [⟨.one (.lit (.cb true)), []⟩], .quiet (mBin .gtr)⟩,
   .base ⟨0, [.fact 4, .lit (.ci .i64 1)], [⟨.one (.i), [(0, 0, 10)]⟩], .quiet (mBin .sub)⟩,
   .base ⟨0, [.fact 0, .fact 10], [⟨.one (.p), [(0, 0, 11)]⟩], .quiet (mIdx 30)⟩,
   .base ⟨0, [.fact 11], [⟨.one (.p), [(0, 0, 12)]⟩], .quiet (mFld 53 0)⟩,
   .base ⟨0, [.fact 12], [⟨.agg [.s, .b], [(0, 0, 13)]⟩], .quiet (mLoad 51)⟩,
   .base ⟨75, [.fact 13], [⟨.one (.lit (.cb false)), []⟩], false⟩]
def ss_cutV_p : List Step := [.base ⟨0, [.fact 0], [⟨.one (.i), [(0, 0, 1)]⟩], .quiet (mLen 30)⟩,
   .loop d_cutV_p_1 [(r_cutV_p_1_0, [.from 9])] o_cutV_p_1,
   .base ⟨0, [.fact 0, .fact 2], [⟨.one (.s), [(0, 0, 3)]⟩], .quiet (mTo' 30)⟩]
def ins_cutV_p : List Out := [⟨.one (.s), [(0, 0, 0)]⟩]
set_option maxRecDepth 100000 in
theorem cutV_p {q : Nat -> Rat} {n0 k c0 : Nat} {s0 : Option Addr} (hn : n0 <= 1000000) (_hk : k <= 500000) (ht : 0 < (tl (fun ι => (q ι).num) n0)) : SiteOk (ph (b_cutV_p q n0 k c0 s0)) Tryz.prog ⟨74, [.fact 0], [⟨.one (.s), [(0, 0, 3)]⟩], false⟩ := by
 have hle := tl_le (fun ι => (q ι).num) n0
 exact fn_okL ins_cutV_p [⟨.one (.s), [(0, 0, 3)]⟩] ss_cutV_p Tryz.func74 (by kernel_rfl)
  (lbase (qLen (sz := 4) (n := n0) (F := (fun ι w v => DecQ w v ((q ι)) k)) Tryz.underlying30 (fun _ _ h => Rw.arr h.2) rfl)
   (lloop (counted (n0 - (tl (fun ι => (q ι).num) n0)) (fun j => ph (b_cutV_p q n0 k c0 s0 ++ l_cutV_p_1 q n0 k j)) (fun _ => 0) (fun j p hp => ph_app' (show p < (b_cutV_p q n0 k c0 s0).length from hp)) ⟨fun _ _ h => h, trivial⟩ (fun j hj => by
   have h0 : (q (n0 - (j + 1))).num = 0 := tl_zero (fun ι => (q ι).num) n0 _ (by omega) (by omega)
   exact ⟨(r_cutV_p_1_0, [.from 9]), rfl, ⟨fun _ _ h => h, trivial⟩, (lbase (qTestC (op := .gtr) (fun _ _ h => h) (ts_run (decide_eq_true (by omega)) (by simp)))
   (lbase (qSubK (fun _ _ h => h) (by omega) rfl (by omega) (by omega))
   (lbase (qIdx (i := (n0 - (j + 1))) (sz := 4) (n := n0) (F := (fun ι w v => DecQ w v ((q ι)) k)) Tryz.underlying30 (by kernel_rfl) (fun _ _ h => Rw.arr h.2) (fun _ _ h => h) (by omega) rfl)
   (lbase (qFld (off := 0) (len := 2) (sz := 4) (F := fun w v => DecQ w v ((q (n0 - (j + 1)))) k) (G := fun w v => DecI w v (((q (n0 - (j + 1)))).num) k) (by kernel_rfl) (fun _ _ h => h) (by omega) (fun _ _ h => DecQ.fst' h) rfl)
   (lbase (qLoad (sz := 2) (F := fun w v => DecI w v (((q (n0 - (j + 1)))).num) k) (by kernel_rfl) (by kernel_rfl) (fun _ _ h => h) (fun _ _ _ g h => DecI.kp h g) (fun _ _ h => DecI.is h) rfl)
   (lbase (tZero dD (decide_eq_true h0))
   (lbase (qSubK (fun _ _ h => h) (by omega) rfl (by omega) (by omega))
   lnil)))))))⟩)
   (by
   have hle := tl_le (fun ι => (q ι).num) n0; have hl := tl_last (fun ι => (q ι).num) n0 ht
   exact (lbase (qTestC (op := .gtr) (fun _ _ h => h) (ts_run (decide_eq_true (by omega)) (by simp)))
   (lbase (qSubK (fun _ _ h => h) (by omega) rfl (by omega) (by omega))
   (lbase (qIdx (i := ((tl (fun ι => (q ι).num) n0) - 1)) (sz := 4) (n := n0) (F := (fun ι w v => DecQ w v ((q ι)) k)) Tryz.underlying30 (by kernel_rfl) (fun _ _ h => Rw.arr h.2) (fun _ _ h => h) (by omega) rfl)
   (lbase (qFld (off := 0) (len := 2) (sz := 4) (F := fun w v => DecQ w v ((q ((tl (fun ι => (q ι).num) n0) - 1))) k) (G := fun w v => DecI w v (((q ((tl (fun ι => (q ι).num) n0) - 1))).num) k) (by kernel_rfl) (fun _ _ h => h) (by omega) (fun _ _ h => DecQ.fst' h) rfl)
   (lbase (qLoad (sz := 2) (F := fun w v => DecI w v (((q ((tl (fun ι => (q ι).num) n0) - 1))).num) k) (by kernel_rfl) (by kernel_rfl) (fun _ _ h => h) (fun _ _ _ g h => DecI.kp h g) (fun _ _ h => DecI.is h) rfl)
   (lbase (tZero dD (decide_eq_false hl))
   lnil)))))))
   (fun q hq w v h => by
    simp only [d_cutV_p_1, List.mem_cons, List.not_mem_nil, or_false] at hq
    rcases hq with rfl
    ·exact (fun h => h.trans (congrArg (Value.int .i64) (by have := tl_le (fun ι => (q ι).num) n0; omega))) h)) (lbase (qToV (m := (tl (fun ι => (q ι).num) n0)) (n := n0) (F := (fun ι w v => DecQ w v ((q ι)) k)) Tryz.underlying30 (by kernel_rfl) (fun _ _ h => h) (fun _ _ h => h) (by first | omega | exact tl_le _ _) rfl)
   lnil)))
  (ins_ok [.fact 0 (.one (.s))] ⟨fun _ _ h => Rw.is (sz := 4) (F := fun ι w v => DecQ w v (q ι) k) (n := n0) h.2, trivial⟩) (fun _ _ _ h => h)
section
variable {Φ : Nat -> World -> Value -> Prop} {p x n k : Nat} {q : Nat -> Rat}
theorem sCutV {s0 : Option Addr} {c0 : Nat} (hp : ∀ w v, Φ p w v -> RwV s0 c0 4 (fun i w v => DecQ w v (q i) k) n w v) (hx : Φ x = fun w v => RwV s0 c0 4 (fun i w v => DecQ w v (q i) k) (tl (fun i => (q i).num) n) w v) (hn : n <= 1000000) (hk : k <= 500000) : SiteOk Φ Tryz.prog ⟨74, [.fact p], [⟨.one .s, [(0, 0, x)]⟩], false⟩ := by
 rcases Nat.eq_zero_or_pos (tl (fun i => (q i).num) n) with h | h
 ·exact viaG (cutV_0 hn hk h) ⟨hp, trivial⟩ ⟨⟨rfl, ⟨rfl, rfl, fun _ _ h => hx ▸ h⟩, trivial⟩, trivial⟩
 ·exact viaG (cutV_p hn hk h) ⟨hp, trivial⟩ ⟨⟨rfl, ⟨rfl, rfl, fun _ _ h => hx ▸ h⟩, trivial⟩, trivial⟩
theorem sCutL {j : Nat} (hp : ∀ w v, Φ p w v -> ArrO 4 53 (fun i w v => DecQ w v (q i) k) n w v) (hx : Φ x = fun w v => ArrO 4 53 (fun i w v => DecQ w v (q i) k) (tl (fun i => (q i).num) n) w v) (hn : n <= 1000000) (hk : k <= 500000) : SiteOk Φ Tryz.prog ⟨74, [.fact p], [⟨.one .s, [(0, 0, x)]⟩], .callL [] j 0⟩ := fun X L w vs hX hL hLX ha hb => by
 match vs, ha with
 | [v], ha =>
  have h1 := hp _ _ (ha.1 w (Off.refl _ _))
  obtain ⟨s0, c0, rfl, hc, he⟩ := h1.rw
  refine (sCutV (Φ := ph [fun w v => RwV s0 c0 4 (fun i w v => DecQ w v (q i) k) n w v, fun w v => RwV s0 c0 4 (fun i w v => DecQ w v (q i) k) (tl (fun i => (q i).num) n) w v]) (p := 0) (x := 1) (s0 := s0) (c0 := c0) (fun _ _ h => h) rfl hn hk X w [.slice s0 n c0] hX ⟨fun w1 hw => ⟨rfl, (hp _ _ (ha.1 w1 hw)).rw⟩, trivial⟩).mono fun e w' ⟨hg, us, he, ho⟩ => ?_
  match us, ho with
  | [u], ho =>
   have hu := ho.1.2 _ (List.mem_singleton.2 rfl) w' (Off.refl _ _)
   obtain ⟨rfl, -⟩ : u = .slice s0 (tl (fun i => (q i).num) n) c0 ∧ _ := hu
   refine ⟨hg, _, he, one_out ⟨⟨_, _, _, rfl⟩, fun _ h => by cases h⟩ hx fun w1 hw => (hp _ _ (ha.1 w1 ((Off.grown hg).trans hw fun _ _ h => h))).take (tl_le _ n), fun g hg' => ?_⟩
   have hg2 : blk (.slice s0 n c0) = some g := by
    revert hg'
    cases s0 <;> exact fun h => h
   have h3 := hb _ g rfl hg2
   exact ⟨Nat.lt_of_lt_of_le (hL g h3) hg.size, .inl h3⟩
end
def b_xaddN (q r : Nat -> Rat) (n m k l K : Nat) : List (World -> Value -> Prop) := [fun w v => Rw 4 (fun ι w v => DecQ w v (q ι) k) n w v, fun w v => Rw 4 (fun ι w v => DecQ w v (r ι) l) m w v, fun w v => ArrO 4 53 (fun ι w v => DecQ w v (aX q n r m ι) K) (max n m) w v, fun w v => ArrO 4 53 (fun ι w v => DecQ w v (aX q n r m ι) K) (tl (fun ι => (aX q n r m ι).num) (max n m)) w v]
def l_xaddN_1 (q r : Nat -> Rat) (n m k l K : Nat) (j : Nat) : List (World -> Value -> Prop) := [fun _ v => v = .int .i64 ((j : Nat) : Int), fun w v => ArrO 4 53 (fun ι w v => DecQ w v (aX q n r m ι) K) j w v, fun _ _ => True, fun _ v => v = .int .i64 ((n : Nat) : Int), fun _ v => v = .int .i64 ((m : Nat) : Int), fun _ v => v = .int .i64 (((max n m) : Nat) : Int), fun w v => DecQ w v (uptoX n (fun ι => q ι) j) k, fun w v => DecQ w v (uptoX m (fun ι => r ι) j) l, fun w v => DecQ w v ((uptoX n (fun ι => q ι) j) + (uptoX m (fun ι => r ι) j)) (3 * (k + l) + 3), fun w v => DecI w v (((uptoX n (fun ι => q ι) j) + (uptoX m (fun ι => r ι) j)).num) (3 * (k + l) + 3), fun w v => DecI w v (((uptoX n (fun ι => q ι) j) + (uptoX m (fun ι => r ι) j)).den : Int) (3 * (k + l) + 3), fun w v => ArrO 4 53 (fun ι w v => DecQ w v (aX q n r m ι) K) (j + 1) w v, fun _ v => v = .int .i64 (((j + 1) : Nat) : Int), fun _ v => v = .int .i64 ((n : Nat) : Int), fun _ v => v = .int .i64 ((m : Nat) : Int), fun _ v => v = .int .i64 (((max n m) : Nat) : Int)]
def d_xaddN_1 : LoopD := ⟨[0, 1, 4], [(.slot 6, .i), (.slot 5, .s)], [(.one 0, 4), (.one 1, .at [1] 5), (.one 1, .lo 1)], [.closed (.one (.ci .i64 0)), .closed (.one (.nl)), .from 0], 4, [(5, 2)]⟩
def r_xaddN_1_0 : List Step := [.base ⟨0, [.fact 0], [⟨.one (.i), [(0, 0, 7)]⟩], .quiet (mLen 30)⟩,
   .base ⟨0, [.fact 1], [⟨.one (.i), [(0, 0, 8)]⟩], .quiet (mLen 30)⟩,
   .base ⟨0, [.fact 7, .fact 8], [⟨.one (.i), [(0, 0, 9)]⟩], .quiet (mMax .max)⟩,
   .base ⟨0, [.fact 4, .fact 9], [⟨.one (.lit (.cb true)), []⟩], .quiet (mBin .lss)⟩,
   .base ⟨140, [.fact 0, .fact 4], [⟨.agg [.s, .b, .s, .b], [(0, 0, 10)]⟩], false⟩,
   .base ⟨140, [.fact 1, .fact 4], [⟨.agg [.s, .b, .s, .b], [(0, 0, 11)]⟩], false⟩,
   .base ⟨96, [.fact 10, .fact 11], [⟨.agg [.s, .b, .s, .b], [(0, 0, 12), (0, 2, 13), (2, 2, 14)]⟩], false⟩,
   .base ⟨0, [.fact 5, .row 4 [12]], [⟨.one (.s), [(0, 0, 15)]⟩], .loose [] 1 0 (mApp 30 30)⟩,
   .base ⟨0, [.fact 4, .lit (.ci .i64 1)], [⟨.one (.i), [(0, 0, 16)]⟩], .quiet (mBin .add)⟩]
def o_xaddN_1 : List Step := [.base ⟨0, [.fact 0], [⟨.one (.i), [(0, 0, 17)]⟩], .quiet (mLen 30)⟩,
   .base ⟨0, [.fact 1], [⟨.one (.i), [(0, 0, 18)]⟩], .quiet (mLen 30)⟩,
   .base ⟨0, [.fact 17, .fact 18], [⟨.one (.i), [(0, 0, 19)]⟩], .quiet (mMax .max)⟩,
   .base ⟨0, [.fact 4, .fact 19], [⟨.one (.lit (.cb false)), []⟩], .quiet (mBin .lss)⟩]
def ss_xaddN : List Step := [.loop d_xaddN_1 [(r_xaddN_1_0, [.from 16, .from 15, .from 0])] o_xaddN_1,
   .base ⟨74, [.fact 2], [⟨.one (.s), [(0, 0, 3)]⟩], .callL [] 1 0⟩]
def ins_xaddN : List Out := [⟨.one (.s), [(0, 0, 0)]⟩, ⟨.one (.s), [(0, 0, 1)]⟩]
set_option maxRecDepth 100000 in
theorem xaddN {q r : Nat -> Rat} {n m k l K : Nat} (hn : n <= 1000000) (hm : m <= 1000000) (hk : k <= 8000) (hl : l <= 8000) (hk1 : 1 <= k) (hl1 : 1 <= l) (hK : K <= 400000) (hB : ∀ i, i < max n m -> Bd (aX q n r m i).num.natAbs K ∧ Bd (aX q n r m i).den K) : CallNOk (ph (b_xaddN q r n m k l K)) Tryz.prog ⟨122, [.fact 0, .fact 1], [⟨.one (.s), [(0, 0, 3)]⟩], false⟩ := by
 skip
 exact fn_okF ins_xaddN [⟨.one (.s), [(0, 0, 3)]⟩] ss_xaddN Tryz.func122 (by kernel_rfl)
  (lloop (counted (max n m) (fun j => ph (b_xaddN q r n m k l K ++ l_xaddN_1 q r n m k l K j)) (fun _ => 0) (fun j p hp => ph_app' (show p < (b_xaddN q r n m k l K).length from hp)) ⟨fun _ => rfl, fun w => ArrO.nil 4 53 (fun ι w v => DecQ w v (aX q n r m ι) K) w, fun _ _ _ => trivial, trivial⟩ (fun j hj => by
   skip
   exact ⟨(r_xaddN_1_0, [.from 16, .from 15, .from 0]), rfl, ⟨fun _ _ h => h, fun _ _ h => h, fun _ _ _ => trivial, trivial⟩, (lbase (qLen (sz := 4) (n := n) (F := (fun ι w v => DecQ w v (q ι) k)) Tryz.underlying30 (fun _ _ h => Rw.arr h) rfl)
   (lbase (qLen (sz := 4) (n := m) (F := (fun ι w v => DecQ w v (r ι) l)) Tryz.underlying30 (fun _ _ h => Rw.arr h) rfl)
   (lbase (qMax (fun _ _ h => h) (fun _ _ h => h) (by split <;> omega) rfl)
   (lbase (qTest (op := .lss) (fun _ _ h => h) (fun _ _ h => h) (ts_run (decide_eq_true (by omega)) (by simp)))
   (lbase (sRCoX (q := fun ι => q ι) (n := n) (i := j) (fun _ _ h => h) (fun _ _ h => h) rfl (by omega) (by omega))
   (lbase (sRCoX (q := fun ι => r ι) (n := m) (i := j) (fun _ _ h => h) (fun _ _ h => h) rfl (by omega) (by omega))
   (lbase (tAddR tS tS rfl rfl rfl (by omega) rfl)
   (lbase (qAppS (n := j) (F := (fun ι w v => DecQ w v (aX q n r m ι) K)) (fun _ _ _ _ g h => DecQ.kp h g) (fun _ _ h => h) (fun _ _ h => DecQ.reX h (hB j (by omega)).1 (hB j (by omega)).2) (fun _ _ h => DecQ.cellsA h) (by omega) rfl)
   (lbase (qAddK (fun _ _ h => h) (by omega) rfl (by omega) (by omega))
   lnil)))))))))⟩)
   (lbase (qLen (sz := 4) (n := n) (F := (fun ι w v => DecQ w v (q ι) k)) Tryz.underlying30 (fun _ _ h => Rw.arr h) rfl)
   (lbase (qLen (sz := 4) (n := m) (F := (fun ι w v => DecQ w v (r ι) l)) Tryz.underlying30 (fun _ _ h => Rw.arr h) rfl)
   (lbase (qMax (fun _ _ h => h) (fun _ _ h => h) (by split <;> omega) rfl)
   (lbase (qTest (op := .lss) (fun _ _ h => h) (fun _ _ h => h) (ts_run (decide_eq_false (by omega)) (by simp)))
   lnil))))
   (fun q hq w v h => by
    simp only [d_xaddN_1, List.mem_cons, List.not_mem_nil, or_false] at hq
    rcases hq with rfl
    ·exact (fun h => h) h)) (lbase (sCutL (q := (fun ι => aX q n r m ι)) (n := (max n m)) (k := K) (fun _ _ h => h) rfl (by omega) (by omega))
   lnil))
  (ins_ok [.fact 0 (.one (.s)), .fact 1 (.one (.s))] ⟨fun _ _ h => Rw.is (sz := 4) (F := (fun ι w v => DecQ w v (q ι) k)) (n := n) h, fun _ _ h => Rw.is (sz := 4) (F := (fun ι w v => DecQ w v (r ι) l)) (n := m) h, trivial⟩) (fun _ _ _ h => h)
section
variable {Φ : Nat -> World -> Value -> Prop} {p x y n m k l K N j : Nat} {J : List Nat} {q r s : Nat -> Rat}
theorem sRAddN (hp : ∀ w v, Φ p w v -> Rw 4 (fun i w v => DecQ w v (q i) k) n w v) (hy : ∀ w v, Φ y w v -> Rw 4 (fun i w v => DecQ w v (r i) l) m w v) (hx : Φ x = fun w v => ArrO 4 53 (fun i w v => DecQ w v (s i) K) N w v) (hn : n <= 1000000) (hm : m <= 1000000) (hk : k <= 8000) (hl : l <= 8000) (hk1 : 1 <= k) (hl1 : 1 <= l) (hK : K <= 400000) (hs : ∀ i, aX q n r m i = s i) (hB : ∀ i, i < max n m -> Bd (s i).num.natAbs K ∧ Bd (s i).den K) (hN : tl (fun i => (s i).num) (max n m) = N) : SiteOk Φ Tryz.prog ⟨122, [.fact p, .fact y], [⟨.one .s, [(0, 0, x)]⟩], .callN J j⟩ := by
 obtain rfl : aX q n r m = s := funext hs
 exact viaN (xaddN (q := q) (r := r) hn hm hk hl hk1 hl1 hK hB) ⟨hp, hy, trivial⟩ ⟨⟨rfl, ⟨rfl, rfl, fun _ _ h => hx ▸ hN ▸ h⟩, trivial⟩, trivial⟩
end
def b_xsubN (q r : Nat -> Rat) (n m k l K N : Nat) : List (World -> Value -> Prop) := [fun w v => Rw 4 (fun ι w v => DecQ w v (q ι) k) n w v, fun w v => Rw 4 (fun ι w v => DecQ w v (r ι) l) m w v, fun w v => Rw 4 (fun ι w v => DecQ w v ((-(r ι))) l) m w v, fun w v => ArrO 4 53 (fun ι w v => DecQ w v ((dX q n r m ι)) K) N w v]
def ss_xsubN : List Step := [.base ⟨101, [.fact 1], [⟨.one (.s), [(0, 0, 2)]⟩], false⟩,
   .base ⟨122, [.fact 0, .fact 2], [⟨.one (.s), [(0, 0, 3)]⟩], .callN [] 1⟩]
def ins_xsubN : List Out := [⟨.one (.s), [(0, 0, 0)]⟩, ⟨.one (.s), [(0, 0, 1)]⟩]
set_option maxRecDepth 100000 in
theorem xsubN {q r : Nat -> Rat} {n m k l K N : Nat} (hn : n <= 1000000) (hm : m <= 1000000) (hk : k <= 8000) (hl : l <= 8000) (hk1 : 1 <= k) (hl1 : 1 <= l) (hm1 : True) (hb : ∀ i, i < m -> Bd (r i).num.natAbs l ∧ Bd (r i).den l) (hmt : 0 < m -> (r (m - 1)).num ≠ 0) (hK : K <= 400000) (hB : ∀ i, i < max n m -> Bd (dX q n r m i).num.natAbs K ∧ Bd (dX q n r m i).den K) (hN : tl (fun i => (dX q n r m i).num) (max n m) = N) : CallNOk (ph (b_xsubN q r n m k l K N)) Tryz.prog ⟨95, [.fact 0, .fact 1], [⟨.one (.s), [(0, 0, 3)]⟩], false⟩ := by
 skip
 exact fn_okF ins_xsubN [⟨.one (.s), [(0, 0, 3)]⟩] ss_xsubN Tryz.func95 (by kernel_rfl)
  (lbase (sRNegX (q := fun i => r i) (n := m) (fun _ _ h => h) rfl (by omega) (by omega) hm1 hb hmt)
   (lbase (sRAddN (q := q) (r := fun i => -(r i)) (s := dX q n r m) (n := n) (m := m) (K := K) (N := N) (fun _ _ h => h) (fun _ _ h => h) rfl (by omega) (by omega) (by omega) (by omega) (by omega) (by omega) (by omega) (fun i => aX_neg) hB hN)
   lnil))
  (ins_ok [.fact 0 (.one (.s)), .fact 1 (.one (.s))] ⟨fun _ _ h => Rw.is (sz := 4) (F := (fun ι w v => DecQ w v (q ι) k)) (n := n) h, fun _ _ h => Rw.is (sz := 4) (F := (fun ι w v => DecQ w v (r ι) l)) (n := m) h, trivial⟩) (fun _ _ _ h => h)
section
variable {Φ : Nat -> World -> Value -> Prop} {p x y n m k l K N j : Nat} {J : List Nat} {q r : Nat -> Rat}
theorem sRSubN (hp : ∀ w v, Φ p w v -> Rw 4 (fun i w v => DecQ w v (q i) k) n w v) (hy : ∀ w v, Φ y w v -> Rw 4 (fun i w v => DecQ w v (r i) l) m w v) (hx : Φ x = fun w v => ArrO 4 53 (fun i w v => DecQ w v (dX q n r m i) K) N w v) (hn : n <= 1000000) (hm : m <= 1000000) (hk : k <= 8000) (hl : l <= 8000) (hk1 : 1 <= k) (hl1 : 1 <= l) (hb : ∀ i, i < m -> Bd (r i).num.natAbs l ∧ Bd (r i).den l) (ht : 0 < m -> (r (m - 1)).num ≠ 0) (hK : K <= 400000) (hB : ∀ i, i < max n m -> Bd (dX q n r m i).num.natAbs K ∧ Bd (dX q n r m i).den K) (hN : tl (fun i => (dX q n r m i).num) (max n m) = N) : SiteOk Φ Tryz.prog ⟨95, [.fact p, .fact y], [⟨.one .s, [(0, 0, x)]⟩], .callN J j⟩ :=
 viaN (xsubN (q := q) (r := r) (k := k) (l := l) hn hm hk hl hk1 hl1 trivial hb ht hK hB hN) ⟨hp, hy, trivial⟩ ⟨⟨rfl, ⟨rfl, rfl, fun _ _ h => hx ▸ h⟩, trivial⟩, trivial⟩
end
end Go.Proofs.YteblgmjpociffaaGreat.Sym
