/- The reference's polynomials over the rationals: at, Add, Scale, Mul. -/
import Derived.Test.YteblgmjpociffaaPolS
import Derived.Test.YteblgmjpociffaaPolO
namespace Go.Proofs.Yteblgmjpociffaa.Sym
open Go.RowKit
def uptoQ (n : Nat) (q : Nat → Rat) (i : Nat) : Rat := if i < n then q i else 0
theorem bd_one {k : Nat} (h : 1 ≤ k) : Bd (0 : Rat).den k := Nat.one_lt_pow (by omega) (by omega)
def b_rat_in (q : Nat → Rat) (n i k : Nat) : List (World → Value → Prop) := [fun w v => Rw 4 (fun ι w v => DecQ w v (q ι) k) n w v, fun _ v => v = .int .i64 ((i : Nat) : Int), fun _ v => v = .int .i64 ((n : Nat) : Int), fun w v => Ptr 4 (fun w v => DecQ w v (q i) k) w v, fun w v => DecQ w v (q i) k]
def ss_rat_in : List Step := [.base ⟨0, [.fact 1, .lit (.ci .i64 0)], [⟨.one (.lit (.cb false)), []⟩], .quiet (mBin .lss)⟩,
      .base ⟨0, [.fact 0], [⟨.one (.i), [(0, 0, 2)]⟩], .quiet (mLen 25)⟩,
      .base ⟨0, [.fact 1, .fact 2], [⟨.one (.lit (.cb false)), []⟩], .quiet (mBin .geq)⟩,
      .base ⟨0, [.fact 0, .fact 1], [⟨.one (.p), [(0, 0, 3)]⟩], .quiet (mIdx 25)⟩,
      .base ⟨0, [.fact 3], [⟨.agg [.s, .b, .s, .b], [(0, 0, 4)]⟩], .quiet (mLoad 47)⟩]
def ins_rat_in : List Out := [⟨.one (.s), [(0, 0, 0)]⟩, ⟨.one (.i), [(0, 0, 1)]⟩]
set_option maxRecDepth 100000 in
theorem rat_in {q : Nat → Rat} {n i k : Nat} (_hn : n ≤ 1000000) (hi : i < n) : SiteOk (ph (b_rat_in q n i k)) Try.prog ⟨44, [.fact 0, .fact 1], [⟨.agg [.s, .b, .s, .b], [(0, 0, 4)]⟩], false⟩ := by
  skip
  exact fn_okL ins_rat_in [⟨.agg [.s, .b, .s, .b], [(0, 0, 4)]⟩] ss_rat_in Try.func44 (by kernel_rfl)
    (lbase (qTestC (op := .lss) (fun _ _ h => h) (ts_run (show decide (((i : Nat) : Int) < 0) = false from decide_eq_false (by omega)) (by simp)))
      (lbase (qLen (sz := 4) (n := n) (F := (fun ι w v => DecQ w v (q ι) k)) Try.underlying25 (fun _ _ h => Rw.arr h) rfl)
      (lbase (qTest (op := .geq) (fun _ _ h => h) (fun _ _ h => h) (ts_run (decide_eq_false (by omega)) (by simp)))
      (lbase (qIdx (i := i) (sz := 4) (n := n) (F := (fun ι w v => DecQ w v (q ι) k)) Try.underlying25 (by kernel_rfl) (fun _ _ h => Rw.arr h) (fun _ _ h => h) (by omega) rfl)
      (lbase (qLoad (sz := 4) (F := fun w v => DecQ w v (q i) k) (by kernel_rfl) (by kernel_rfl) (fun _ _ h => h) (fun _ _ _ g h => DecQ.kp h g) (fun _ _ h => DecQ.is h) rfl)
      lnil)))))
    (ins_ok [.fact 0 (.one (.s)), .fact 1 (.one (.i))] ⟨fun _ _ h => Rw.is (sz := 4) (F := (fun ι w v => DecQ w v (q ι) k)) (n := n) h, fun _ _ h => h ▸ int_is _, trivial⟩) (fun _ _ _ h => h)

def b_rat_out (q : Nat → Rat) (n i k : Nat) : List (World → Value → Prop) := [fun w v => Rw 4 (fun ι w v => DecQ w v (q ι) k) n w v, fun _ v => v = .int .i64 ((i : Nat) : Int), fun _ v => v = .int .i64 ((n : Nat) : Int), fun w v => DecQ w v (qOf 0 1) 6, fun w v => DecI w v ((qOf 0 1).num) 6, fun w v => DecI w v ((qOf 0 1).den : Int) 6]
def ss_rat_out : List Step := [.base ⟨0, [.fact 1, .lit (.ci .i64 0)], [⟨.one (.lit (.cb false)), []⟩], .quiet (mBin .lss)⟩,
      .base ⟨0, [.fact 0], [⟨.one (.i), [(0, 0, 2)]⟩], .quiet (mLen 25)⟩,
      .base ⟨0, [.fact 1, .fact 2], [⟨.one (.lit (.cb true)), []⟩], .quiet (mBin .geq)⟩,
      .base ⟨49, [], [⟨.agg [.s, .b, .s, .b], [(0, 0, 3), (0, 2, 4), (2, 2, 5)]⟩], false⟩]
def ins_rat_out : List Out := [⟨.one (.s), [(0, 0, 0)]⟩, ⟨.one (.i), [(0, 0, 1)]⟩]
set_option maxRecDepth 100000 in
theorem rat_out {q : Nat → Rat} {n i k : Nat} (_hn : n ≤ 1000000) (hi : n ≤ i) : SiteOk (ph (b_rat_out q n i k)) Try.prog ⟨44, [.fact 0, .fact 1], [⟨.agg [.s, .b, .s, .b], [(0, 0, 3)]⟩], false⟩ := by
  skip
  exact fn_okL ins_rat_out [⟨.agg [.s, .b, .s, .b], [(0, 0, 3)]⟩] ss_rat_out Try.func44 (by kernel_rfl)
    (lbase (qTestC (op := .lss) (fun _ _ h => h) (ts_run (show decide (((i : Nat) : Int) < 0) = false from decide_eq_false (by omega)) (by simp)))
      (lbase (qLen (sz := 4) (n := n) (F := (fun ι w v => DecQ w v (q ι) k)) Try.underlying25 (fun _ _ h => Rw.arr h) rfl)
      (lbase (qTest (op := .geq) (fun _ _ h => h) (fun _ _ h => h) (ts_run (decide_eq_true (by omega)) (by simp)))
      (lbase (tZero5 rfl rfl rfl)
      lnil))))
    (ins_ok [.fact 0 (.one (.s)), .fact 1 (.one (.i))] ⟨fun _ _ h => Rw.is (sz := 4) (F := (fun ι w v => DecQ w v (q ι) k)) (n := n) h, fun _ _ h => h ▸ int_is _, trivial⟩) (fun _ _ _ h => h)

section
variable {Φ : Nat → World → Value → Prop} {p x y n i k : Nat} {q : Nat → Rat}
theorem sRCo (hp : ∀ w v, Φ p w v → Rw 4 (fun i w v => DecQ w v (q i) k) n w v) (hy : ∀ w v, Φ y w v → v = .int .i64 (i : Int)) (hx : Φ x = fun w v => DecQ w v (uptoQ n q i) k) (hn : n ≤ 1000000) (hk : 1 ≤ k) : SiteOk Φ Try.prog ⟨44, [.fact p, .fact y], [⟨.agg [.s, .b, .s, .b], [(0, 0, x)]⟩], false⟩ := by
  rcases Nat.lt_or_ge i n with h | h
  · refine viaG (rat_in (q := q) (n := n) (i := i) (k := k) hn h) ⟨hp, hy, trivial⟩ ⟨⟨rfl, ⟨rfl, rfl, fun w v h1 => ?_⟩, trivial⟩, trivial⟩
    rw [hx, uptoQ, if_pos h]; exact h1
  · refine viaG (rat_out (q := q) (n := n) (i := i) (k := k) hn h) ⟨hp, hy, trivial⟩ ⟨⟨rfl, ⟨rfl, rfl, fun w v h1 => ?_⟩, trivial⟩, trivial⟩
    rw [hx, uptoQ, if_neg (by omega)]
    exact DecQ.re (DecQ.eq h1 qOf_00) (bd_zero k) (bd_one hk)
end
def aQ (q : Nat → Rat) (n : Nat) (r : Nat → Rat) (m i : Nat) : Rat := uptoQ n q i + uptoQ m r i
/-- The numbers of a product behind j whole rounds; and behind i steps of the next one. -/
def cvSQ (q r : Nat → Rat) (l : Nat) : Nat → Nat → Rat
  | 0, _ => 0
  | j + 1, p => cvSQ q r l j p + (if j ≤ p ∧ p < j + l then q j * r (p - j) else 0)
def cvIQ (q r : Nat → Rat) (l j i p : Nat) : Rat := cvSQ q r l j p + (if j ≤ p ∧ p < j + i then q j * r (p - j) else 0)
section
variable {q r : Nat → Rat} {l j i p : Nat}
theorem cvIQ_zero : cvIQ q r l j 0 p = cvSQ q r l j p := by
  unfold cvIQ
  rw [if_neg (by omega), Rat.add_zero]
theorem cvIQ_ne (h : p ≠ j + i) : cvIQ q r l j (i + 1) p = cvIQ q r l j i p := by
  unfold cvIQ
  split <;> split <;> first | rfl | omega
theorem cvIQ_at : cvIQ q r l j i (j + i) + q j * r i = cvIQ q r l j (i + 1) (j + i) := by
  unfold cvIQ
  rw [if_neg (by omega), if_pos (by omega), show j + i - j = i by omega, Rat.add_zero]
end
theorem FilQ.kp {j K : Nat} {w w1 : World} {v : Value} {i : Nat} (h : i < j → DecQ w v 0 K) (g : Kp w w1) : i < j → DecQ w1 v 0 K := fun hi => DecQ.kp (h hi) g
def b_radd (q r : Nat → Rat) (n m k l K : Nat) : List (World → Value → Prop) := [fun w v => Rw 4 (fun ι w v => DecQ w v (q ι) k) n w v, fun w v => Rw 4 (fun ι w v => DecQ w v (r ι) l) m w v, fun w v => ArrO 4 47 (fun ι w v => DecQ w v (aQ q n r m ι) K) (max n m) w v, fun w v => Rw 4 (fun ι w v => DecQ w v (aQ q n r m ι) K) (tl (fun ι => (aQ q n r m ι).num) (max n m)) w v]
def l_radd_1 (q r : Nat → Rat) (n m k l K : Nat) (j : Nat) : List (World → Value → Prop) := [fun _ v => v = .int .i64 ((j : Nat) : Int), fun w v => ArrO 4 47 (fun ι w v => DecQ w v (aQ q n r m ι) K) j w v, fun _ _ => True, fun _ v => v = .int .i64 ((n : Nat) : Int), fun _ v => v = .int .i64 ((m : Nat) : Int), fun _ v => v = .int .i64 (((max n m) : Nat) : Int), fun w v => DecQ w v (uptoQ n (fun ι => q ι) j) k, fun w v => DecQ w v (uptoQ m (fun ι => r ι) j) l, fun w v => DecQ w v ((uptoQ n (fun ι => q ι) j) + (uptoQ m (fun ι => r ι) j)) (3 * (k + l) + 3), fun w v => DecI w v (((uptoQ n (fun ι => q ι) j) + (uptoQ m (fun ι => r ι) j)).num) (3 * (k + l) + 3), fun w v => DecI w v (((uptoQ n (fun ι => q ι) j) + (uptoQ m (fun ι => r ι) j)).den : Int) (3 * (k + l) + 3), fun w v => ArrO 4 47 (fun ι w v => DecQ w v (aQ q n r m ι) K) (j + 1) w v, fun _ v => v = .int .i64 (((j + 1) : Nat) : Int), fun _ v => v = .int .i64 ((n : Nat) : Int), fun _ v => v = .int .i64 ((m : Nat) : Int), fun _ v => v = .int .i64 (((max n m) : Nat) : Int)]
def d_radd_1 : LoopD := ⟨[0, 1, 4], [(.slot 6, .i), (.slot 5, .s)], [(.one 0, 4), (.one 1, .at [1] 5), (.one 1, .lo 1)], [.closed (.one (.ci .i64 0)), .closed (.one (.nl)), .from 0], 4, [(5, 2)]⟩
def r_radd_1_0 : List Step := [.base ⟨0, [.fact 0], [⟨.one (.i), [(0, 0, 7)]⟩], .quiet (mLen 25)⟩,
      .base ⟨0, [.fact 1], [⟨.one (.i), [(0, 0, 8)]⟩], .quiet (mLen 25)⟩,
      .base ⟨0, [.fact 7, .fact 8], [⟨.one (.i), [(0, 0, 9)]⟩], .quiet (mMax .max)⟩,
      .base ⟨0, [.fact 4, .fact 9], [⟨.one (.lit (.cb true)), []⟩], .quiet (mBin .lss)⟩,
      .base ⟨44, [.fact 0, .fact 4], [⟨.agg [.s, .b, .s, .b], [(0, 0, 10)]⟩], false⟩,
      .base ⟨44, [.fact 1, .fact 4], [⟨.agg [.s, .b, .s, .b], [(0, 0, 11)]⟩], false⟩,
      .base ⟨43, [.fact 10, .fact 11], [⟨.agg [.s, .b, .s, .b], [(0, 0, 12), (0, 2, 13), (2, 2, 14)]⟩], false⟩,
      .base ⟨0, [.fact 5, .row 4 [12]], [⟨.one (.s), [(0, 0, 15)]⟩], .loose [] 1 0 (mApp 25 25)⟩,
      .base ⟨0, [.fact 4, .lit (.ci .i64 1)], [⟨.one (.i), [(0, 0, 16)]⟩], .quiet (mBin .add)⟩]
def o_radd_1 : List Step := [.base ⟨0, [.fact 0], [⟨.one (.i), [(0, 0, 17)]⟩], .quiet (mLen 25)⟩,
      .base ⟨0, [.fact 1], [⟨.one (.i), [(0, 0, 18)]⟩], .quiet (mLen 25)⟩,
      .base ⟨0, [.fact 17, .fact 18], [⟨.one (.i), [(0, 0, 19)]⟩], .quiet (mMax .max)⟩,
      .base ⟨0, [.fact 4, .fact 19], [⟨.one (.lit (.cb false)), []⟩], .quiet (mBin .lss)⟩]
def ss_radd : List Step := [.loop d_radd_1 [(r_radd_1_0, [.from 16, .from 15, .from 0])] o_radd_1,
      .base ⟨45, [.fact 2], [⟨.one (.s), [(0, 0, 3)]⟩], .callJ [1] false⟩]
def ins_radd : List Out := [⟨.one (.s), [(0, 0, 0)]⟩, ⟨.one (.s), [(0, 0, 1)]⟩]
set_option maxRecDepth 100000 in
theorem radd {q r : Nat → Rat} {n m k l K : Nat} (hn : n ≤ 1000000) (hm : m ≤ 1000000) (hk : k ≤ 8000) (hl : l ≤ 8000) (hk1 : 1 ≤ k) (hl1 : 1 ≤ l) (hK : K ≤ 400000) (hB : ∀ i, i < max n m → Bd (aQ q n r m i).num.natAbs K ∧ Bd (aQ q n r m i).den K) : SiteOk (ph (b_radd q r n m k l K)) Try.prog ⟨10, [.fact 0, .fact 1], [⟨.one (.s), [(0, 0, 3)]⟩], false⟩ := by
  skip
  exact fn_okL ins_radd [⟨.one (.s), [(0, 0, 3)]⟩] ss_radd Try.func10 (by kernel_rfl)
    (lloop (counted (max n m) (fun j => ph (b_radd q r n m k l K ++ l_radd_1 q r n m k l K j)) (fun _ => 0) (fun j p hp => ph_app' (show p < (b_radd q r n m k l K).length from hp)) ⟨fun _ => rfl, fun w => ArrO.nil 4 47 (fun ι w v => DecQ w v (aQ q n r m ι) K) w, fun _ _ _ => trivial, trivial⟩ (fun j hj => by
      skip
      exact ⟨(r_radd_1_0, [.from 16, .from 15, .from 0]), rfl, ⟨fun _ _ h => h, fun _ _ h => h, fun _ _ _ => trivial, trivial⟩, (lbase (qLen (sz := 4) (n := n) (F := (fun ι w v => DecQ w v (q ι) k)) Try.underlying25 (fun _ _ h => Rw.arr h) rfl)
      (lbase (qLen (sz := 4) (n := m) (F := (fun ι w v => DecQ w v (r ι) l)) Try.underlying25 (fun _ _ h => Rw.arr h) rfl)
      (lbase (qMax (fun _ _ h => h) (fun _ _ h => h) (by split <;> omega) rfl)
      (lbase (qTest (op := .lss) (fun _ _ h => h) (fun _ _ h => h) (ts_run (decide_eq_true (by omega)) (by simp)))
      (lbase (sRCo (q := fun ι => q ι) (n := n) (i := j) (fun _ _ h => h) (fun _ _ h => h) rfl (by omega) (by omega))
      (lbase (sRCo (q := fun ι => r ι) (n := m) (i := j) (fun _ _ h => h) (fun _ _ h => h) rfl (by omega) (by omega))
      (lbase (tAddR tS tS rfl rfl rfl (by omega) rfl)
      (lbase (qAppS (n := j) (F := (fun ι w v => DecQ w v (aQ q n r m ι) K)) (fun _ _ _ _ g h => DecQ.kp h g) (fun _ _ h => h) (fun _ _ h => DecQ.re h (hB j (by omega)).1 (hB j (by omega)).2) (fun _ _ h => DecQ.cellsA h) (by omega) rfl)
      (lbase (qAddK (fun _ _ h => h) (by omega) rfl (by omega) (by omega))
      lnil)))))))))⟩)
      (lbase (qLen (sz := 4) (n := n) (F := (fun ι w v => DecQ w v (q ι) k)) Try.underlying25 (fun _ _ h => Rw.arr h) rfl)
      (lbase (qLen (sz := 4) (n := m) (F := (fun ι w v => DecQ w v (r ι) l)) Try.underlying25 (fun _ _ h => Rw.arr h) rfl)
      (lbase (qMax (fun _ _ h => h) (fun _ _ h => h) (by split <;> omega) rfl)
      (lbase (qTest (op := .lss) (fun _ _ h => h) (fun _ _ h => h) (ts_run (decide_eq_false (by omega)) (by simp)))
      lnil))))
      (fun q hq w v h => by
        simp only [d_radd_1, List.mem_cons, List.not_mem_nil, or_false] at hq
        rcases hq with rfl
        · exact (fun h => h) h)) (lbase (onJ [1] (sCut (q := (fun ι => aQ q n r m ι)) (n := (max n m)) (k := K) (fun _ _ h => ArrO.rw h) rfl (by omega) (by omega)))
      lnil))
    (ins_ok [.fact 0 (.one (.s)), .fact 1 (.one (.s))] ⟨fun _ _ h => Rw.is (sz := 4) (F := (fun ι w v => DecQ w v (q ι) k)) (n := n) h, fun _ _ h => Rw.is (sz := 4) (F := (fun ι w v => DecQ w v (r ι) l)) (n := m) h, trivial⟩) (fun _ _ _ h => h)

def b_rscale (q : Nat → Rat) (c : Rat) (n k l K : Nat) : List (World → Value → Prop) := [fun w v => Rw 4 (fun ι w v => DecQ w v (q ι) k) n w v, fun w v => DecQ w v c l, fun _ v => v = .int .i64 ((n : Nat) : Int), fun w v => ArrO 4 47 (fun ι w v => DecQ w v ((fun i => q i * c) ι) K) n w v, fun w v => Rw 4 (fun ι w v => DecQ w v ((fun i => q i * c) ι) K) (tl (fun ι => ((fun i => q i * c) ι).num) n) w v]
def l_rscale_1 (q : Nat → Rat) (c : Rat) (k l K : Nat) (j : Nat) : List (World → Value → Prop) := [fun _ v => v = .int .i64 ((j : Nat) : Int), fun w v => ArrO 4 47 (fun ι w v => DecQ w v ((fun i => q i * c) ι) K) j w v, fun _ _ => True, fun w v => Ptr 4 (fun w v => DecQ w v (q j) k) w v, fun w v => DecQ w v (q j) k, fun w v => DecQ w v ((q j) * c) (2 * (k + l) + 2), fun w v => DecI w v (((q j) * c).num) (2 * (k + l) + 2), fun w v => DecI w v (((q j) * c).den : Int) (2 * (k + l) + 2), fun w v => ArrO 4 47 (fun ι w v => DecQ w v ((fun i => q i * c) ι) K) (j + 1) w v, fun _ v => v = .int .i64 (((j + 1) : Nat) : Int)]
def d_rscale_1 : LoopD := ⟨[0, 1, 3, 4, 7, 8], [(.slot 9, .i), (.slot 5, .s)], [(.one 0, 5), (.one 1, .at [1] 6), (.one 1, .lo 1)], [.closed (.one (.ci .i64 0)), .closed (.one (.nl)), .from 0], 5, [(6, 3)]⟩
def r_rscale_1_0 : List Step := [.base ⟨0, [.fact 5, .fact 2], [⟨.one (.lit (.cb true)), []⟩], .quiet (mBin .lss)⟩,
      .base ⟨0, [.fact 0, .fact 5], [⟨.one (.p), [(0, 0, 8)]⟩], .quiet (mIdx 25)⟩,
      .base ⟨0, [.fact 8], [⟨.agg [.s, .b, .s, .b], [(0, 0, 9)]⟩], .quiet (mLoad 47)⟩,
      .base ⟨50, [.fact 9, .fact 1], [⟨.agg [.s, .b, .s, .b], [(0, 0, 10), (0, 2, 11), (2, 2, 12)]⟩], false⟩,
      .base ⟨0, [.fact 6, .row 4 [10]], [⟨.one (.s), [(0, 0, 13)]⟩], .loose [] 1 0 (mApp 25 25)⟩,
      .base ⟨0, [.fact 5, .lit (.ci .i64 1)], [⟨.one (.i), [(0, 0, 14)]⟩], .quiet (mBin .add)⟩]
def o_rscale_1 : List Step := [.base ⟨0, [.fact 5, .fact 2], [⟨.one (.lit (.cb false)), []⟩], .quiet (mBin .lss)⟩]
def ss_rscale : List Step := [.base ⟨0, [.fact 0], [⟨.one (.i), [(0, 0, 2)]⟩], .quiet (mLen 25)⟩,
      .loop d_rscale_1 [(r_rscale_1_0, [.from 14, .from 13, .from 0])] o_rscale_1,
      .base ⟨45, [.fact 3], [⟨.one (.s), [(0, 0, 4)]⟩], .callJ [1] false⟩]
def ins_rscale : List Out := [⟨.one (.s), [(0, 0, 0)]⟩, ⟨.agg [.s, .b, .s, .b], [(0, 0, 1)]⟩]
set_option maxRecDepth 100000 in
theorem rscale {q : Nat → Rat} {c : Rat} {n k l K : Nat} (hn : n ≤ 1000000) (hk : k ≤ 8000) (hl : l ≤ 8000) (hK : K ≤ 400000) (hB : ∀ i, i < n → Bd (q i * c).num.natAbs K ∧ Bd (q i * c).den K) : SiteOk (ph (b_rscale q c n k l K)) Try.prog ⟨31, [.fact 0, .fact 1], [⟨.one (.s), [(0, 0, 4)]⟩], false⟩ := by
  skip
  exact fn_okL ins_rscale [⟨.one (.s), [(0, 0, 4)]⟩] ss_rscale Try.func31 (by kernel_rfl)
    (lbase (qLen (sz := 4) (n := n) (F := (fun ι w v => DecQ w v (q ι) k)) Try.underlying25 (fun _ _ h => Rw.arr h) rfl)
      (lloop (counted n (fun j => ph (b_rscale q c n k l K ++ l_rscale_1 q c k l K j)) (fun _ => 0) (fun j p hp => ph_app' (show p < (b_rscale q c n k l K).length from hp)) ⟨fun _ => rfl, fun w => ArrO.nil 4 47 (fun ι w v => DecQ w v ((fun i => q i * c) ι) K) w, fun _ _ _ => trivial, trivial⟩ (fun j hj => by
      skip
      exact ⟨(r_rscale_1_0, [.from 14, .from 13, .from 0]), rfl, ⟨fun _ _ h => h, fun _ _ h => h, fun _ _ _ => trivial, trivial⟩, (lbase (qTest (op := .lss) (fun _ _ h => h) (fun _ _ h => h) (ts_run (decide_eq_true (by omega)) (by simp)))
      (lbase (qIdx (i := j) (sz := 4) (n := n) (F := (fun ι w v => DecQ w v (q ι) k)) Try.underlying25 (by kernel_rfl) (fun _ _ h => Rw.arr h) (fun _ _ h => h) (by omega) rfl)
      (lbase (qLoad (sz := 4) (F := fun w v => DecQ w v (q j) k) (by kernel_rfl) (by kernel_rfl) (fun _ _ h => h) (fun _ _ _ g h => DecQ.kp h g) (fun _ _ h => DecQ.is h) rfl)
      (lbase (tMulR tS tS rfl rfl rfl (by omega) rfl)
      (lbase (qAppS (n := j) (F := (fun ι w v => DecQ w v ((fun i => q i * c) ι) K)) (fun _ _ _ _ g h => DecQ.kp h g) (fun _ _ h => h) (fun _ _ h => DecQ.re h (hB j (by omega)).1 (hB j (by omega)).2) (fun _ _ h => DecQ.cellsA h) (by omega) rfl)
      (lbase (qAddK (fun _ _ h => h) (by omega) rfl (by omega) (by omega))
      lnil))))))⟩)
      (lbase (qTest (op := .lss) (fun _ _ h => h) (fun _ _ h => h) (ts_run (decide_eq_false (by omega)) (by simp)))
      lnil)
      (fun q hq w v h => by
        simp only [d_rscale_1, List.mem_cons, List.not_mem_nil, or_false] at hq
        rcases hq with rfl
        · exact (fun h => h) h)) (lbase (onJ [1] (sCut (q := (fun ι => (fun i => q i * c) ι)) (n := n) (k := K) (fun _ _ h => ArrO.rw h) rfl (by omega) (by omega)))
      lnil)))
    (ins_ok [.fact 0 (.one (.s)), .fact 1 (.agg [.s, .b, .s, .b])] ⟨fun _ _ h => Rw.is (sz := 4) (F := (fun ι w v => DecQ w v (q ι) k)) (n := n) h, fun _ _ h => DecQ.is h, trivial⟩) (fun _ _ _ h => h)
def b_rmul (q r : Nat → Rat) (n m k l K : Nat) : List (World → Value → Prop) := [fun w v => Rw 4 (fun ι w v => DecQ w v (q ι) k) n w v, fun w v => Rw 4 (fun ι w v => DecQ w v (r ι) l) m w v, fun _ v => v = .int .i64 ((n : Nat) : Int), fun _ v => v = .int .i64 ((m : Nat) : Int), fun _ v => v = .int .i64 ((n : Nat) : Int), fun _ v => v = .int .i64 ((m : Nat) : Int), fun _ v => v = .int .i64 (((n + m) : Nat) : Int), fun _ v => v = .int .i64 (((n + m - 1) : Nat) : Int), fun w v => ArrO 4 47 (fun ι w v => ι < 0 → DecQ w v 0 K) (n + m - 1) w v, LenS (n + m - 1), fun _ v => v = .int .i64 (((n + m - 1) : Nat) : Int), fun w v => ArrO 4 47 (fun ι w v => DecQ w v (cvSQ q r m 0 ι) K) (n + m - 1) w v, fun _ v => v = .int .i64 ((n : Nat) : Int), fun w v => ArrO 4 47 (fun ι w v => DecQ w v (cvSQ q r m n ι) K) (n + m - 1) w v, fun w v => Rw 4 (fun ι w v => DecQ w v (cvSQ q r m n ι) K) (tl (fun ι => (cvSQ q r m n ι).num) (n + m - 1)) w v]
def l_rmul_3 (q r : Nat → Rat) (n m k l K : Nat) (j i : Nat) : List (World → Value → Prop) := [fun _ v => v = .int .i64 ((i : Nat) : Int), fun w v => ArrO 4 47 (fun ι w v => DecQ w v (cvIQ q r m j i ι) K) (n + m - 1) w v, fun _ _ => True, fun _ v => v = .int .i64 (((j + i) : Nat) : Int), fun _ v => v = .int .i64 (((j + i) : Nat) : Int), At 4, fun w v => Ptr 4 (fun w v => DecQ w v (cvIQ q r m j i (j + i)) K) w v, fun w v => DecQ w v (cvIQ q r m j i (j + i)) K, fun w v => Ptr 4 (fun w v => DecQ w v (q j) k) w v, fun w v => DecQ w v (q j) k, fun w v => Ptr 4 (fun w v => DecQ w v (r i) l) w v, fun w v => DecQ w v (r i) l, fun w v => DecQ w v ((q j) * (r i)) (2 * (k + l) + 2), fun w v => DecI w v (((q j) * (r i)).num) (2 * (k + l) + 2), fun w v => DecI w v (((q j) * (r i)).den : Int) (2 * (k + l) + 2), fun w v => DecQ w v ((cvIQ q r m j i (j + i)) + ((q j) * (r i))) (3 * (K + (2 * (k + l) + 2)) + 3), fun w v => DecI w v (((cvIQ q r m j i (j + i)) + ((q j) * (r i))).num) (3 * (K + (2 * (k + l) + 2)) + 3), fun w v => DecI w v (((cvIQ q r m j i (j + i)) + ((q j) * (r i))).den : Int) (3 * (K + (2 * (k + l) + 2)) + 3), At 4, fun w v => Ptr 4 (fun w v => DecQ w v (cvIQ q r m j i (j + i)) K) w v, fun w v => ArrO 4 47 (fun ι w v => DecQ w v (cvIQ q r m j (i + 1) ι) K) (n + m - 1) w v, fun _ v => v = .int .i64 (((i + 1) : Nat) : Int)]
def d_rmul_3 : LoopD := ⟨[0, 1, 4, 7, 9, 10, 11, 12, 13, 14, 15, 16, 17, 18, 19, 20, 21, 22, 23, 24, 25, 26, 27, 34, 35, 36, 37, 38, 39, 40], [(.slot 41, .i), (.slot 5, .s)], [(.one 0, 21), (.one 1, .at [1] 22), (.one 1, .lo 1)], [.closed (.one (.ci .i64 0)), .from 16, .from 0], 21, [(22, 19)]⟩
def r_rmul_3_0 : List Step := [.base ⟨0, [.fact 21, .fact 18], [⟨.one (.lit (.cb true)), []⟩], .quiet (mBin .lss)⟩,
      .base ⟨0, [.fact 15, .fact 21], [⟨.one (.i), [(0, 0, 24)]⟩], .quiet (mBin .add)⟩,
      .base ⟨0, [.fact 15, .fact 21], [⟨.one (.i), [(0, 0, 25)]⟩], .quiet (mBin .add)⟩,
      .base ⟨0, [.fact 22, .fact 25], [⟨.one (.p), [(0, 0, 27)]⟩], .joint [1] 26 (mIdx 25)⟩,
      .base ⟨0, [.fact 27], [⟨.agg [.s, .b, .s, .b], [(0, 0, 28)]⟩], .quietJ [1] (mLoad 47)⟩,
      .base ⟨0, [.fact 0, .fact 15], [⟨.one (.p), [(0, 0, 29)]⟩], .quiet (mIdx 25)⟩,
      .base ⟨0, [.fact 29], [⟨.agg [.s, .b, .s, .b], [(0, 0, 30)]⟩], .quiet (mLoad 47)⟩,
      .base ⟨0, [.fact 1, .fact 21], [⟨.one (.p), [(0, 0, 31)]⟩], .quiet (mIdx 25)⟩,
      .base ⟨0, [.fact 31], [⟨.agg [.s, .b, .s, .b], [(0, 0, 32)]⟩], .quiet (mLoad 47)⟩,
      .base ⟨50, [.fact 30, .fact 32], [⟨.agg [.s, .b, .s, .b], [(0, 0, 33), (0, 2, 34), (2, 2, 35)]⟩], false⟩,
      .base ⟨43, [.fact 28, .fact 33], [⟨.agg [.s, .b, .s, .b], [(0, 0, 36), (0, 2, 37), (2, 2, 38)]⟩], .callJ [1] false⟩,
      .base ⟨0, [.fact 22, .fact 24], [⟨.one (.p), [(0, 0, 40)]⟩], .joint [1] 39 (mIdx 25)⟩,
      .base ⟨0, [.fact 22, .fact 24, .any, .fact 36], [⟨.one .s, [(0, 0, 41)]⟩], .put [] 1 0 39 (mPut 47 (.tmp 44) (.tmp 47))⟩,
      .base ⟨0, [.fact 21, .lit (.ci .i64 1)], [⟨.one (.i), [(0, 0, 42)]⟩], .quiet (mBin .add)⟩]
def o_rmul_3 : List Step := [.base ⟨0, [.fact 21, .fact 18], [⟨.one (.lit (.cb false)), []⟩], .quiet (mBin .lss)⟩]
def l_rmul_2 (q r : Nat → Rat) (n m K : Nat) (j : Nat) : List (World → Value → Prop) := [fun _ v => v = .int .i64 ((j : Nat) : Int), fun w v => ArrO 4 47 (fun ι w v => DecQ w v (cvSQ q r m j ι) K) (n + m - 1) w v, fun _ _ => True, fun _ v => v = .int .i64 ((m : Nat) : Int), fun w v => ArrO 4 47 (fun ι w v => DecQ w v (cvIQ q r m j m ι) K) (n + m - 1) w v, fun _ v => v = .int .i64 (((j + 1) : Nat) : Int)]
def d_rmul_2 : LoopD := ⟨[0, 1, 4, 9, 10, 11, 12, 13, 14, 15, 16, 17, 18, 19, 20, 21, 22, 23, 24, 25, 26, 27, 34, 35], [(.slot 36, .i), (.slot 5, .s)], [(.one 0, 15), (.one 1, .at [1] 16), (.one 1, .lo 1)], [.closed (.one (.ci .i64 0)), .from 11, .from 0], 15, [(16, 13)]⟩
def r_rmul_2_0 : List Step := [.base ⟨0, [.fact 15, .fact 12], [⟨.one (.lit (.cb true)), []⟩], .quiet (mBin .lss)⟩,
      .base ⟨0, [.fact 1], [⟨.one (.i), [(0, 0, 18)]⟩], .quiet (mLen 25)⟩,
      .loop d_rmul_3 [(r_rmul_3_0, [.from 42, .from 41, .from 0])] o_rmul_3,
      .base ⟨0, [.fact 15, .lit (.ci .i64 1)], [⟨.one (.i), [(0, 0, 20)]⟩], .quiet (mBin .add)⟩]
def o_rmul_2 : List Step := [.base ⟨0, [.fact 15, .fact 12], [⟨.one (.lit (.cb false)), []⟩], .quiet (mBin .lss)⟩]
def l_rmul_1 (n m K : Nat) (j : Nat) : List (World → Value → Prop) := [fun _ v => v = .int .i64 ((j : Nat) : Int), fun w v => ArrO 4 47 (fun ι w v => ι < j → DecQ w v 0 K) (n + m - 1) w v, fun _ _ => True, fun w v => DecQ w v (qOf 0 1) 6, fun w v => DecI w v ((qOf 0 1).num) 6, fun w v => DecI w v ((qOf 0 1).den : Int) 6, At 4, fun w v => Ptr 4 (fun w v => j < j → DecQ w v 0 K) w v, fun w v => ArrO 4 47 (fun ι w v => ι < (j + 1) → DecQ w v 0 K) (n + m - 1) w v, fun _ v => v = .int .i64 (((j + 1) : Nat) : Int)]
def d_rmul_1 : LoopD := ⟨[0, 1, 4, 9, 10, 11, 12, 13, 14, 15, 16, 17, 18, 19, 20, 21, 22, 23, 24, 25], [(.slot 26, .i), (.slot 5, .s)], [(.one 0, 15), (.one 1, .at [1] 16), (.one 1, .lo 1)], [.closed (.one (.ci .i64 0)), .from 8, .from 0], 15, [(16, 11)]⟩
def r_rmul_1_0 : List Step := [.base ⟨0, [.fact 15, .fact 10], [⟨.one (.lit (.cb true)), []⟩], .quiet (mBin .lss)⟩,
      .base ⟨49, [], [⟨.agg [.s, .b, .s, .b], [(0, 0, 18), (0, 2, 19), (2, 2, 20)]⟩], false⟩,
      .base ⟨0, [.fact 16, .fact 15], [⟨.one (.p), [(0, 0, 22)]⟩], .joint [1] 21 (mIdx 25)⟩,
      .base ⟨0, [.fact 16, .fact 15, .any, .fact 18], [⟨.one .s, [(0, 0, 23)]⟩], .put [] 1 0 21 (mPut 47 (.tmp 29) (.tmp 30))⟩,
      .base ⟨0, [.fact 15, .lit (.ci .i64 1)], [⟨.one (.i), [(0, 0, 24)]⟩], .quiet (mBin .add)⟩]
def o_rmul_1 : List Step := [.base ⟨0, [.fact 15, .fact 10], [⟨.one (.lit (.cb false)), []⟩], .quiet (mBin .lss)⟩]
def ss_rmul : List Step := [.base ⟨0, [.fact 0], [⟨.one (.i), [(0, 0, 2)]⟩], .quiet (mLen 25)⟩,
      .base ⟨0, [.fact 2, .lit (.ci .i64 0)], [⟨.one (.lit (.cb false)), []⟩], .quiet (mBin .eql)⟩,
      .base ⟨0, [.fact 1], [⟨.one (.i), [(0, 0, 3)]⟩], .quiet (mLen 25)⟩,
      .base ⟨0, [.fact 3, .lit (.ci .i64 0)], [⟨.one (.lit (.cb false)), []⟩], .quiet (mBin .eql)⟩,
      .base ⟨0, [.fact 0], [⟨.one (.i), [(0, 0, 4)]⟩], .quiet (mLen 25)⟩,
      .base ⟨0, [.fact 1], [⟨.one (.i), [(0, 0, 5)]⟩], .quiet (mLen 25)⟩,
      .base ⟨0, [.fact 4, .fact 5], [⟨.one (.i), [(0, 0, 6)]⟩], .quiet (mBin .add)⟩,
      .base ⟨0, [.fact 6, .lit (.ci .i64 1)], [⟨.one (.i), [(0, 0, 7)]⟩], .quiet (mBin .sub)⟩,
      .base ⟨0, [.fact 7, .fact 7], [⟨.one (.s), [(0, 0, 8)]⟩], .loose [] 1 0 (mMake 25)⟩,
      .freed (.one (.s 16 0)) 8 9,
      .base ⟨0, [.fact 9], [⟨.one (.i), [(0, 0, 10)]⟩], .quiet (mLen 25)⟩,
      .loop d_rmul_1 [(r_rmul_1_0, [.from 24, .from 23, .from 0])] o_rmul_1,
      .base ⟨0, [.fact 0], [⟨.one (.i), [(0, 0, 12)]⟩], .quiet (mLen 25)⟩,
      .loop d_rmul_2 [(r_rmul_2_0, [.from 20, .from 19, .from 0])] o_rmul_2,
      .base ⟨45, [.fact 13], [⟨.one (.s), [(0, 0, 14)]⟩], .callJ [1] false⟩]
def ins_rmul : List Out := [⟨.one (.s), [(0, 0, 0)]⟩, ⟨.one (.s), [(0, 0, 1)]⟩]
set_option maxRecDepth 100000 in
theorem rmul {q r : Nat → Rat} {n m k l K : Nat} (hn : n ≤ 400000) (hm : m ≤ 400000) (hk : k ≤ 8000) (hl : l ≤ 8000) (hK : K ≤ 8000) (hK1 : 1 ≤ K) (h1 : 0 < n) (h2 : 0 < m) (hB : ∀ j i p, j < n → i ≤ m → Bd (cvIQ q r m j i p).num.natAbs K ∧ Bd (cvIQ q r m j i p).den K) : SiteOk (ph (b_rmul q r n m k l K)) Try.prog ⟨15, [.fact 0, .fact 1], [⟨.one (.s), [(0, 0, 14)]⟩], false⟩ := by
  skip
  exact fn_okL ins_rmul [⟨.one (.s), [(0, 0, 14)]⟩] ss_rmul Try.func15 (by kernel_rfl)
    (lbase (qLen (sz := 4) (n := n) (F := (fun ι w v => DecQ w v (q ι) k)) Try.underlying25 (fun _ _ h => Rw.arr h) rfl)
      (lbase (qTestC (op := .eql) (fun _ _ h => h) (ts_run (decide_eq_false (by omega)) (by simp)))
      (lbase (qLen (sz := 4) (n := m) (F := (fun ι w v => DecQ w v (r ι) l)) Try.underlying25 (fun _ _ h => Rw.arr h) rfl)
      (lbase (qTestC (op := .eql) (fun _ _ h => h) (ts_run (decide_eq_false (by omega)) (by simp)))
      (lbase (qLen (sz := 4) (n := n) (F := (fun ι w v => DecQ w v (q ι) k)) Try.underlying25 (fun _ _ h => Rw.arr h) rfl)
      (lbase (qLen (sz := 4) (n := m) (F := (fun ι w v => DecQ w v (r ι) l)) Try.underlying25 (fun _ _ h => Rw.arr h) rfl)
      (lbase (qAddJ (fun _ _ h => h) (fun _ _ h => h) (by omega) rfl (by omega) (by omega))
      (lbase (qSubK (fun _ _ h => h) (by omega) rfl (by omega) (by omega))
      (lbase (qMakeR (n := (n + m - 1)) (F := (fun ι w v => ι < 0 → DecQ w v 0 K)) (fun _ _ h => h) (by omega) (fun i w h => absurd h (by omega)) rfl)
      (lfreed (freeLen (e := 47) (sz := 4) (n := (n + m - 1)) (F := (fun ι w v => ι < 0 → DecQ w v 0 K)) (fun _ _ h => h) rfl)
      (lbase (qLenS' (n := (n + m - 1)) Try.underlying25 (fun _ _ h => h) rfl)
      (lloop (counted (n + m - 1) (fun j => ph (b_rmul q r n m k l K ++ l_rmul_1 n m K j)) (fun _ => 0) (fun j p hp => ph_app' (show p < (b_rmul q r n m k l K).length from hp)) ⟨fun _ => rfl, fun _ _ h => h, fun _ _ _ => trivial, trivial⟩ (fun j hj => by
      skip
      exact ⟨(r_rmul_1_0, [.from 24, .from 23, .from 0]), rfl, ⟨fun _ _ h => h, fun _ _ h => h, fun _ _ _ => trivial, trivial⟩, (lbase (qTest (op := .lss) (fun _ _ h => h) (fun _ _ h => h) (ts_run (decide_eq_true (by omega)) (by simp)))
      (lbase (tZero5 rfl rfl rfl)
      (lbase (qIdxJ (i := j) (sz := 4) (n := (n + m - 1)) (F := (fun ι w v => ι < j → DecQ w v 0 K)) Try.underlying25 (by kernel_rfl) (fun _ _ h => ArrO.arr h) (fun _ _ h => h) (by omega) rfl rfl)
      (lbase (qPutR (i := j) (n := (n + m - 1)) (F := (fun ι w v => ι < j → DecQ w v 0 K)) (F' := (fun ι w v => ι < (j + 1) → DecQ w v 0 K)) (G := fun w v => DecQ w v (qOf 0 1) 6) (.tmp 29) (.tmp 30) (by kernel_rfl) (fun _ _ h => h) (fun _ _ h => h) (by omega) (fun _ _ h => h) rfl (fun _ _ h => DecQ.cells h) (fun _ _ _ _ g h => FilQ.kp h g) (fun _ _ _ g h => DecQ.kp h g) (fun a w v ha h hi => h (by omega)) (fun w v h _ => DecQ.re (h.eq qOf_00) (bd_zero K) (bd_one hK1)) rfl)
      (lbase (qAddK (fun _ _ h => h) (by omega) rfl (by omega) (by omega))
      lnil)))))⟩)
      (lbase (qTest (op := .lss) (fun _ _ h => h) (fun _ _ h => h) (ts_run (decide_eq_false (by omega)) (by simp)))
      lnil)
      (fun q hq w v h => by
        simp only [d_rmul_1, List.mem_cons, List.not_mem_nil, or_false] at hq
        rcases hq with rfl
        · exact (fun h => ArrO.to (sz := 4) (e := 47) (n := (n + m - 1)) (F := (fun ι w v => ι < (n + m - 1) → DecQ w v 0 K)) (G := (fun ι w v => DecQ w v (cvSQ q r m 0 ι) K)) h fun a w v ha h => h ha) h)) (lbase (qLen (sz := 4) (n := n) (F := (fun ι w v => DecQ w v (q ι) k)) Try.underlying25 (fun _ _ h => Rw.arr h) rfl)
      (lloop (counted n (fun j => ph (b_rmul q r n m k l K ++ l_rmul_2 q r n m K j)) (fun _ => 0) (fun j p hp => ph_app' (show p < (b_rmul q r n m k l K).length from hp)) ⟨fun _ => rfl, fun _ _ h => h, fun _ _ _ => trivial, trivial⟩ (fun j hj => by
      skip
      exact ⟨(r_rmul_2_0, [.from 20, .from 19, .from 0]), rfl, ⟨fun _ _ h => h, fun _ _ h => h, fun _ _ _ => trivial, trivial⟩, (lbase (qTest (op := .lss) (fun _ _ h => h) (fun _ _ h => h) (ts_run (decide_eq_true (by omega)) (by simp)))
      (lbase (qLen (sz := 4) (n := m) (F := (fun ι w v => DecQ w v (r ι) l)) Try.underlying25 (fun _ _ h => Rw.arr h) rfl)
      (lloop (counted m (fun i => ph ((b_rmul q r n m k l K ++ l_rmul_2 q r n m K j) ++ l_rmul_3 q r n m k l K j i)) (fun _ => 0) (fun i p hp => ph_app' (show p < (b_rmul q r n m k l K ++ l_rmul_2 q r n m K j).length from hp)) ⟨fun _ => rfl, fun _ _ h => ArrO.to (sz := 4) (e := 47) (n := (n + m - 1)) (F := (fun ι w v => DecQ w v (cvSQ q r m j ι) K)) (G := (fun ι w v => DecQ w v (cvIQ q r m j 0 ι) K)) h fun a w v ha h => by rw [cvIQ_zero]; exact h, fun _ _ _ => trivial, trivial⟩ (fun i hi => by
      skip
      exact ⟨(r_rmul_3_0, [.from 42, .from 41, .from 0]), rfl, ⟨fun _ _ h => h, fun _ _ h => h, fun _ _ _ => trivial, trivial⟩, (lbase (qTest (op := .lss) (fun _ _ h => h) (fun _ _ h => h) (ts_run (decide_eq_true (by omega)) (by simp)))
      (lbase (qAddJ (fun _ _ h => h) (fun _ _ h => h) (by omega) rfl (by omega) (by omega))
      (lbase (qAddJ (fun _ _ h => h) (fun _ _ h => h) (by omega) rfl (by omega) (by omega))
      (lbase (qIdxJ (i := (j + i)) (sz := 4) (n := (n + m - 1)) (F := (fun ι w v => DecQ w v (cvIQ q r m j i ι) K)) Try.underlying25 (by kernel_rfl) (fun _ _ h => ArrO.arr h) (fun _ _ h => h) (by omega) rfl rfl)
      (lbase (qLoad (sz := 4) (F := fun w v => DecQ w v (cvIQ q r m j i (j + i)) K) (by kernel_rfl) (by kernel_rfl) (fun _ _ h => h) (fun _ _ _ g h => DecQ.kp h g) (fun _ _ h => DecQ.is h) rfl)
      (lbase (qIdx (i := j) (sz := 4) (n := n) (F := (fun ι w v => DecQ w v (q ι) k)) Try.underlying25 (by kernel_rfl) (fun _ _ h => Rw.arr h) (fun _ _ h => h) (by omega) rfl)
      (lbase (qLoad (sz := 4) (F := fun w v => DecQ w v (q j) k) (by kernel_rfl) (by kernel_rfl) (fun _ _ h => h) (fun _ _ _ g h => DecQ.kp h g) (fun _ _ h => DecQ.is h) rfl)
      (lbase (qIdx (i := i) (sz := 4) (n := m) (F := (fun ι w v => DecQ w v (r ι) l)) Try.underlying25 (by kernel_rfl) (fun _ _ h => Rw.arr h) (fun _ _ h => h) (by omega) rfl)
      (lbase (qLoad (sz := 4) (F := fun w v => DecQ w v (r i) l) (by kernel_rfl) (by kernel_rfl) (fun _ _ h => h) (fun _ _ _ g h => DecQ.kp h g) (fun _ _ h => DecQ.is h) rfl)
      (lbase (tMulR tS tS rfl rfl rfl (by omega) rfl)
      (lbase (onJ [1] (tAddR tS tS rfl rfl rfl (by omega) rfl))
      (lbase (qIdxJ (i := (j + i)) (sz := 4) (n := (n + m - 1)) (F := (fun ι w v => DecQ w v (cvIQ q r m j i ι) K)) Try.underlying25 (by kernel_rfl) (fun _ _ h => ArrO.arr h) (fun _ _ h => h) (by omega) rfl rfl)
      (lbase (qPutR (i := (j + i)) (n := (n + m - 1)) (F := (fun ι w v => DecQ w v (cvIQ q r m j i ι) K)) (F' := (fun ι w v => DecQ w v (cvIQ q r m j (i + 1) ι) K)) (G := fun w v => DecQ w v ((cvIQ q r m j i (j + i)) + ((q j) * (r i))) (3 * (K + (2 * (k + l) + 2)) + 3)) (.tmp 44) (.tmp 47) (by kernel_rfl) (fun _ _ h => h) (fun _ _ h => h) (by omega) (fun _ _ h => h) rfl (fun _ _ h => DecQ.cells h) (fun _ _ _ _ g h => DecQ.kp h g) (fun _ _ _ g h => DecQ.kp h g) (fun a w v ha h => by rw [cvIQ_ne ha]; exact h) (fun w v h => DecQ.re (h.eq cvIQ_at) (hB j (i + 1) (j + i) (by omega) (by omega)).1 (hB j (i + 1) (j + i) (by omega) (by omega)).2) rfl)
      (lbase (qAddK (fun _ _ h => h) (by omega) rfl (by omega) (by omega))
      lnil))))))))))))))⟩)
      (lbase (qTest (op := .lss) (fun _ _ h => h) (fun _ _ h => h) (ts_run (decide_eq_false (by omega)) (by simp)))
      lnil)
      (fun q hq w v h => by
        simp only [d_rmul_3, List.mem_cons, List.not_mem_nil, or_false] at hq
        rcases hq with rfl
        · exact (fun h => h) h)) (lbase (qAddK (fun _ _ h => h) (by omega) rfl (by omega) (by omega))
      lnil))))⟩)
      (lbase (qTest (op := .lss) (fun _ _ h => h) (fun _ _ h => h) (ts_run (decide_eq_false (by omega)) (by simp)))
      lnil)
      (fun q hq w v h => by
        simp only [d_rmul_2, List.mem_cons, List.not_mem_nil, or_false] at hq
        rcases hq with rfl
        · exact (fun h => h) h)) (lbase (onJ [1] (sCut (q := (fun ι => cvSQ q r m n ι)) (n := (n + m - 1)) (k := K) (fun _ _ h => ArrO.rw h) rfl (by omega) (by omega)))
      lnil)))))))))))))))
    (ins_ok [.fact 0 (.one (.s)), .fact 1 (.one (.s))] ⟨fun _ _ h => Rw.is (sz := 4) (F := (fun ι w v => DecQ w v (q ι) k)) (n := n) h, fun _ _ h => Rw.is (sz := 4) (F := (fun ι w v => DecQ w v (r ι) l)) (n := m) h, trivial⟩) (fun _ _ _ h => h)

def b_rmul_0 (q r : Nat → Rat) (n m k l : Nat) : List (World → Value → Prop) := [fun w v => Rw 4 (fun ι w v => DecQ w v (q ι) k) n w v, fun w v => Rw 4 (fun ι w v => DecQ w v (r ι) l) m w v, fun _ v => v = .int .i64 ((n : Nat) : Int)]
def ss_rmul_0 : List Step := [.base ⟨0, [.fact 0], [⟨.one (.i), [(0, 0, 2)]⟩], .quiet (mLen 25)⟩,
      .base ⟨0, [.fact 2, .lit (.ci .i64 0)], [⟨.one (.lit (.cb true)), []⟩], .quiet (mBin .eql)⟩]
def ins_rmul_0 : List Out := [⟨.one (.s), [(0, 0, 0)]⟩, ⟨.one (.s), [(0, 0, 1)]⟩]
set_option maxRecDepth 100000 in
theorem rmul_0 {q r : Nat → Rat} {n m k l : Nat} (h1 : n = 0) : SiteOk (ph (b_rmul_0 q r n m k l)) Try.prog ⟨15, [.fact 0, .fact 1], [⟨.one (.lit (.nl)), []⟩], false⟩ := by
  skip
  exact fn_okL ins_rmul_0 [⟨.one (.lit (.nl)), []⟩] ss_rmul_0 Try.func15 (by kernel_rfl)
    (lbase (qLen (sz := 4) (n := n) (F := (fun ι w v => DecQ w v (q ι) k)) Try.underlying25 (fun _ _ h => Rw.arr h) rfl)
      (lbase (qTestC (op := .eql) (fun _ _ h => h) (ts_run (decide_eq_true (by omega)) (by simp)))
      lnil))
    (ins_ok [.fact 0 (.one (.s)), .fact 1 (.one (.s))] ⟨fun _ _ h => Rw.is (sz := 4) (F := (fun ι w v => DecQ w v (q ι) k)) (n := n) h, fun _ _ h => Rw.is (sz := 4) (F := (fun ι w v => DecQ w v (r ι) l)) (n := m) h, trivial⟩) (fun _ _ _ h => h)

def b_rmul_1 (q r : Nat → Rat) (n m k l : Nat) : List (World → Value → Prop) := [fun w v => Rw 4 (fun ι w v => DecQ w v (q ι) k) n w v, fun w v => Rw 4 (fun ι w v => DecQ w v (r ι) l) m w v, fun _ v => v = .int .i64 ((n : Nat) : Int), fun _ v => v = .int .i64 ((m : Nat) : Int)]
def ss_rmul_1 : List Step := [.base ⟨0, [.fact 0], [⟨.one (.i), [(0, 0, 2)]⟩], .quiet (mLen 25)⟩,
      .base ⟨0, [.fact 2, .lit (.ci .i64 0)], [⟨.one (.lit (.cb false)), []⟩], .quiet (mBin .eql)⟩,
      .base ⟨0, [.fact 1], [⟨.one (.i), [(0, 0, 3)]⟩], .quiet (mLen 25)⟩,
      .base ⟨0, [.fact 3, .lit (.ci .i64 0)], [⟨.one (.lit (.cb true)), []⟩], .quiet (mBin .eql)⟩]
def ins_rmul_1 : List Out := [⟨.one (.s), [(0, 0, 0)]⟩, ⟨.one (.s), [(0, 0, 1)]⟩]
set_option maxRecDepth 100000 in
theorem rmul_1 {q r : Nat → Rat} {n m k l : Nat} (h1 : 0 < n) (h2 : m = 0) : SiteOk (ph (b_rmul_1 q r n m k l)) Try.prog ⟨15, [.fact 0, .fact 1], [⟨.one (.lit (.nl)), []⟩], false⟩ := by
  skip
  exact fn_okL ins_rmul_1 [⟨.one (.lit (.nl)), []⟩] ss_rmul_1 Try.func15 (by kernel_rfl)
    (lbase (qLen (sz := 4) (n := n) (F := (fun ι w v => DecQ w v (q ι) k)) Try.underlying25 (fun _ _ h => Rw.arr h) rfl)
      (lbase (qTestC (op := .eql) (fun _ _ h => h) (ts_run (decide_eq_false (by omega)) (by simp)))
      (lbase (qLen (sz := 4) (n := m) (F := (fun ι w v => DecQ w v (r ι) l)) Try.underlying25 (fun _ _ h => Rw.arr h) rfl)
      (lbase (qTestC (op := .eql) (fun _ _ h => h) (ts_run (decide_eq_true (by omega)) (by simp)))
      lnil))))
    (ins_ok [.fact 0 (.one (.s)), .fact 1 (.one (.s))] ⟨fun _ _ h => Rw.is (sz := 4) (F := (fun ι w v => DecQ w v (q ι) k)) (n := n) h, fun _ _ h => Rw.is (sz := 4) (F := (fun ι w v => DecQ w v (r ι) l)) (n := m) h, trivial⟩) (fun _ _ _ h => h)

section
variable {Φ : Nat → World → Value → Prop} {p y x n m k l K N : Nat} {q r : Nat → Rat} {c : Rat}
theorem sRAddP (hp : ∀ w v, Φ p w v → Rw 4 (fun i w v => DecQ w v (q i) k) n w v) (hy : ∀ w v, Φ y w v → Rw 4 (fun i w v => DecQ w v (r i) l) m w v) (hx : Φ x = fun w v => Rw 4 (fun i w v => DecQ w v (aQ q n r m i) K) N w v) (hn : n ≤ 1000000) (hm : m ≤ 1000000) (hk : k ≤ 8000) (hl : l ≤ 8000) (hk1 : 1 ≤ k) (hl1 : 1 ≤ l) (hK : K ≤ 400000) (hB : ∀ i, i < max n m → Bd (aQ q n r m i).num.natAbs K ∧ Bd (aQ q n r m i).den K) (hN : tl (fun i => (aQ q n r m i).num) (max n m) = N) : SiteOk Φ Try.prog ⟨10, [.fact p, .fact y], [⟨.one .s, [(0, 0, x)]⟩], false⟩ :=
  viaG (radd (q := q) (r := r) hn hm hk hl hk1 hl1 hK hB) ⟨hp, hy, trivial⟩ ⟨⟨rfl, ⟨rfl, rfl, fun _ _ h => hx ▸ hN ▸ h⟩, trivial⟩, trivial⟩
theorem sRScaleP (hp : ∀ w v, Φ p w v → Rw 4 (fun i w v => DecQ w v (q i) k) n w v) (hy : ∀ w v, Φ y w v → DecQ w v c l) (hx : Φ x = fun w v => Rw 4 (fun i w v => DecQ w v (q i * c) K) N w v) (hn : n ≤ 1000000) (hk : k ≤ 8000) (hl : l ≤ 8000) (hK : K ≤ 400000) (hB : ∀ i, i < n → Bd (q i * c).num.natAbs K ∧ Bd (q i * c).den K) (hN : tl (fun i => (q i * c).num) n = N) : SiteOk Φ Try.prog ⟨31, [.fact p, .fact y], [⟨.one .s, [(0, 0, x)]⟩], false⟩ :=
  viaG (rscale (q := q) (c := c) hn hk hl hK hB) ⟨hp, hy, trivial⟩ ⟨⟨rfl, ⟨rfl, rfl, fun _ _ h => hx ▸ hN ▸ h⟩, trivial⟩, trivial⟩
theorem nil_rw {X : Nat → Prop} {w : World} {us : List Value} {sz : Nat} {F : Nat → World → Value → Prop} (hx : Φ x = fun w v => Rw sz F 0 w v) (h : outsOk Φ X w [⟨.one (.lit .nl), []⟩] us) : outsOk Φ X w [⟨.one .s, [(0, 0, x)]⟩] us := by
  match us, h with
  | [u], h =>
    have e : u = .slice none 0 0 := h.1.1.1
    subst e
    exact one_out ⟨⟨_, _, _, rfl⟩, fun _ h => by cases h⟩ hx fun w1 _ => Rw.nil _ _ _
theorem sRMulP (hp : ∀ w v, Φ p w v → Rw 4 (fun i w v => DecQ w v (q i) k) n w v) (hy : ∀ w v, Φ y w v → Rw 4 (fun i w v => DecQ w v (r i) l) m w v) (hx : Φ x = fun w v => Rw 4 (fun i w v => DecQ w v (cvSQ q r m n i) K) N w v) (hn : n ≤ 400000) (hm : m ≤ 400000) (hk : k ≤ 8000) (hl : l ≤ 8000) (hK : K ≤ 8000) (hK1 : 1 ≤ K) (hB : ∀ j i p, j < n → i ≤ m → Bd (cvIQ q r m j i p).num.natAbs K ∧ Bd (cvIQ q r m j i p).den K) (hN : (if n = 0 ∨ m = 0 then 0 else tl (fun i => (cvSQ q r m n i).num) (n + m - 1)) = N) : SiteOk Φ Try.prog ⟨15, [.fact p, .fact y], [⟨.one .s, [(0, 0, x)]⟩], false⟩ := fun X w vs hX ha => by
  rcases Nat.eq_zero_or_pos n with h1 | h1
  · rw [if_pos (.inl h1)] at hN; subst hN
    exact (viaG (outs := [⟨.one (.lit .nl), []⟩]) (Φ := Φ) (ar := [.fact p, .fact y]) (rmul_0 (q := q) (r := r) (n := n) (m := m) (k := k) (l := l) h1) ⟨hp, hy, trivial⟩ ⟨⟨rfl, trivial⟩, trivial⟩ X w vs hX ha).mono fun e w' ⟨hg, us, he, h2⟩ => ⟨hg, us, he, nil_rw hx h2⟩
  · rcases Nat.eq_zero_or_pos m with h2 | h2
    · rw [if_pos (.inr h2)] at hN; subst hN
      exact (viaG (outs := [⟨.one (.lit .nl), []⟩]) (Φ := Φ) (ar := [.fact p, .fact y]) (rmul_1 (q := q) (r := r) (n := n) (m := m) (k := k) (l := l) h1 h2) ⟨hp, hy, trivial⟩ ⟨⟨rfl, trivial⟩, trivial⟩ X w vs hX ha).mono fun e w' ⟨hg, us, he, h2⟩ => ⟨hg, us, he, nil_rw hx h2⟩
    · rw [if_neg (by omega)] at hN
      exact viaG (Φ := Φ) (ar := [.fact p, .fact y]) (outs := [⟨.one .s, [(0, 0, x)]⟩]) (rmul (q := q) (r := r) (n := n) (m := m) (k := k) (l := l) hn hm hk hl hK hK1 h1 h2 hB) ⟨hp, hy, trivial⟩ ⟨⟨rfl, ⟨rfl, rfl, fun _ _ h => hx ▸ hN ▸ h⟩, trivial⟩, trivial⟩ X w vs hX ha
end
end Go.Proofs.Yteblgmjpociffaa.Sym
