/- keep.Poly; the reference's polynomials: cut, From, Of, Same. -/
import Derived.Test.YteblgmjpociffaaPolU
namespace Go.Proofs.Yteblgmjpociffaa.Sym
open Go.RowKit
/-- A number that came in, cut: its limbs and its value. -/
def KI (w : World) (v : Value) (b : Bool) (xs : List Nat) (z : Int) (k : Nat) : Prop := RawI w v b xs ∧ IntV w v z k
theorem KI.kp {w w' : World} {v : Value} {b : Bool} {xs : List Nat} {z : Int} {k : Nat} (h : KI w v b xs z k) (g : Kp w w') : KI w' v b xs z k := ⟨h.1.kp g, h.2.kp g⟩
theorem KI.cellsA {b : Bool} {xs : List Nat} {z : Int} {k : Nat} {w : World} {l : List Value} (h : KI w (.agg l.toArray) b xs z k) : ∀ u, u ∈ l → u.oneCell' = true ∧ NoNum u := IntV.cellsA h.2
theorem DecQ.fst' {q : Rat} {k : Nat} {w : World} {l : List Value} (h : DecQ w (.agg l.toArray) q k) : DecI w (.agg ((l.drop 0).take 2).toArray) q.num k := by
  have := DecQ.fst h
  simpa [subV, cellsOf, Value.cells] using this
theorem DecQ.snd' {q : Rat} {k : Nat} {w : World} {l : List Value} (h : DecQ w (.agg l.toArray) q k) : DecI w (.agg ((l.drop 2).take 2).toArray) (q.den : Int) k := by
  have := DecQ.snd h
  simpa [subV, cellsOf, Value.cells] using this
theorem qOf_int (z : Int) : qOf z 1 = ((z : Int) : Rat) := by
  rw [qOf_one, ← Rat.mk_den_one, Rat.mk_eq_divInt]; rfl
theorem cmp_den (z : Int) : cmpI (((z : Int) : Rat).den : Int) 1 = 0 := by
  show cmpI 1 1 = 0
  decide
section
variable {Φ : Nat → World → Value → Prop} {p q x x1 x2 i j : Nat}
theorem sKIntK (k : Nat) {z : Int} {b : Bool} {xs : List Nat} (hp : ∀ w v, Φ p w v → RawI w v b xs) (hq : ∀ w v, Φ q w v → v = .int .i64 (k : Int)) (hx : Φ x = fun w v => KI w v b (xs.take k) z k) (hz : sg b (Proofs.Yteblgmjpociffaa.val 4294967296 (xs.take k)) = z) : SiteOk Φ Try.prog ⟨24, [.fact p, .fact q], [⟨iS, [(0, 0, x)]⟩], false⟩ := fun X w vs hX ha => by
  match vs, ha with
  | [v, u], ha =>
    refine ((sKIntRJ (Φ := ph [fun w v => RawI w v b xs, fun _ v => v = .int .i64 (k : Int), fun w v => RawI w v b (xs.take k), fun w v => IntV w v z k]) (p := 0) (q := 1) (x := 2) (x' := 3) k (fun _ _ h => h) (fun _ _ h => h) rfl rfl hz) X w [v, u] hX ⟨fun w1 hw => hp _ _ (ha.1 w1 hw), fun w1 hw => hq _ _ (ha.2.1 w1 hw), trivial⟩).mono fun e w' ⟨hg, us, he, ho⟩ => ⟨hg, us, he, ?_⟩
    match us, ho with
    | [u], ho =>
      exact one_out ho.1.1 hx fun w1 hw => ⟨ho.1.2 (0, 0, 2) (List.mem_cons_self ..) w1 hw, ho.1.2 (0, 0, 3) (List.mem_cons_of_mem _ (List.mem_cons_self ..)) w1 hw⟩
theorem tOfRJ {z y : Int} {t : Rat} (hp : ∀ w v, Φ p w v → v = .int .i64 z) (hx : Φ x = fun w v => DecQ w v t 6) (hx1 : Φ x1 = fun w v => DecI w v t.num 6) (hx2 : Φ x2 = fun w v => DecI w v (t.den : Int) 6) (z1 : -9223372036854775808 ≤ z) (z2 : z ≤ 9223372036854775807) (y1 : -9223372036854775808 ≤ y) (y2 : y ≤ 9223372036854775807) (ht : qOf z y = t) : SiteOk Φ Try.prog ⟨36, [.fact p, .lit (.ci .i64 y)], [⟨sS, [(0, 0, x), (0, 2, x1), (2, 2, x2)]⟩], false⟩ :=
  site2 fun _ w v u h0 h1 => by
    obtain rfl := hp _ _ (get h0)
    obtain rfl : u = .int .i64 y := h1
    exact (OfR_g z y z1 z2 y1 y2 ht).mono fun _ _ h => pstS hx hx1 hx2 h
theorem tCmp5 {z y r : Int} (hp : ∀ w v, Φ p w v → DecI w v z i) (hq : ∀ w v, Φ q w v → DecI w v y j) (hi : i + j ≤ 1000000) (hr : cmpI z y = r) : SiteOk Φ Try.prog ⟨77, [.fact p, .fact q], [⟨.one (.lit (.ci .i64 r)), []⟩], false⟩ :=
  site2 fun _ _ _ _ h0 h1 => (Cmp_r r (hp _ _ (get h0)) (hq _ _ (get h1)) hi hr).mono fun _ _ h => pstZ h
end
def b_kp_s (a : Nat → Bool) (xs : Nat → List Nat) (ez : Nat → Int) (n0 K m N : Nat) : List (World → Value → Prop) := [fun w v => Rw 2 (fun ι w v => RawI w v (a ι) (xs ι)) n0 w v, fun _ v => v = .int .i64 ((K : Nat) : Int), fun _ v => v = .int .i64 ((m : Nat) : Int), fun w v => ArrO 2 36 (fun ι w v => KI w v (a ι) ((fun ι => (xs ι).take m) ι) (ez ι) m) N w v]
def l_kp_s_1 (a : Nat → Bool) (xs : Nat → List Nat) (ez : Nat → Int) (n0 m : Nat) (j : Nat) : List (World → Value → Prop) := [fun _ v => v = .int .i64 ((j : Nat) : Int), fun w v => ArrO 2 36 (fun ι w v => KI w v (a ι) ((fun ι => (xs ι).take m) ι) (ez ι) m) j w v, fun _ _ => True, fun _ v => v = .int .i64 ((n0 : Nat) : Int), fun w v => Ptr 2 (fun w v => RawI w v (a j) (xs j)) w v, fun w v => RawI w v (a j) (xs j), fun w v => KI w v (a j) ((xs j).take m) (ez j) m, fun w v => ArrO 2 36 (fun ι w v => KI w v (a ι) ((fun ι => (xs ι).take m) ι) (ez ι) m) (j + 1) w v, fun _ v => v = .int .i64 (((j + 1) : Nat) : Int), fun _ v => v = .int .i64 ((n0 : Nat) : Int)]
def d_kp_s_1 : LoopD := ⟨[0, 1, 2, 6], [(.slot 8, .i), (.slot 7, .s)], [(.one 0, 4), (.one 1, .at [1] 5), (.one 1, .lo 1)], [.closed (.one (.ci .i64 0)), .closed (.one (.nl)), .from 0], 4, [(5, 3)]⟩
def r_kp_s_1_0 : List Step := [.base ⟨0, [.fact 0], [⟨.one (.i), [(0, 0, 7)]⟩], .quiet (mLen 23)⟩,
      .base ⟨0, [.fact 4, .fact 7], [⟨.one (.lit (.cb true)), []⟩], .quiet (mBin .lss)⟩,
      .base ⟨0, [.fact 4, .fact 1], [⟨.one (.lit (.cb true)), []⟩], .quiet (mBin .lss)⟩,
      .base ⟨0, [.fact 0, .fact 4], [⟨.one (.p), [(0, 0, 8)]⟩], .quiet (mIdx 23)⟩,
      .base ⟨0, [.fact 8], [⟨.agg [.b, .s], [(0, 0, 9)]⟩], .quiet (mLoad 36)⟩,
      .base ⟨24, [.fact 9, .fact 2], [⟨.agg [.b, .s], [(0, 0, 10)]⟩], false⟩,
      .base ⟨0, [.fact 5, .row 2 [10]], [⟨.one (.s), [(0, 0, 11)]⟩], .loose [] 1 0 (mApp 23 23)⟩,
      .base ⟨0, [.fact 4, .lit (.ci .i64 1)], [⟨.one (.i), [(0, 0, 12)]⟩], .quiet (mBin .add)⟩]
def o_kp_s_1 : List Step := [.base ⟨0, [.fact 0], [⟨.one (.i), [(0, 0, 13)]⟩], .quiet (mLen 23)⟩,
      .base ⟨0, [.fact 4, .fact 13], [⟨.one (.lit (.cb false)), []⟩], .quiet (mBin .lss)⟩]
def ss_kp_s : List Step := [.loop d_kp_s_1 [(r_kp_s_1_0, [.from 12, .from 11, .from 0])] o_kp_s_1]
def ins_kp_s : List Out := [⟨.one (.s), [(0, 0, 0)]⟩, ⟨.one (.i), [(0, 0, 1)]⟩, ⟨.one (.i), [(0, 0, 2)]⟩]
set_option maxRecDepth 100000 in
theorem kp_s {a : Nat → Bool} {xs : Nat → List Nat} {ez : Nat → Int} {n0 K m N : Nat} (hn : n0 ≤ 9223372036854775807) (hKm : K ≤ 1000000) (hz : ∀ j, sg (a j) (Proofs.Yteblgmjpociffaa.val 4294967296 ((xs j).take m)) = ez j) (hN : N = n0) (hK : N ≤ K) : SiteOk (ph (b_kp_s a xs ez n0 K m N)) Try.prog ⟨37, [.fact 0, .fact 1, .fact 2], [⟨.one (.s), [(0, 0, 3)]⟩], false⟩ := by
  skip
  exact fn_okL ins_kp_s [⟨.one (.s), [(0, 0, 3)]⟩] ss_kp_s Try.func37 (by kernel_rfl)
    (lloop (counted N (fun j => ph (b_kp_s a xs ez n0 K m N ++ l_kp_s_1 a xs ez n0 m j)) (fun _ => 0) (fun j p hp => ph_app' (show p < (b_kp_s a xs ez n0 K m N).length from hp)) ⟨fun _ => rfl, fun w => ArrO.nil 2 36 (fun ι w v => KI w v (a ι) ((fun ι => (xs ι).take m) ι) (ez ι) m) w, fun _ _ _ => trivial, trivial⟩ (fun j hj => by
      skip
      exact ⟨(r_kp_s_1_0, [.from 12, .from 11, .from 0]), rfl, ⟨fun _ _ h => h, fun _ _ h => h, fun _ _ _ => trivial, trivial⟩, (lbase (qLen (sz := 2) (n := n0) (F := (fun ι w v => RawI w v (a ι) (xs ι))) Try.underlying23 (fun _ _ h => Rw.arr h) rfl)
      (lbase (qTest (op := .lss) (fun _ _ h => h) (fun _ _ h => h) (ts_run (decide_eq_true (by omega)) (by simp)))
      (lbase (qTest (op := .lss) (fun _ _ h => h) (fun _ _ h => h) (ts_run (decide_eq_true (by omega)) (by simp)))
      (lbase (qIdx (i := j) (sz := 2) (n := n0) (F := (fun ι w v => RawI w v (a ι) (xs ι))) Try.underlying23 (by kernel_rfl) (fun _ _ h => Rw.arr h) (fun _ _ h => h) (by omega) rfl)
      (lbase (qLoad (sz := 2) (F := fun w v => RawI w v (a j) (xs j)) (by kernel_rfl) (by kernel_rfl) (fun _ _ h => h) (fun _ _ _ g h => RawI.kp h g) (fun _ _ h => RawI.is h) rfl)
      (lbase (sKIntK m (fun _ _ h => h) (fun _ _ h => h) rfl (hz j))
      (lbase (qAppI (n := j) (F := (fun ι w v => KI w v (a ι) ((fun ι => (xs ι).take m) ι) (ez ι) m)) (fun _ _ _ _ g h => KI.kp h g) (fun _ _ h => h) (fun _ _ h => h) (fun _ _ h => KI.cellsA h) (by omega) rfl)
      (lbase (qAddK (fun _ _ h => h) (by omega) rfl (by omega) (by omega))
      lnil))))))))⟩)
      (lbase (qLen (sz := 2) (n := n0) (F := (fun ι w v => RawI w v (a ι) (xs ι))) Try.underlying23 (fun _ _ h => Rw.arr h) rfl)
      (lbase (qTest (op := .lss) (fun _ _ h => h) (fun _ _ h => h) (ts_run (decide_eq_false (by omega)) (by simp)))
      lnil))
      (fun q hq w v h => by
        simp only [d_kp_s_1, List.mem_cons, List.not_mem_nil, or_false] at hq
        rcases hq with rfl
        · exact (fun h => h) h)) lnil)
    (ins_ok [.fact 0 (.one (.s)), .fact 1 (.one (.i)), .fact 2 (.one (.i))] ⟨fun _ _ h => Rw.is (sz := 2) (F := (fun ι w v => RawI w v (a ι) (xs ι))) (n := n0) h, fun _ _ h => h ▸ int_is _, fun _ _ h => h ▸ int_is _, trivial⟩) (fun _ _ _ h => h)

def b_kp_l (a : Nat → Bool) (xs : Nat → List Nat) (ez : Nat → Int) (n0 K m N : Nat) : List (World → Value → Prop) := [fun w v => Rw 2 (fun ι w v => RawI w v (a ι) (xs ι)) n0 w v, fun _ v => v = .int .i64 ((K : Nat) : Int), fun _ v => v = .int .i64 ((m : Nat) : Int), fun w v => ArrO 2 36 (fun ι w v => KI w v (a ι) ((fun ι => (xs ι).take m) ι) (ez ι) m) N w v]
def l_kp_l_1 (a : Nat → Bool) (xs : Nat → List Nat) (ez : Nat → Int) (n0 m : Nat) (j : Nat) : List (World → Value → Prop) := [fun _ v => v = .int .i64 ((j : Nat) : Int), fun w v => ArrO 2 36 (fun ι w v => KI w v (a ι) ((fun ι => (xs ι).take m) ι) (ez ι) m) j w v, fun _ _ => True, fun _ v => v = .int .i64 ((n0 : Nat) : Int), fun w v => Ptr 2 (fun w v => RawI w v (a j) (xs j)) w v, fun w v => RawI w v (a j) (xs j), fun w v => KI w v (a j) ((xs j).take m) (ez j) m, fun w v => ArrO 2 36 (fun ι w v => KI w v (a ι) ((fun ι => (xs ι).take m) ι) (ez ι) m) (j + 1) w v, fun _ v => v = .int .i64 (((j + 1) : Nat) : Int), fun _ v => v = .int .i64 ((n0 : Nat) : Int)]
def d_kp_l_1 : LoopD := ⟨[0, 1, 2, 6], [(.slot 8, .i), (.slot 7, .s)], [(.one 0, 4), (.one 1, .at [1] 5), (.one 1, .lo 1)], [.closed (.one (.ci .i64 0)), .closed (.one (.nl)), .from 0], 4, [(5, 3)]⟩
def r_kp_l_1_0 : List Step := [.base ⟨0, [.fact 0], [⟨.one (.i), [(0, 0, 7)]⟩], .quiet (mLen 23)⟩,
      .base ⟨0, [.fact 4, .fact 7], [⟨.one (.lit (.cb true)), []⟩], .quiet (mBin .lss)⟩,
      .base ⟨0, [.fact 4, .fact 1], [⟨.one (.lit (.cb true)), []⟩], .quiet (mBin .lss)⟩,
      .base ⟨0, [.fact 0, .fact 4], [⟨.one (.p), [(0, 0, 8)]⟩], .quiet (mIdx 23)⟩,
      .base ⟨0, [.fact 8], [⟨.agg [.b, .s], [(0, 0, 9)]⟩], .quiet (mLoad 36)⟩,
      .base ⟨24, [.fact 9, .fact 2], [⟨.agg [.b, .s], [(0, 0, 10)]⟩], false⟩,
      .base ⟨0, [.fact 5, .row 2 [10]], [⟨.one (.s), [(0, 0, 11)]⟩], .loose [] 1 0 (mApp 23 23)⟩,
      .base ⟨0, [.fact 4, .lit (.ci .i64 1)], [⟨.one (.i), [(0, 0, 12)]⟩], .quiet (mBin .add)⟩]
def o_kp_l_1 : List Step := [.base ⟨0, [.fact 0], [⟨.one (.i), [(0, 0, 13)]⟩], .quiet (mLen 23)⟩,
      .base ⟨0, [.fact 4, .fact 13], [⟨.one (.lit (.cb true)), []⟩], .quiet (mBin .lss)⟩,
      .base ⟨0, [.fact 4, .fact 1], [⟨.one (.lit (.cb false)), []⟩], .quiet (mBin .lss)⟩]
def ss_kp_l : List Step := [.loop d_kp_l_1 [(r_kp_l_1_0, [.from 12, .from 11, .from 0])] o_kp_l_1]
def ins_kp_l : List Out := [⟨.one (.s), [(0, 0, 0)]⟩, ⟨.one (.i), [(0, 0, 1)]⟩, ⟨.one (.i), [(0, 0, 2)]⟩]
set_option maxRecDepth 100000 in
theorem kp_l {a : Nat → Bool} {xs : Nat → List Nat} {ez : Nat → Int} {n0 K m N : Nat} (_hn : n0 ≤ 9223372036854775807) (hKm : K ≤ 1000000) (hz : ∀ j, sg (a j) (Proofs.Yteblgmjpociffaa.val 4294967296 ((xs j).take m)) = ez j) (hN : N = K) (hK : K < n0) : SiteOk (ph (b_kp_l a xs ez n0 K m N)) Try.prog ⟨37, [.fact 0, .fact 1, .fact 2], [⟨.one (.s), [(0, 0, 3)]⟩], false⟩ := by
  skip
  exact fn_okL ins_kp_l [⟨.one (.s), [(0, 0, 3)]⟩] ss_kp_l Try.func37 (by kernel_rfl)
    (lloop (counted N (fun j => ph (b_kp_l a xs ez n0 K m N ++ l_kp_l_1 a xs ez n0 m j)) (fun _ => 0) (fun j p hp => ph_app' (show p < (b_kp_l a xs ez n0 K m N).length from hp)) ⟨fun _ => rfl, fun w => ArrO.nil 2 36 (fun ι w v => KI w v (a ι) ((fun ι => (xs ι).take m) ι) (ez ι) m) w, fun _ _ _ => trivial, trivial⟩ (fun j hj => by
      skip
      exact ⟨(r_kp_l_1_0, [.from 12, .from 11, .from 0]), rfl, ⟨fun _ _ h => h, fun _ _ h => h, fun _ _ _ => trivial, trivial⟩, (lbase (qLen (sz := 2) (n := n0) (F := (fun ι w v => RawI w v (a ι) (xs ι))) Try.underlying23 (fun _ _ h => Rw.arr h) rfl)
      (lbase (qTest (op := .lss) (fun _ _ h => h) (fun _ _ h => h) (ts_run (decide_eq_true (by omega)) (by simp)))
      (lbase (qTest (op := .lss) (fun _ _ h => h) (fun _ _ h => h) (ts_run (decide_eq_true (by omega)) (by simp)))
      (lbase (qIdx (i := j) (sz := 2) (n := n0) (F := (fun ι w v => RawI w v (a ι) (xs ι))) Try.underlying23 (by kernel_rfl) (fun _ _ h => Rw.arr h) (fun _ _ h => h) (by omega) rfl)
      (lbase (qLoad (sz := 2) (F := fun w v => RawI w v (a j) (xs j)) (by kernel_rfl) (by kernel_rfl) (fun _ _ h => h) (fun _ _ _ g h => RawI.kp h g) (fun _ _ h => RawI.is h) rfl)
      (lbase (sKIntK m (fun _ _ h => h) (fun _ _ h => h) rfl (hz j))
      (lbase (qAppI (n := j) (F := (fun ι w v => KI w v (a ι) ((fun ι => (xs ι).take m) ι) (ez ι) m)) (fun _ _ _ _ g h => KI.kp h g) (fun _ _ h => h) (fun _ _ h => h) (fun _ _ h => KI.cellsA h) (by omega) rfl)
      (lbase (qAddK (fun _ _ h => h) (by omega) rfl (by omega) (by omega))
      lnil))))))))⟩)
      (lbase (qLen (sz := 2) (n := n0) (F := (fun ι w v => RawI w v (a ι) (xs ι))) Try.underlying23 (fun _ _ h => Rw.arr h) rfl)
      (lbase (qTest (op := .lss) (fun _ _ h => h) (fun _ _ h => h) (ts_run (decide_eq_true (by omega)) (by simp)))
      (lbase (qTest (op := .lss) (fun _ _ h => h) (fun _ _ h => h) (ts_run (decide_eq_false (by omega)) (by simp)))
      lnil)))
      (fun q hq w v h => by
        simp only [d_kp_l_1, List.mem_cons, List.not_mem_nil, or_false] at hq
        rcases hq with rfl
        · exact (fun h => h) h)) lnil)
    (ins_ok [.fact 0 (.one (.s)), .fact 1 (.one (.i)), .fact 2 (.one (.i))] ⟨fun _ _ h => Rw.is (sz := 2) (F := (fun ι w v => RawI w v (a ι) (xs ι))) (n := n0) h, fun _ _ h => h ▸ int_is _, fun _ _ h => h ▸ int_is _, trivial⟩) (fun _ _ _ h => h)

def b_cut_0 (q : Nat → Rat) (n0 k : Nat) : List (World → Value → Prop) := [fun w v => Rw 4 (fun ι w v => DecQ w v (q ι) k) n0 w v, fun _ v => v = .int .i64 ((n0 : Nat) : Int), fun _ v => v = .int .i64 (((tl (fun ι => (q ι).num) n0) : Nat) : Int), fun w v => Rw 4 (fun ι w v => DecQ w v (q ι) k) (tl (fun ι => (q ι).num) n0) w v]
def l_cut_0_1 (q : Nat → Rat) (n0 k : Nat) (j : Nat) : List (World → Value → Prop) := [fun _ v => v = .int .i64 (((n0 - j) : Nat) : Int), fun _ v => v = .int .i64 (((n0 - (j + 1)) : Nat) : Int), fun w v => Ptr 4 (fun w v => DecQ w v (q (n0 - (j + 1))) k) w v, fun w v => Ptr 2 (fun w v => DecI w v ((q (n0 - (j + 1))).num) k) w v, fun w v => DecI w v ((q (n0 - (j + 1))).num) k, fun _ v => v = .int .i64 (((n0 - (j + 1)) : Nat) : Int)]
def d_cut_0_1 : LoopD := ⟨[0, 2, 4, 5], [(.slot 3, .i)], [(.one 0, 4)], [.from 1], 4, [(4, 2)]⟩
def r_cut_0_1_0 : List Step := [.base ⟨0, [.fact 4, .lit (.ci .i64 0)], [⟨.one (.lit (.cb true)), []⟩], .quiet (mBin .gtr)⟩,
      .base ⟨0, [.fact 4, .lit (.ci .i64 1)], [⟨.one (.i), [(0, 0, 5)]⟩], .quiet (mBin .sub)⟩,
      .base ⟨0, [.fact 0, .fact 5], [⟨.one (.p), [(0, 0, 6)]⟩], .quiet (mIdx 25)⟩,
      .base ⟨0, [.fact 6], [⟨.one (.p), [(0, 0, 7)]⟩], .quiet (mFld 47 0)⟩,
      .base ⟨0, [.fact 7], [⟨.agg [.s, .b], [(0, 0, 8)]⟩], .quiet (mLoad 45)⟩,
      .base ⟨35, [.fact 8], [⟨.one (.lit (.cb true)), []⟩], false⟩,
      .base ⟨0, [.fact 4, .lit (.ci .i64 1)], [⟨.one (.i), [(0, 0, 9)]⟩], .quiet (mBin .sub)⟩]
def o_cut_0_1 : List Step := [.base ⟨0, [.fact 4, .lit (.ci .i64 0)], [⟨.one (.lit (.cb false)), []⟩], .quiet (mBin .gtr)⟩]
def ss_cut_0 : List Step := [.base ⟨0, [.fact 0], [⟨.one (.i), [(0, 0, 1)]⟩], .quiet (mLen 25)⟩,
      .loop d_cut_0_1 [(r_cut_0_1_0, [.from 9])] o_cut_0_1,
      .base ⟨0, [.fact 0, .fact 2], [⟨.one (.s), [(0, 0, 3)]⟩], .quiet (mTo' 25)⟩]
def ins_cut_0 : List Out := [⟨.one (.s), [(0, 0, 0)]⟩]
set_option maxRecDepth 100000 in
theorem cut_0 {q : Nat → Rat} {n0 k : Nat} (hn : n0 ≤ 1000000) (_hk : k ≤ 500000) (ht : (tl (fun ι => (q ι).num) n0) = 0) : SiteOk (ph (b_cut_0 q n0 k)) Try.prog ⟨45, [.fact 0], [⟨.one (.s), [(0, 0, 3)]⟩], false⟩ := by
  have hle := tl_le (fun ι => (q ι).num) n0
  exact fn_okL ins_cut_0 [⟨.one (.s), [(0, 0, 3)]⟩] ss_cut_0 Try.func45 (by kernel_rfl)
    (lbase (qLen (sz := 4) (n := n0) (F := (fun ι w v => DecQ w v (q ι) k)) Try.underlying25 (fun _ _ h => Rw.arr h) rfl)
      (lloop (counted (n0 - (tl (fun ι => (q ι).num) n0)) (fun j => ph (b_cut_0 q n0 k ++ l_cut_0_1 q n0 k j)) (fun _ => 0) (fun j p hp => ph_app' (show p < (b_cut_0 q n0 k).length from hp)) ⟨fun _ _ h => h, trivial⟩ (fun j hj => by
      have h0 : (q (n0 - (j + 1))).num = 0 := tl_zero (fun ι => (q ι).num) n0 _ (by omega) (by omega)
      exact ⟨(r_cut_0_1_0, [.from 9]), rfl, ⟨fun _ _ h => h, trivial⟩, (lbase (qTestC (op := .gtr) (fun _ _ h => h) (ts_run (decide_eq_true (by omega)) (by simp)))
      (lbase (qSubK (fun _ _ h => h) (by omega) rfl (by omega) (by omega))
      (lbase (qIdx (i := (n0 - (j + 1))) (sz := 4) (n := n0) (F := (fun ι w v => DecQ w v (q ι) k)) Try.underlying25 (by kernel_rfl) (fun _ _ h => Rw.arr h) (fun _ _ h => h) (by omega) rfl)
      (lbase (qFld (off := 0) (len := 2) (sz := 4) (F := fun w v => DecQ w v (q (n0 - (j + 1))) k) (G := fun w v => DecI w v ((q (n0 - (j + 1))).num) k) (by kernel_rfl) (fun _ _ h => h) (by omega) (fun _ _ h => DecQ.fst' h) rfl)
      (lbase (qLoad (sz := 2) (F := fun w v => DecI w v ((q (n0 - (j + 1))).num) k) (by kernel_rfl) (by kernel_rfl) (fun _ _ h => h) (fun _ _ _ g h => DecI.kp h g) (fun _ _ h => DecI.is h) rfl)
      (lbase (tZero dD (decide_eq_true h0))
      (lbase (qSubK (fun _ _ h => h) (by omega) rfl (by omega) (by omega))
      lnil)))))))⟩)
      (by
      have hle := tl_le (fun ι => (q ι).num) n0
      exact (lbase (qTestC (op := .gtr) (fun _ _ h => h) (ts_run (decide_eq_false (by omega)) (by simp)))
      lnil))
      (fun q hq w v h => by
        simp only [d_cut_0_1, List.mem_cons, List.not_mem_nil, or_false] at hq
        rcases hq with rfl
        · exact (fun h => h.trans (congrArg (Value.int .i64) (by have := tl_le (fun ι => (q ι).num) n0; omega))) h)) (lbase (qToA (m := (tl (fun ι => (q ι).num) n0)) (n := n0) (F := (fun ι w v => DecQ w v (q ι) k)) Try.underlying25 (by kernel_rfl) (fun _ _ h => h) (fun _ _ h => h) (by first | omega | exact tl_le _ _) rfl)
      lnil)))
    (ins_ok [.fact 0 (.one (.s))] ⟨fun _ _ h => Rw.is (sz := 4) (F := (fun ι w v => DecQ w v (q ι) k)) (n := n0) h, trivial⟩) (fun _ _ _ h => h)

def b_cut_p (q : Nat → Rat) (n0 k : Nat) : List (World → Value → Prop) := [fun w v => Rw 4 (fun ι w v => DecQ w v (q ι) k) n0 w v, fun _ v => v = .int .i64 ((n0 : Nat) : Int), fun _ v => v = .int .i64 (((tl (fun ι => (q ι).num) n0) : Nat) : Int), fun w v => Rw 4 (fun ι w v => DecQ w v (q ι) k) (tl (fun ι => (q ι).num) n0) w v]
def l_cut_p_1 (q : Nat → Rat) (n0 k : Nat) (j : Nat) : List (World → Value → Prop) := [fun _ v => v = .int .i64 (((n0 - j) : Nat) : Int), fun _ v => v = .int .i64 (((n0 - (j + 1)) : Nat) : Int), fun w v => Ptr 4 (fun w v => DecQ w v (q (n0 - (j + 1))) k) w v, fun w v => Ptr 2 (fun w v => DecI w v ((q (n0 - (j + 1))).num) k) w v, fun w v => DecI w v ((q (n0 - (j + 1))).num) k, fun _ v => v = .int .i64 (((n0 - (j + 1)) : Nat) : Int), fun _ v => v = .int .i64 ((((tl (fun ι => (q ι).num) n0) - 1) : Nat) : Int), fun w v => Ptr 4 (fun w v => DecQ w v (q ((tl (fun ι => (q ι).num) n0) - 1)) k) w v, fun w v => Ptr 2 (fun w v => DecI w v ((q ((tl (fun ι => (q ι).num) n0) - 1)).num) k) w v, fun w v => DecI w v ((q ((tl (fun ι => (q ι).num) n0) - 1)).num) k]
def d_cut_p_1 : LoopD := ⟨[0, 2, 4, 5], [(.slot 3, .i)], [(.one 0, 4)], [.from 1], 4, [(4, 2)]⟩
def r_cut_p_1_0 : List Step := [.base ⟨0, [.fact 4, .lit (.ci .i64 0)], [⟨.one (.lit (.cb true)), []⟩], .quiet (mBin .gtr)⟩,
      .base ⟨0, [.fact 4, .lit (.ci .i64 1)], [⟨.one (.i), [(0, 0, 5)]⟩], .quiet (mBin .sub)⟩,
      .base ⟨0, [.fact 0, .fact 5], [⟨.one (.p), [(0, 0, 6)]⟩], .quiet (mIdx 25)⟩,
      .base ⟨0, [.fact 6], [⟨.one (.p), [(0, 0, 7)]⟩], .quiet (mFld 47 0)⟩,
      .base ⟨0, [.fact 7], [⟨.agg [.s, .b], [(0, 0, 8)]⟩], .quiet (mLoad 45)⟩,
      .base ⟨35, [.fact 8], [⟨.one (.lit (.cb true)), []⟩], false⟩,
      .base ⟨0, [.fact 4, .lit (.ci .i64 1)], [⟨.one (.i), [(0, 0, 9)]⟩], .quiet (mBin .sub)⟩]
def o_cut_p_1 : List Step := [.base ⟨0, [.fact 4, .lit (.ci .i64 0)], [⟨.one (.lit (.cb true)), []⟩], .quiet (mBin .gtr)⟩,
      .base ⟨0, [.fact 4, .lit (.ci .i64 1)], [⟨.one (.i), [(0, 0, 10)]⟩], .quiet (mBin .sub)⟩,
      .base ⟨0, [.fact 0, .fact 10], [⟨.one (.p), [(0, 0, 11)]⟩], .quiet (mIdx 25)⟩,
      .base ⟨0, [.fact 11], [⟨.one (.p), [(0, 0, 12)]⟩], .quiet (mFld 47 0)⟩,
      .base ⟨0, [.fact 12], [⟨.agg [.s, .b], [(0, 0, 13)]⟩], .quiet (mLoad 45)⟩,
      .base ⟨35, [.fact 13], [⟨.one (.lit (.cb false)), []⟩], false⟩]
def ss_cut_p : List Step := [.base ⟨0, [.fact 0], [⟨.one (.i), [(0, 0, 1)]⟩], .quiet (mLen 25)⟩,
      .loop d_cut_p_1 [(r_cut_p_1_0, [.from 9])] o_cut_p_1,
      .base ⟨0, [.fact 0, .fact 2], [⟨.one (.s), [(0, 0, 3)]⟩], .quiet (mTo' 25)⟩]
def ins_cut_p : List Out := [⟨.one (.s), [(0, 0, 0)]⟩]
set_option maxRecDepth 100000 in
theorem cut_p {q : Nat → Rat} {n0 k : Nat} (hn : n0 ≤ 1000000) (_hk : k ≤ 500000) (ht : 0 < (tl (fun ι => (q ι).num) n0)) : SiteOk (ph (b_cut_p q n0 k)) Try.prog ⟨45, [.fact 0], [⟨.one (.s), [(0, 0, 3)]⟩], false⟩ := by
  have hle := tl_le (fun ι => (q ι).num) n0
  exact fn_okL ins_cut_p [⟨.one (.s), [(0, 0, 3)]⟩] ss_cut_p Try.func45 (by kernel_rfl)
    (lbase (qLen (sz := 4) (n := n0) (F := (fun ι w v => DecQ w v (q ι) k)) Try.underlying25 (fun _ _ h => Rw.arr h) rfl)
      (lloop (counted (n0 - (tl (fun ι => (q ι).num) n0)) (fun j => ph (b_cut_p q n0 k ++ l_cut_p_1 q n0 k j)) (fun _ => 0) (fun j p hp => ph_app' (show p < (b_cut_p q n0 k).length from hp)) ⟨fun _ _ h => h, trivial⟩ (fun j hj => by
      have h0 : (q (n0 - (j + 1))).num = 0 := tl_zero (fun ι => (q ι).num) n0 _ (by omega) (by omega)
      exact ⟨(r_cut_p_1_0, [.from 9]), rfl, ⟨fun _ _ h => h, trivial⟩, (lbase (qTestC (op := .gtr) (fun _ _ h => h) (ts_run (decide_eq_true (by omega)) (by simp)))
      (lbase (qSubK (fun _ _ h => h) (by omega) rfl (by omega) (by omega))
      (lbase (qIdx (i := (n0 - (j + 1))) (sz := 4) (n := n0) (F := (fun ι w v => DecQ w v (q ι) k)) Try.underlying25 (by kernel_rfl) (fun _ _ h => Rw.arr h) (fun _ _ h => h) (by omega) rfl)
      (lbase (qFld (off := 0) (len := 2) (sz := 4) (F := fun w v => DecQ w v (q (n0 - (j + 1))) k) (G := fun w v => DecI w v ((q (n0 - (j + 1))).num) k) (by kernel_rfl) (fun _ _ h => h) (by omega) (fun _ _ h => DecQ.fst' h) rfl)
      (lbase (qLoad (sz := 2) (F := fun w v => DecI w v ((q (n0 - (j + 1))).num) k) (by kernel_rfl) (by kernel_rfl) (fun _ _ h => h) (fun _ _ _ g h => DecI.kp h g) (fun _ _ h => DecI.is h) rfl)
      (lbase (tZero dD (decide_eq_true h0))
      (lbase (qSubK (fun _ _ h => h) (by omega) rfl (by omega) (by omega))
      lnil)))))))⟩)
      (by
      have hle := tl_le (fun ι => (q ι).num) n0; have hl := tl_last (fun ι => (q ι).num) n0 ht
      exact (lbase (qTestC (op := .gtr) (fun _ _ h => h) (ts_run (decide_eq_true (by omega)) (by simp)))
      (lbase (qSubK (fun _ _ h => h) (by omega) rfl (by omega) (by omega))
      (lbase (qIdx (i := ((tl (fun ι => (q ι).num) n0) - 1)) (sz := 4) (n := n0) (F := (fun ι w v => DecQ w v (q ι) k)) Try.underlying25 (by kernel_rfl) (fun _ _ h => Rw.arr h) (fun _ _ h => h) (by omega) rfl)
      (lbase (qFld (off := 0) (len := 2) (sz := 4) (F := fun w v => DecQ w v (q ((tl (fun ι => (q ι).num) n0) - 1)) k) (G := fun w v => DecI w v ((q ((tl (fun ι => (q ι).num) n0) - 1)).num) k) (by kernel_rfl) (fun _ _ h => h) (by omega) (fun _ _ h => DecQ.fst' h) rfl)
      (lbase (qLoad (sz := 2) (F := fun w v => DecI w v ((q ((tl (fun ι => (q ι).num) n0) - 1)).num) k) (by kernel_rfl) (by kernel_rfl) (fun _ _ h => h) (fun _ _ _ g h => DecI.kp h g) (fun _ _ h => DecI.is h) rfl)
      (lbase (tZero dD (decide_eq_false hl))
      lnil)))))))
      (fun q hq w v h => by
        simp only [d_cut_p_1, List.mem_cons, List.not_mem_nil, or_false] at hq
        rcases hq with rfl
        · exact (fun h => h.trans (congrArg (Value.int .i64) (by have := tl_le (fun ι => (q ι).num) n0; omega))) h)) (lbase (qToA (m := (tl (fun ι => (q ι).num) n0)) (n := n0) (F := (fun ι w v => DecQ w v (q ι) k)) Try.underlying25 (by kernel_rfl) (fun _ _ h => h) (fun _ _ h => h) (by first | omega | exact tl_le _ _) rfl)
      lnil)))
    (ins_ok [.fact 0 (.one (.s))] ⟨fun _ _ h => Rw.is (sz := 4) (F := (fun ι w v => DecQ w v (q ι) k)) (n := n0) h, trivial⟩) (fun _ _ _ h => h)

section
variable {Φ : Nat → World → Value → Prop} {p x n k : Nat} {q : Nat → Rat}
theorem sCut (hp : ∀ w v, Φ p w v → Rw 4 (fun i w v => DecQ w v (q i) k) n w v) (hx : Φ x = fun w v => Rw 4 (fun i w v => DecQ w v (q i) k) (tl (fun i => (q i).num) n) w v) (hn : n ≤ 1000000) (hk : k ≤ 500000) : SiteOk Φ Try.prog ⟨45, [.fact p], [⟨.one .s, [(0, 0, x)]⟩], false⟩ := by
  rcases Nat.eq_zero_or_pos (tl (fun i => (q i).num) n) with h | h
  · exact viaG (cut_0 hn hk h) ⟨hp, trivial⟩ ⟨⟨rfl, ⟨rfl, rfl, fun _ _ h => hx ▸ h⟩, trivial⟩, trivial⟩
  · exact viaG (cut_p hn hk h) ⟨hp, trivial⟩ ⟨⟨rfl, ⟨rfl, rfl, fun _ _ h => hx ▸ h⟩, trivial⟩, trivial⟩
end
def b_pfrom (z : Nat → Int) (n k : Nat) : List (World → Value → Prop) := [fun w v => Rw 2 (fun ι w v => IntV w v (z ι) k) n w v, fun _ v => v = .int .i64 ((n : Nat) : Int), fun w v => ArrO 4 47 (fun ι w v => DecQ w v (((z ι : Int) : Rat)) (k + 2 + 2)) n w v, fun w v => Rw 4 (fun ι w v => DecQ w v (((z ι : Int) : Rat)) (k + 2 + 2)) (tl (fun ι => (((z ι : Int) : Rat)).num) n) w v]
def l_pfrom_1 (z : Nat → Int) (k : Nat) (j : Nat) : List (World → Value → Prop) := [fun _ v => v = .int .i64 ((j : Nat) : Int), fun w v => ArrO 4 47 (fun ι w v => DecQ w v (((z ι : Int) : Rat)) (k + 2 + 2)) j w v, fun _ _ => True, fun w v => Ptr 2 (fun w v => IntV w v (z j) k) w v, fun w v => IntV w v (z j) k, fun w v => DecI w v (z j) k, fun w v => DecI w v (1 : Int) 2, fun w v => DecQ w v (qOf (z j) (1 : Int)) (k + 2 + 2), fun w v => DecI w v ((qOf (z j) (1 : Int)).num) (k + 2 + 2), fun w v => DecI w v ((qOf (z j) (1 : Int)).den : Int) (k + 2 + 2), fun w v => ArrO 4 47 (fun ι w v => DecQ w v (((z ι : Int) : Rat)) (k + 2 + 2)) (j + 1) w v, fun _ v => v = .int .i64 (((j + 1) : Nat) : Int)]
def d_pfrom_1 : LoopD := ⟨[0, 2, 5, 6], [(.slot 7, .i), (.slot 3, .s)], [(.one 0, 4), (.one 1, .at [1] 5), (.one 1, .lo 1)], [.closed (.one (.ci .i64 0)), .closed (.one (.nl)), .from 0], 4, [(5, 2)]⟩
def r_pfrom_1_0 : List Step := [.base ⟨0, [.fact 4, .fact 1], [⟨.one (.lit (.cb true)), []⟩], .quiet (mBin .lss)⟩,
      .base ⟨0, [.fact 0, .fact 4], [⟨.one (.p), [(0, 0, 7)]⟩], .quiet (mIdx 23)⟩,
      .base ⟨0, [.fact 7], [⟨.agg [.b, .s], [(0, 0, 8)]⟩], .quiet (mLoad 36)⟩,
      .base ⟨27, [.fact 8], [⟨.agg [.s, .b], [(0, 0, 9)]⟩], false⟩,
      .base ⟨28, [.lit (.ci .i64 1)], [⟨.agg [.s, .b], [(0, 0, 10)]⟩], false⟩,
      .base ⟨26, [.fact 9, .fact 10], [⟨.agg [.s, .b, .s, .b], [(0, 0, 11), (0, 2, 12), (2, 2, 13)]⟩], false⟩,
      .base ⟨0, [.fact 5, .row 4 [11]], [⟨.one (.s), [(0, 0, 14)]⟩], .loose [] 1 0 (mApp 25 25)⟩,
      .base ⟨0, [.fact 4, .lit (.ci .i64 1)], [⟨.one (.i), [(0, 0, 15)]⟩], .quiet (mBin .add)⟩]
def o_pfrom_1 : List Step := [.base ⟨0, [.fact 4, .fact 1], [⟨.one (.lit (.cb false)), []⟩], .quiet (mBin .lss)⟩]
def ss_pfrom : List Step := [.base ⟨0, [.fact 0], [⟨.one (.i), [(0, 0, 1)]⟩], .quiet (mLen 23)⟩,
      .loop d_pfrom_1 [(r_pfrom_1_0, [.from 15, .from 14, .from 0])] o_pfrom_1,
      .base ⟨45, [.fact 2], [⟨.one (.s), [(0, 0, 3)]⟩], .callJ [1] false⟩]
def ins_pfrom : List Out := [⟨.one (.s), [(0, 0, 0)]⟩]
set_option maxRecDepth 100000 in
theorem pfrom {z : Nat → Int} {n k : Nat} (hn : n ≤ 1000000) (hk : k ≤ 50000) : SiteOk (ph (b_pfrom z n k)) Try.prog ⟨38, [.fact 0], [⟨.one (.s), [(0, 0, 3)]⟩], false⟩ := by
  skip
  exact fn_okL ins_pfrom [⟨.one (.s), [(0, 0, 3)]⟩] ss_pfrom Try.func38 (by kernel_rfl)
    (lbase (qLen (sz := 2) (n := n) (F := (fun ι w v => IntV w v (z ι) k)) Try.underlying23 (fun _ _ h => Rw.arr h) rfl)
      (lloop (counted n (fun j => ph (b_pfrom z n k ++ l_pfrom_1 z k j)) (fun _ => 0) (fun j p hp => ph_app' (show p < (b_pfrom z n k).length from hp)) ⟨fun _ => rfl, fun w => ArrO.nil 4 47 (fun ι w v => DecQ w v (((z ι : Int) : Rat)) (k + 2 + 2)) w, fun _ _ _ => trivial, trivial⟩ (fun j hj => by
      skip
      exact ⟨(r_pfrom_1_0, [.from 15, .from 14, .from 0]), rfl, ⟨fun _ _ h => h, fun _ _ h => h, fun _ _ _ => trivial, trivial⟩, (lbase (qTest (op := .lss) (fun _ _ h => h) (fun _ _ h => h) (ts_run (decide_eq_true (by omega)) (by simp)))
      (lbase (qIdx (i := j) (sz := 2) (n := n) (F := (fun ι w v => IntV w v (z ι) k)) Try.underlying23 (by kernel_rfl) (fun _ _ h => Rw.arr h) (fun _ _ h => h) (by omega) rfl)
      (lbase (qLoad (sz := 2) (F := fun w v => IntV w v (z j) k) (by kernel_rfl) (by kernel_rfl) (fun _ _ h => h) (fun _ _ _ g h => IntV.kp h g) (fun _ _ h => IntV.is h) rfl)
      (lbase (tFrom iI rfl (by omega) rfl)
      (lbase (tOf (z := 1) rfl (by decide) (by decide) rfl)
      (lbase (tMake dD dD rfl rfl rfl (by omega) rfl)
      (lbase (qAppS (n := j) (F := (fun ι w v => DecQ w v (((z ι : Int) : Rat)) (k + 2 + 2))) (fun _ _ _ _ g h => DecQ.kp h g) (fun _ _ h => h) (fun _ _ h => h.eq (qOf_int _)) (fun _ _ h => DecQ.cellsA h) (by omega) rfl)
      (lbase (qAddK (fun _ _ h => h) (by omega) rfl (by omega) (by omega))
      lnil))))))))⟩)
      (lbase (qTest (op := .lss) (fun _ _ h => h) (fun _ _ h => h) (ts_run (decide_eq_false (by omega)) (by simp)))
      lnil)
      (fun q hq w v h => by
        simp only [d_pfrom_1, List.mem_cons, List.not_mem_nil, or_false] at hq
        rcases hq with rfl
        · exact (fun h => h) h)) (lbase (onJ [1] (sCut (q := (fun ι => ((z ι : Int) : Rat))) (n := n) (k := (k + 2 + 2)) (fun _ _ h => ArrO.rw h) rfl (by omega) (by omega)))
      lnil)))
    (ins_ok [.fact 0 (.one (.s))] ⟨fun _ _ h => Rw.is (sz := 2) (F := (fun ι w v => IntV w v (z ι) k)) (n := n) h, trivial⟩) (fun _ _ _ h => h)

def b_rof (z : Nat → Int) (n : Nat) : List (World → Value → Prop) := [fun w v => Rw 1 (fun i _ v => v = .agg #[.int .i64 (z i)]) n w v, fun _ v => v = .int .i64 ((n : Nat) : Int), fun w v => ArrO 4 47 (fun ι w v => DecQ w v (((z ι : Int) : Rat)) 6) n w v, fun w v => Rw 4 (fun ι w v => DecQ w v (((z ι : Int) : Rat)) 6) (tl (fun ι => (((z ι : Int) : Rat)).num) n) w v]
def l_rof_1 (z : Nat → Int) (j : Nat) : List (World → Value → Prop) := [fun _ v => v = .int .i64 ((j : Nat) : Int), fun w v => ArrO 4 47 (fun ι w v => DecQ w v (((z ι : Int) : Rat)) 6) j w v, fun _ _ => True, fun w v => Ptr 1 (fun _ v => v = .agg #[.int .i64 (z j)]) w v, fun _ v => v = .int .i64 (z j), fun w v => DecQ w v (qOf (z j) 1) 6, fun w v => DecI w v ((qOf (z j) 1).num) 6, fun w v => DecI w v ((qOf (z j) 1).den : Int) 6, fun w v => ArrO 4 47 (fun ι w v => DecQ w v (((z ι : Int) : Rat)) 6) (j + 1) w v, fun _ v => v = .int .i64 (((j + 1) : Nat) : Int)]
def d_rof_1 : LoopD := ⟨[0, 2, 5, 6], [(.slot 7, .i), (.slot 3, .s)], [(.one 0, 4), (.one 1, .at [1] 5), (.one 1, .lo 1)], [.closed (.one (.ci .i64 0)), .closed (.one (.nl)), .from 0], 4, [(5, 2)]⟩
def r_rof_1_0 : List Step := [.base ⟨0, [.fact 4, .fact 1], [⟨.one (.lit (.cb true)), []⟩], .quiet (mBin .lss)⟩,
      .base ⟨0, [.fact 0, .fact 4], [⟨.one (.p), [(0, 0, 7)]⟩], .quiet (mIdx 40)⟩,
      .base ⟨0, [.fact 7], [⟨.one (.i), [(0, 0, 8)]⟩], .quiet (mLoad 3)⟩,
      .base ⟨36, [.fact 8, .lit (.ci .i64 1)], [⟨.agg [.s, .b, .s, .b], [(0, 0, 9), (0, 2, 10), (2, 2, 11)]⟩], false⟩,
      .base ⟨0, [.fact 5, .row 4 [9]], [⟨.one (.s), [(0, 0, 12)]⟩], .loose [] 1 0 (mApp 25 25)⟩,
      .base ⟨0, [.fact 4, .lit (.ci .i64 1)], [⟨.one (.i), [(0, 0, 13)]⟩], .quiet (mBin .add)⟩]
def o_rof_1 : List Step := [.base ⟨0, [.fact 4, .fact 1], [⟨.one (.lit (.cb false)), []⟩], .quiet (mBin .lss)⟩]
def ss_rof : List Step := [.base ⟨0, [.fact 0], [⟨.one (.i), [(0, 0, 1)]⟩], .quiet (mLen 40)⟩,
      .loop d_rof_1 [(r_rof_1_0, [.from 13, .from 12, .from 0])] o_rof_1,
      .base ⟨45, [.fact 2], [⟨.one (.s), [(0, 0, 3)]⟩], .callJ [1] false⟩]
def ins_rof : List Out := [⟨.one (.s), [(0, 0, 0)]⟩]
set_option maxRecDepth 100000 in
theorem rof {z : Nat → Int} {n : Nat} (hn : n ≤ 1000000) (hz : ∀ i, -9223372036854775808 ≤ z i ∧ z i ≤ 9223372036854775807) : SiteOk (ph (b_rof z n)) Try.prog ⟨25, [.fact 0], [⟨.one (.s), [(0, 0, 3)]⟩], false⟩ := by
  skip
  exact fn_okL ins_rof [⟨.one (.s), [(0, 0, 3)]⟩] ss_rof Try.func25 (by kernel_rfl)
    (lbase (qLen (sz := 1) (n := n) (F := (fun i _ v => v = .agg #[.int .i64 (z i)])) Try.underlying40 (fun _ _ h => Rw.arr h) rfl)
      (lloop (counted n (fun j => ph (b_rof z n ++ l_rof_1 z j)) (fun _ => 0) (fun j p hp => ph_app' (show p < (b_rof z n).length from hp)) ⟨fun _ => rfl, fun w => ArrO.nil 4 47 (fun ι w v => DecQ w v (((z ι : Int) : Rat)) 6) w, fun _ _ _ => trivial, trivial⟩ (fun j hj => by
      skip
      exact ⟨(r_rof_1_0, [.from 13, .from 12, .from 0]), rfl, ⟨fun _ _ h => h, fun _ _ h => h, fun _ _ _ => trivial, trivial⟩, (lbase (qTest (op := .lss) (fun _ _ h => h) (fun _ _ h => h) (ts_run (decide_eq_true (by omega)) (by simp)))
      (lbase (qIdx (i := j) (sz := 1) (n := n) (F := (fun i _ v => v = .agg #[.int .i64 (z i)])) Try.underlying40 (by kernel_rfl) (fun _ _ h => Rw.arr h) (fun _ _ h => h) (by omega) rfl)
      (lbase (qLoad1 (by kernel_rfl) (fun _ _ h => h) rfl)
      (lbase (tOfRJ (y := 1) (fun _ _ h => h) rfl rfl rfl (by have := hz j; omega) (by have := hz j; omega) (by decide) (by decide) rfl)
      (lbase (qAppS (n := j) (F := (fun ι w v => DecQ w v (((z ι : Int) : Rat)) 6)) (fun _ _ _ _ g h => DecQ.kp h g) (fun _ _ h => h) (fun _ _ h => h.eq (qOf_int _)) (fun _ _ h => DecQ.cellsA h) (by omega) rfl)
      (lbase (qAddK (fun _ _ h => h) (by omega) rfl (by omega) (by omega))
      lnil))))))⟩)
      (lbase (qTest (op := .lss) (fun _ _ h => h) (fun _ _ h => h) (ts_run (decide_eq_false (by omega)) (by simp)))
      lnil)
      (fun q hq w v h => by
        simp only [d_rof_1, List.mem_cons, List.not_mem_nil, or_false] at hq
        rcases hq with rfl
        · exact (fun h => h) h)) (lbase (onJ [1] (sCut (q := (fun ι => ((z ι : Int) : Rat))) (n := n) (k := 6) (fun _ _ h => ArrO.rw h) rfl (by omega) (by omega)))
      lnil)))
    (ins_ok [.fact 0 (.one (.s))] ⟨fun _ _ h => Rw.is (sz := 1) (F := (fun i _ v => v = .agg #[.int .i64 (z i)])) (n := n) h, trivial⟩) (fun _ _ _ h => h)

def b_psame (z : Nat → Int) (n k kq : Nat) : List (World → Value → Prop) := [fun w v => Rw 4 (fun ι w v => DecQ w v (((z ι : Int) : Rat)) kq) n w v, fun w v => Rw 2 (fun ι w v => NorV w v (z ι) k) n w v, fun _ v => v = .int .i64 ((n : Nat) : Int), fun _ v => v = .int .i64 ((n : Nat) : Int), fun _ v => v = .int .i64 ((n : Nat) : Int)]
def l_psame_1 (z : Nat → Int) (k kq : Nat) (j : Nat) : List (World → Value → Prop) := [fun _ v => v = .int .i64 ((j : Nat) : Int), fun w v => Ptr 4 (fun w v => DecQ w v (((z j : Int) : Rat)) kq) w v, fun w v => Ptr 2 (fun w v => DecI w v ((((z j : Int) : Rat)).num) kq) w v, fun w v => DecI w v ((((z j : Int) : Rat)).num) kq, fun w v => Ptr 2 (fun w v => NorV w v (z j) k) w v, fun w v => NorV w v (z j) k, fun w v => Ptr 4 (fun w v => DecQ w v (((z j : Int) : Rat)) kq) w v, fun w v => Ptr 2 (fun w v => DecI w v ((((z j : Int) : Rat)).den : Int) kq) w v, fun w v => DecI w v ((((z j : Int) : Rat)).den : Int) kq, fun w v => DecI w v (1 : Int) 2, fun _ v => v = .int .i64 (((j + 1) : Nat) : Int)]
def d_psame_1 : LoopD := ⟨[0, 1, 4, 6, 7, 8, 9, 10, 11, 12], [(.slot 13, .i)], [(.one 0, 5)], [.closed (.one (.ci .i64 0))], 5, []⟩
def r_psame_1_0 : List Step := [.base ⟨0, [.fact 5, .fact 4], [⟨.one (.lit (.cb true)), []⟩], .quiet (mBin .lss)⟩,
      .base ⟨0, [.fact 0, .fact 5], [⟨.one (.p), [(0, 0, 6)]⟩], .quiet (mIdx 25)⟩,
      .base ⟨0, [.fact 6], [⟨.one (.p), [(0, 0, 7)]⟩], .quiet (mFld 47 0)⟩,
      .base ⟨0, [.fact 7], [⟨.agg [.s, .b], [(0, 0, 8)]⟩], .quiet (mLoad 45)⟩,
      .base ⟨0, [.fact 1, .fact 5], [⟨.one (.p), [(0, 0, 9)]⟩], .quiet (mIdx 23)⟩,
      .base ⟨0, [.fact 9], [⟨.agg [.b, .s], [(0, 0, 10)]⟩], .quiet (mLoad 36)⟩,
      .base ⟨76, [.fact 8, .fact 10], [⟨.one (.lit (.cb true)), []⟩], false⟩,
      .base ⟨0, [.fact 0, .fact 5], [⟨.one (.p), [(0, 0, 11)]⟩], .quiet (mIdx 25)⟩,
      .base ⟨0, [.fact 11], [⟨.one (.p), [(0, 0, 12)]⟩], .quiet (mFld 47 1)⟩,
      .base ⟨0, [.fact 12], [⟨.agg [.s, .b], [(0, 0, 13)]⟩], .quiet (mLoad 45)⟩,
      .base ⟨28, [.lit (.ci .i64 1)], [⟨.agg [.s, .b], [(0, 0, 14)]⟩], false⟩,
      .base ⟨77, [.fact 13, .fact 14], [⟨.one (.lit (.ci .i64 0)), []⟩], false⟩,
      .base ⟨0, [.fact 5, .lit (.ci .i64 1)], [⟨.one (.i), [(0, 0, 15)]⟩], .quiet (mBin .add)⟩]
def o_psame_1 : List Step := [.base ⟨0, [.fact 5, .fact 4], [⟨.one (.lit (.cb false)), []⟩], .quiet (mBin .lss)⟩]
def ss_psame : List Step := [.base ⟨0, [.fact 0], [⟨.one (.i), [(0, 0, 2)]⟩], .quiet (mLen 25)⟩,
      .base ⟨0, [.fact 1], [⟨.one (.i), [(0, 0, 3)]⟩], .quiet (mLen 23)⟩,
      .base ⟨0, [.fact 2, .fact 3], [⟨.one (.lit (.cb false)), []⟩], .quiet (mBin .neq)⟩,
      .base ⟨0, [.fact 0], [⟨.one (.i), [(0, 0, 4)]⟩], .quiet (mLen 25)⟩,
      .loop d_psame_1 [(r_psame_1_0, [.from 15])] o_psame_1]
def ins_psame : List Out := [⟨.one (.s), [(0, 0, 0)]⟩, ⟨.one (.s), [(0, 0, 1)]⟩]
set_option maxRecDepth 100000 in
theorem psame {z : Nat → Int} {n k kq : Nat} (hn : n ≤ 1000000) (hkq : kq ≤ 500000) (_hk : k ≤ 500000) : SiteOk (ph (b_psame z n k kq)) Try.prog ⟨42, [.fact 0, .fact 1], [⟨.one (.lit (.cb true)), []⟩], false⟩ := by
  skip
  exact fn_okL ins_psame [⟨.one (.lit (.cb true)), []⟩] ss_psame Try.func42 (by kernel_rfl)
    (lbase (qLen (sz := 4) (n := n) (F := (fun ι w v => DecQ w v (((z ι : Int) : Rat)) kq)) Try.underlying25 (fun _ _ h => Rw.arr h) rfl)
      (lbase (qLen (sz := 2) (n := n) (F := (fun ι w v => NorV w v (z ι) k)) Try.underlying23 (fun _ _ h => Rw.arr h) rfl)
      (lbase (qTest (op := .neq) (fun _ _ h => h) (fun _ _ h => h) (ts_run (decide_eq_false (fun h => h rfl)) (by simp)))
      (lbase (qLen (sz := 4) (n := n) (F := (fun ι w v => DecQ w v (((z ι : Int) : Rat)) kq)) Try.underlying25 (fun _ _ h => Rw.arr h) rfl)
      (lloop (counted n (fun j => ph (b_psame z n k kq ++ l_psame_1 z k kq j)) (fun _ => 0) (fun j p hp => ph_app' (show p < (b_psame z n k kq).length from hp)) ⟨fun _ => rfl, trivial⟩ (fun j hj => by
      skip
      exact ⟨(r_psame_1_0, [.from 15]), rfl, ⟨fun _ _ h => h, trivial⟩, (lbase (qTest (op := .lss) (fun _ _ h => h) (fun _ _ h => h) (ts_run (decide_eq_true (by omega)) (by simp)))
      (lbase (qIdx (i := j) (sz := 4) (n := n) (F := (fun ι w v => DecQ w v (((z ι : Int) : Rat)) kq)) Try.underlying25 (by kernel_rfl) (fun _ _ h => Rw.arr h) (fun _ _ h => h) (by omega) rfl)
      (lbase (qFld (off := 0) (len := 2) (sz := 4) (F := fun w v => DecQ w v (((z j : Int) : Rat)) kq) (G := fun w v => DecI w v ((((z j : Int) : Rat)).num) kq) (by kernel_rfl) (fun _ _ h => h) (by omega) (fun _ _ h => DecQ.fst' h) rfl)
      (lbase (qLoad (sz := 2) (F := fun w v => DecI w v ((((z j : Int) : Rat)).num) kq) (by kernel_rfl) (by kernel_rfl) (fun _ _ h => h) (fun _ _ _ g h => DecI.kp h g) (fun _ _ h => DecI.is h) rfl)
      (lbase (qIdx (i := j) (sz := 2) (n := n) (F := (fun ι w v => NorV w v (z ι) k)) Try.underlying23 (by kernel_rfl) (fun _ _ h => Rw.arr h) (fun _ _ h => h) (by omega) rfl)
      (lbase (qLoad (sz := 2) (F := fun w v => NorV w v (z j) k) (by kernel_rfl) (by kernel_rfl) (fun _ _ h => h) (fun _ _ _ g h => NorV.kp h g) (fun _ _ h => NorV.is h) rfl)
      (lbase (tSame dD nN (by omega) rfl rfl)
      (lbase (qIdx (i := j) (sz := 4) (n := n) (F := (fun ι w v => DecQ w v (((z ι : Int) : Rat)) kq)) Try.underlying25 (by kernel_rfl) (fun _ _ h => Rw.arr h) (fun _ _ h => h) (by omega) rfl)
      (lbase (qFld (off := 2) (len := 2) (sz := 4) (F := fun w v => DecQ w v (((z j : Int) : Rat)) kq) (G := fun w v => DecI w v ((((z j : Int) : Rat)).den : Int) kq) (by kernel_rfl) (fun _ _ h => h) (by omega) (fun _ _ h => DecQ.snd' h) rfl)
      (lbase (qLoad (sz := 2) (F := fun w v => DecI w v ((((z j : Int) : Rat)).den : Int) kq) (by kernel_rfl) (by kernel_rfl) (fun _ _ h => h) (fun _ _ _ g h => DecI.kp h g) (fun _ _ h => DecI.is h) rfl)
      (lbase (tOf (z := 1) rfl (by decide) (by decide) rfl)
      (lbase (tCmp5 dD dD (by omega) (cmp_den _))
      (lbase (qAddK (fun _ _ h => h) (by omega) rfl (by omega) (by omega))
      lnil)))))))))))))⟩)
      (lbase (qTest (op := .lss) (fun _ _ h => h) (fun _ _ h => h) (ts_run (decide_eq_false (by omega)) (by simp)))
      lnil)
      (fun q hq => by cases hq)) lnil)))))
    (ins_ok [.fact 0 (.one (.s)), .fact 1 (.one (.s))] ⟨fun _ _ h => Rw.is (sz := 4) (F := (fun ι w v => DecQ w v (((z ι : Int) : Rat)) kq)) (n := n) h, fun _ _ h => Rw.is (sz := 2) (F := (fun ι w v => NorV w v (z ι) k)) (n := n) h, trivial⟩) (fun _ _ _ h => h)

section
variable {Φ : Nat → World → Value → Prop} {p q x n k kq : Nat} {z : Nat → Int}
theorem sSameP (hp : ∀ w v, Φ p w v → Rw 4 (fun i w v => DecQ w v ((z i : Int) : Rat) kq) n w v) (hq : ∀ w v, Φ q w v → Rw 2 (fun i w v => NorV w v (z i) k) n w v) (hn : n ≤ 1000000) (hkq : kq ≤ 500000) (hk : k ≤ 500000) : SiteOk Φ Try.prog ⟨42, [.fact p, .fact q], [⟨.one (.lit (.cb true)), []⟩], false⟩ :=
  viaG (psame hn hkq hk) ⟨hp, hq, trivial⟩ ⟨⟨rfl, trivial⟩, trivial⟩
end
def b_pis (z : Nat → Int) (n k kq : Nat) : List (World → Value → Prop) := [fun w v => Rw 4 (fun ι w v => DecQ w v (((z ι : Int) : Rat)) kq) n w v, fun w v => Rw 2 (fun ι w v => NorV w v (z ι) k) n w v]
def ss_pis : List Step := [.base ⟨42, [.fact 0, .fact 1], [⟨.one (.lit (.cb true)), []⟩], false⟩]
def ins_pis : List Out := [⟨.one (.s), [(0, 0, 0)]⟩, ⟨.one (.s), [(0, 0, 1)]⟩]
set_option maxRecDepth 100000 in
theorem pis {z : Nat → Int} {n k kq : Nat} (hn : n ≤ 1000000) (hkq : kq ≤ 500000) (hk : k ≤ 500000) : SiteOk (ph (b_pis z n k kq)) Try.prog ⟨9, [.fact 0, .fact 1], [⟨.one (.lit (.cb true)), []⟩], false⟩ := by
  skip
  exact fn_okL ins_pis [⟨.one (.lit (.cb true)), []⟩] ss_pis Try.func9 (by kernel_rfl)
    (lbase (sSameP (fun _ _ h => h) (fun _ _ h => h) (by omega) (by omega) (by omega))
      lnil)
    (ins_ok [.fact 0 (.one (.s)), .fact 1 (.one (.s))] ⟨fun _ _ h => Rw.is (sz := 4) (F := (fun ι w v => DecQ w v (((z ι : Int) : Rat)) kq)) (n := n) h, fun _ _ h => Rw.is (sz := 2) (F := (fun ι w v => NorV w v (z ι) k)) (n := n) h, trivial⟩) (fun _ _ _ h => h)

section
variable {Φ : Nat → World → Value → Prop} {p q r x n n0 k K m kq : Nat} {z : Nat → Int}
theorem sIsP (hp : ∀ w v, Φ p w v → Rw 4 (fun i w v => DecQ w v ((z i : Int) : Rat) kq) n w v) (hq : ∀ w v, Φ q w v → Rw 2 (fun i w v => NorV w v (z i) k) n w v) (hn : n ≤ 1000000) (hkq : kq ≤ 500000) (hk : k ≤ 500000) : SiteOk Φ Try.prog ⟨9, [.fact p, .fact q], [⟨.one (.lit (.cb true)), []⟩], false⟩ :=
  viaG (pis hn hkq hk) ⟨hp, hq, trivial⟩ ⟨⟨rfl, trivial⟩, trivial⟩
theorem rowCut {k : Nat} {L : List Int} {w : World} {v : Value} (hL : trimL (mk n z) = L) (h : Rw 4 (fun i w v => DecQ w v ((z i : Int) : Rat) k) (tl z n) w v) : Rw 4 (fun i w v => DecQ w v ((coef L i : Int) : Rat) k) L.length w v := by
  subst hL
  exact Rw.len (Rw.to h fun i w v hi h => by rw [← trim_coef (Nat.lt_of_lt_of_le hi (tl_le _ _)), upto_lt (Nat.lt_of_lt_of_le hi (tl_le _ _))]; exact h) (by rw [trimL_mk])
theorem sFromP {L : List Int} (hp : ∀ w v, Φ p w v → Rw 2 (fun i w v => IntV w v (z i) k) n w v) (hx : Φ x = fun w v => Rw 4 (fun i w v => DecQ w v ((coef L i : Int) : Rat) (k + 2 + 2)) L.length w v) (hn : n ≤ 1000000) (hk : k ≤ 50000) (hL : trimL (mk n z) = L) : SiteOk Φ Try.prog ⟨38, [.fact p], [⟨.one .s, [(0, 0, x)]⟩], false⟩ :=
  viaG (pfrom hn hk) ⟨hp, trivial⟩ ⟨⟨rfl, ⟨rfl, rfl, fun _ _ h => hx ▸ rowCut hL h⟩, trivial⟩, trivial⟩
theorem sPROf {L : List Int} (hp : ∀ w v, Φ p w v → Rw 1 (fun i _ v => v = .agg #[.int .i64 (z i)]) n w v) (hx : Φ x = fun w v => Rw 4 (fun i w v => DecQ w v ((coef L i : Int) : Rat) 6) L.length w v) (hn : n ≤ 1000000) (hz : ∀ i, -9223372036854775808 ≤ z i ∧ z i ≤ 9223372036854775807) (hL : trimL (mk n z) = L) : SiteOk Φ Try.prog ⟨25, [.fact p], [⟨.one .s, [(0, 0, x)]⟩], false⟩ :=
  viaG (rof hn hz) ⟨hp, trivial⟩ ⟨⟨rfl, ⟨rfl, rfl, fun _ _ h => hx ▸ rowCut hL h⟩, trivial⟩, trivial⟩
theorem sKPolyJ {a : Nat → Bool} {xs : Nat → List Nat} (K m : Nat) (hp : ∀ w v, Φ p w v → Rw 2 (fun i w v => RawI w v (a i) (xs i)) n0 w v) (hq : ∀ w v, Φ q w v → v = .int .i64 (K : Int)) (hr : ∀ w v, Φ r w v → v = .int .i64 (m : Int)) (hx : Φ x = fun w v => Rw 2 (fun i w v => KI w v (a i) ((xs i).take m) (z i) m) n w v) (hn : n0 ≤ 9223372036854775807) (hKm : K ≤ 1000000) (hz : ∀ j, sg (a j) (Proofs.Yteblgmjpociffaa.val 4294967296 ((xs j).take m)) = z j) (hN : min n0 K = n) :
    SiteOk Φ Try.prog ⟨37, [.fact p, .fact q, .fact r], [⟨.one .s, [(0, 0, x)]⟩], false⟩ := by
  rcases Nat.lt_or_ge K n0 with h | h
  · exact viaG (kp_l (N := n) hn hKm hz (by omega) h) ⟨hp, hq, hr, trivial⟩ ⟨⟨rfl, ⟨rfl, rfl, fun _ _ h => hx ▸ ArrO.rw (e := 36) h⟩, trivial⟩, trivial⟩
  · exact viaG (kp_s (N := n) hn hKm hz (by omega) (by omega)) ⟨hp, hq, hr, trivial⟩ ⟨⟨rfl, ⟨rfl, rfl, fun _ _ h => hx ▸ ArrO.rw (e := 36) h⟩, trivial⟩, trivial⟩
end
end Go.Proofs.Yteblgmjpociffaa.Sym
