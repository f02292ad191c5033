/- The reference's Scale, To, Primitive (whole coefficients). -/
import Derived.Test.YteblgmjpociffaaGreatDivC
import Derived.Test.YteblgmjpociffaaGreatPolX
import Derived.Test.YteblgmjpociffaaGreatSymQ
namespace Go.Proofs.YteblgmjpociffaaGreat.Sym
open Go.RowKit
theorem DecI.reX {w : World} {v : Value} {z : Int} {k l : Nat} (h : DecI w v z k) (hb : Bd z.natAbs l) : DecI w v z l := by
 obtain ⟨p, c, h1, h2⟩ := h
 exact ⟨p, c, h1, h2.1, hb⟩
theorem DecQ.reX {w : World} {v : Value} {q : Rat} {k l : Nat} (h : DecQ w v q k) (h1 : Bd q.num.natAbs l) (h2 : Bd q.den l) : DecQ w v q l := by
 obtain ⟨p, n, c, b, p', n', c', b', h3, h4, h5⟩ := h
 exact ⟨p, n, c, b, p', n', c', b', h3, DecI.reX h4 h1, DecI.reX h5 (by rw [Int.natAbs_natCast]; exact h2)⟩
section
variable {Φ : Nat -> World -> Value -> Prop} {p x : Nat}
end
def b_xscale (q : Nat -> Rat) (c : Rat) (n k l K : Nat) : List (World -> Value -> Prop) := [fun w v => Rw 4 (fun ι w v => DecQ w v (q ι) k) n w v, fun w v => DecQ w v c l, fun _ v => v = .int .i64 ((n : Nat) : Int), fun w v => ArrO 4 53 (fun ι w v => DecQ w v ((q ι * c)) K) n w v, fun w v => Rw 4 (fun ι w v => DecQ w v ((q ι * c)) K) (tl (fun ι => ((q ι * c)).num) n) w v]
def l_xscale_1 (q : Nat -> Rat) (c : Rat) (k l K : Nat) (j : Nat) : List (World -> Value -> Prop) := [fun _ v => v = .int .i64 ((j : Nat) : Int), fun w v => ArrO 4 53 (fun ι w v => DecQ w v ((q ι * c)) K) j w v, fun _ _ => True, fun w v => Ptr 4 (fun w v => DecQ w v (q j) k) w v, fun w v => DecQ w v (q j) k, fun w v => DecQ w v ((q j) * c) (2 * (k + l) + 2), fun w v => DecI w v (((q j) * c).num) (2 * (k + l) + 2), fun w v => DecI w v (((q j) * c).den : Int) (2 * (k + l) + 2), fun w v => ArrO 4 53 (fun ι w v => DecQ w v ((q ι * c)) K) (j + 1) w v, fun _ v => v = .int .i64 (((j + 1) : Nat) : Int)]
def d_xscale_1 : LoopD := ⟨[0, 1, 3, 4, 7, 8], [(.slot 9, .i), (.slot 5, .s)], [(.one 0, 5), (.one 1, .at [1] 6), (.one 1, .lo 1)], [.closed (.one (.ci .i64 0)), .closed (.one (.nl)), .from 0], 5, [(6, 3)]⟩
def r_xscale_1_0 : List Step := [.base ⟨0, [.fact 5, .fact 2], [⟨.one (.lit (.cb true)), []⟩], .quiet (mBin .lss)⟩,
   .base ⟨0, [.fact 0, .fact 5], [⟨.one (.p), [(0, 0, 8)]⟩], .quiet (mIdx 30)⟩,
   .base ⟨0, [.fact 8], [⟨.agg [.s, .b, .s, .b], [(0, 0, 9)]⟩], .quiet (mLoad 53)⟩,
   .base ⟨73, [.fact 9, .fact 1], [⟨.agg [.s, .b, .s, .b], [(0, 0, 10), (0, 2, 11), (2, 2, 12)]⟩], false⟩,
   .base ⟨0, [.fact 6, .row 4 [10]], [⟨.one (.s), [(0, 0, 13)]⟩], .loose [] 1 0 (mApp 30 30)⟩,
   .base ⟨0, [.fact 5, .lit (.ci .i64 1)], [⟨.one (.i), [(0, 0, 14)]⟩], .quiet (mBin .add)⟩]
def o_xscale_1 : List Step := [.base ⟨0, [.fact 5, .fact 2], [⟨.one (.lit (.cb false)), []⟩], .quiet (mBin .lss)⟩]
def ss_xscale : List Step := [.base ⟨0, [.fact 0], [⟨.one (.i), [(0, 0, 2)]⟩], .quiet (mLen 30)⟩,
   .loop d_xscale_1 [(r_xscale_1_0, [.from 14, .from 13, .from 0])] o_xscale_1,
   .base ⟨74, [.fact 3], [⟨.one (.s), [(0, 0, 4)]⟩], .callJ [1] false⟩]
def ins_xscale : List Out := [⟨.one (.s), [(0, 0, 0)]⟩, ⟨.agg [.s, .b, .s, .b], [(0, 0, 1)]⟩]
set_option maxRecDepth 100000 in
theorem xscale {q : Nat -> Rat} {c : Rat} {n k l K : Nat} (hn : n <= 1000000) (hk : k <= 8000) (hl : l <= 8000) (hK : K <= 400000) (hB : ∀ i, i < n -> Bd (q i * c).num.natAbs K ∧ Bd (q i * c).den K) : SiteOk (ph (b_xscale q c n k l K)) Tryz.prog ⟨25, [.fact 0, .fact 1], [⟨.one (.s), [(0, 0, 4)]⟩], false⟩ := by
 skip
 exact fn_okL ins_xscale [⟨.one (.s), [(0, 0, 4)]⟩] ss_xscale Tryz.func25 (by kernel_rfl)
  (lbase (qLen (sz := 4) (n := n) (F := (fun ι w v => DecQ w v (q ι) k)) Tryz.underlying30 (fun _ _ h => Rw.arr h) rfl)
   (lloop (counted n (fun j => ph (b_xscale q c n k l K ++ l_xscale_1 q c k l K j)) (fun _ => 0) (fun j p hp => ph_app' (show p < (b_xscale q c n k l K).length from hp)) ⟨fun _ => rfl, fun w => ArrO.nil 4 53 (fun ι w v => DecQ w v ((q ι * c)) K) w, fun _ _ _ => trivial, trivial⟩ (fun j hj => by
   skip
   exact ⟨(r_xscale_1_0, [.from 14, .from 13, .from 0]), rfl, ⟨fun _ _ h => h, fun _ _ h => h, fun _ _ _ => trivial, trivial⟩, (lbase (qTest (op := .lss) (fun _ _ h => h) (fun _ _ h => h) (ts_run (decide_eq_true (by omega)) (by simp)))
   (lbase (qIdx (i := j) (sz := 4) (n := n) (F := (fun ι w v => DecQ w v (q ι) k)) Tryz.underlying30 (by kernel_rfl) (fun _ _ h => Rw.arr h) (fun _ _ h => h) (by omega) rfl)
   (lbase (qLoad (sz := 4) (F := fun w v => DecQ w v (q j) k) (by kernel_rfl) (by kernel_rfl) (fun _ _ h => h) (fun _ _ _ g h => DecQ.kp h g) (fun _ _ h => DecQ.is h) rfl)
   (lbase (tMulR tS tS rfl rfl rfl (by omega) rfl)
   (lbase (qAppS (n := j) (F := (fun ι w v => DecQ w v ((q ι * c)) K)) (fun _ _ _ _ g h => DecQ.kp h g) (fun _ _ h => h) (fun _ _ h => DecQ.reX h (hB j (by omega)).1 (hB j (by omega)).2) (fun _ _ h => DecQ.cellsA h) (by omega) rfl)
   (lbase (qAddK (fun _ _ h => h) (by omega) rfl (by omega) (by omega))
   lnil))))))⟩)
   (lbase (qTest (op := .lss) (fun _ _ h => h) (fun _ _ h => h) (ts_run (decide_eq_false (by omega)) (by simp)))
   lnil)
   (fun q hq w v h => by
    simp only [d_xscale_1, List.mem_cons, List.not_mem_nil, or_false] at hq
    rcases hq with rfl
    ·exact (fun h => h) h)) (lbase (onJ [1] (sCut (q := (fun ι => (q ι * c))) (n := n) (k := K) (fun _ _ h => ArrO.rw h) rfl (by omega) (by omega)))
   lnil)))
  (ins_ok [.fact 0 (.one (.s)), .fact 1 (.agg [.s, .b, .s, .b])] ⟨fun _ _ h => Rw.is (sz := 4) (F := (fun ι w v => DecQ w v (q ι) k)) (n := n) h, fun _ _ h => DecQ.is h, trivial⟩) (fun _ _ _ h => h)
def b_xto (z : Nat -> Int) (n k : Nat) : List (World -> Value -> Prop) := [fun w v => Rw 4 (fun ι w v => DecQ w v (((z ι : Int) : Rat)) k) n w v, fun _ v => v = .int .i64 ((n : Nat) : Int), fun w v => ArrO 2 26 (fun ι w v => NorV w v (z ι) k) n w v]
def l_xto_1 (z : Nat -> Int) (k : Nat) (j : Nat) : List (World -> Value -> Prop) := [fun _ v => v = .int .i64 ((j : Nat) : Int), fun w v => ArrO 2 26 (fun ι w v => NorV w v (z ι) k) j w v, fun _ _ => True, fun w v => Ptr 4 (fun w v => DecQ w v (((z j : Int) : Rat)) k) w v, fun w v => Ptr 2 (fun w v => DecI w v ((((z j : Int) : Rat)).num) k) w v, fun w v => DecI w v ((((z j : Int) : Rat)).num) k, fun w v => NorV w v ((((z j : Int) : Rat)).num) k, fun w v => ArrO 2 26 (fun ι w v => NorV w v (z ι) k) (j + 1) w v, fun _ v => v = .int .i64 (((j + 1) : Nat) : Int)]
def d_xto_1 : LoopD := ⟨[0, 2, 5, 6], [(.slot 7, .i), (.slot 3, .s)], [(.one 0, 3), (.one 1, .at [1] 4), (.one 1, .lo 1)], [.closed (.one (.ci .i64 0)), .closed (.one (.nl)), .from 0], 3, [(4, 2)]⟩
def r_xto_1_0 : List Step := [.base ⟨0, [.fact 3, .fact 1], [⟨.one (.lit (.cb true)), []⟩], .quiet (mBin .lss)⟩,
   .base ⟨0, [.fact 0, .fact 3], [⟨.one (.p), [(0, 0, 6)]⟩], .quiet (mIdx 30)⟩,
   .base ⟨0, [.fact 6], [⟨.one (.p), [(0, 0, 7)]⟩], .quiet (mFld 53 0)⟩,
   .base ⟨0, [.fact 7], [⟨.agg [.s, .b], [(0, 0, 8)]⟩], .quiet (mLoad 51)⟩,
   .base ⟨81, [.fact 8], [⟨.agg [.b, .s], [(0, 0, 9)]⟩], false⟩,
   .base ⟨0, [.fact 4, .row 2 [9]], [⟨.one (.s), [(0, 0, 10)]⟩], .loose [] 1 0 (mApp 23 23)⟩,
   .base ⟨0, [.fact 3, .lit (.ci .i64 1)], [⟨.one (.i), [(0, 0, 11)]⟩], .quiet (mBin .add)⟩]
def o_xto_1 : List Step := [.base ⟨0, [.fact 3, .fact 1], [⟨.one (.lit (.cb false)), []⟩], .quiet (mBin .lss)⟩]
def ss_xto : List Step := [.base ⟨0, [.fact 0], [⟨.one (.i), [(0, 0, 1)]⟩], .quiet (mLen 30)⟩,
   .loop d_xto_1 [(r_xto_1_0, [.from 11, .from 10, .from 0])] o_xto_1]
def ins_xto : List Out := [⟨.one (.s), [(0, 0, 0)]⟩]
set_option maxRecDepth 100000 in
theorem xto {z : Nat -> Int} {n k : Nat} (hn : n <= 1000000) (hk : k <= 400000) : SiteOk (ph (b_xto z n k)) Tryz.prog ⟨29, [.fact 0], [⟨.one (.s), [(0, 0, 2)]⟩], false⟩ := by
 skip
 exact fn_okL ins_xto [⟨.one (.s), [(0, 0, 2)]⟩] ss_xto Tryz.func29 (by kernel_rfl)
  (lbase (qLen (sz := 4) (n := n) (F := (fun ι w v => DecQ w v (((z ι : Int) : Rat)) k)) Tryz.underlying30 (fun _ _ h => Rw.arr h) rfl)
   (lloop (counted n (fun j => ph (b_xto z n k ++ l_xto_1 z k j)) (fun _ => 0) (fun j p hp => ph_app' (show p < (b_xto z n k).length from hp)) ⟨fun _ => rfl, fun w => ArrO.nil 2 26 (fun ι w v => NorV w v (z ι) k) w, fun _ _ _ => trivial, trivial⟩ (fun j hj => by
   skip
   exact ⟨(r_xto_1_0, [.from 11, .from 10, .from 0]), rfl, ⟨fun _ _ h => h, fun _ _ h => h, fun _ _ _ => trivial, trivial⟩, (lbase (qTest (op := .lss) (fun _ _ h => h) (fun _ _ h => h) (ts_run (decide_eq_true (by omega)) (by simp)))
   (lbase (qIdx (i := j) (sz := 4) (n := n) (F := (fun ι w v => DecQ w v (((z ι : Int) : Rat)) k)) Tryz.underlying30 (by kernel_rfl) (fun _ _ h => Rw.arr h) (fun _ _ h => h) (by omega) rfl)
   (lbase (qFld (off := 0) (len := 2) (sz := 4) (F := fun w v => DecQ w v (((z j : Int) : Rat)) k) (G := fun w v => DecI w v ((((z j : Int) : Rat)).num) k) (by kernel_rfl) (fun _ _ h => h) (by omega) (fun _ _ h => DecQ.fst' h) rfl)
   (lbase (qLoad (sz := 2) (F := fun w v => DecI w v ((((z j : Int) : Rat)).num) k) (by kernel_rfl) (by kernel_rfl) (fun _ _ h => h) (fun _ _ _ g h => DecI.kp h g) (fun _ _ h => DecI.is h) rfl)
   (lbase (tTo dD rfl (by omega) rfl)
   (lbase (qAppI (n := j) (F := (fun ι w v => NorV w v (z ι) k)) (fun _ _ _ _ g h => NorV.kp h g) (fun _ _ h => h) (fun _ _ h => h) (fun _ _ h => NorV.cellsA h) (by omega) rfl)
   (lbase (qAddK (fun _ _ h => h) (by omega) rfl (by omega) (by omega))
   lnil)))))))⟩)
   (lbase (qTest (op := .lss) (fun _ _ h => h) (fun _ _ h => h) (ts_run (decide_eq_false (by omega)) (by simp)))
   lnil)
   (fun q hq w v h => by
    simp only [d_xto_1, List.mem_cons, List.not_mem_nil, or_false] at hq
    rcases hq with rfl
    ·exact (fun h => h) h)) lnil))
  (ins_ok [.fact 0 (.one (.s))] ⟨fun _ _ h => Rw.is (sz := 4) (F := (fun ι w v => DecQ w v (((z ι : Int) : Rat)) k)) (n := n) h, trivial⟩) (fun _ _ _ h => h)
section
variable {Φ : Nat -> World -> Value -> Prop} {p y x n k l K N : Nat} {q : Nat -> Rat} {c : Rat} {z : Nat -> Int}
theorem sRScaleX (hp : ∀ w v, Φ p w v -> Rw 4 (fun i w v => DecQ w v (q i) k) n w v) (hy : ∀ w v, Φ y w v -> DecQ w v c l) (hx : Φ x = fun w v => Rw 4 (fun i w v => DecQ w v (q i * c) K) N w v) (hn : n <= 1000000) (hk : k <= 8000) (hl : l <= 8000) (hK : K <= 400000) (hB : ∀ i, i < n -> Bd (q i * c).num.natAbs K ∧ Bd (q i * c).den K) (hN : tl (fun i => (q i * c).num) n = N) : SiteOk Φ Tryz.prog ⟨25, [.fact p, .fact y], [⟨.one .s, [(0, 0, x)]⟩], false⟩ :=
 viaG (xscale (q := q) (c := c) hn hk hl hK hB) ⟨hp, hy, trivial⟩ ⟨⟨rfl, ⟨rfl, rfl, fun _ _ h => hx ▸ hN ▸ h⟩, trivial⟩, trivial⟩
theorem sRTo (hp : ∀ w v, Φ p w v -> Rw 4 (fun i w v => DecQ w v ((z i : Int) : Rat) k) n w v) (hx : Φ x = fun w v => Rw 2 (fun i w v => NorV w v (z i) k) n w v) (hn : n <= 1000000) (hk : k <= 400000) : SiteOk Φ Tryz.prog ⟨29, [.fact p], [⟨.one .s, [(0, 0, x)]⟩], false⟩ :=
 viaG (xto (z := z) hn hk) ⟨hp, trivial⟩ ⟨⟨rfl, ⟨rfl, rfl, fun _ _ h => hx ▸ ArrO.rw (e := 26) h⟩, trivial⟩, trivial⟩
end
def b_xzero  : List (World -> Value -> Prop) := [fun w v => DecQ w v (qOf 0 1) 6, fun w v => DecI w v ((qOf 0 1).num) 6, fun w v => DecI w v ((qOf 0 1).den : Int) 6]
def ss_xzero : List Step := [.base ⟨88, [.lit (.ci .i64 0), .lit (.ci .i64 1)], [⟨.agg [.s, .b, .s, .b], [(0, 0, 0), (0, 2, 1), (2, 2, 2)]⟩], false⟩]
def ins_xzero : List Out := []
set_option maxRecDepth 100000 in
theorem xzero   : SiteOk (ph (b_xzero )) Tryz.prog ⟨84, [], [⟨.agg [.s, .b, .s, .b], [(0, 0, 0), (0, 2, 1), (2, 2, 2)]⟩], false⟩ := by
 skip
 exact fn_okL ins_xzero [⟨.agg [.s, .b, .s, .b], [(0, 0, 0), (0, 2, 1), (2, 2, 2)]⟩] ss_xzero Tryz.func84 (by kernel_rfl)
  (lbase (tOfR (z := 0) (y := 1) rfl rfl rfl (by decide) (by decide) (by decide) (by decide) rfl)
   lnil)
  (ins_ok [] trivial) (fun _ _ _ h => h)
theorem tZeroX {Φ : Nat -> World -> Value -> Prop} {x x1 x2 : Nat} (hx : Φ x = fun w v => DecQ w v (qOf 0 1) 6) (hx1 : Φ x1 = fun w v => DecI w v (qOf 0 1).num 6) (hx2 : Φ x2 = fun w v => DecI w v ((qOf 0 1).den : Int) 6) : SiteOk Φ Tryz.prog ⟨84, [], [⟨sS, [(0, 0, x), (0, 2, x1), (2, 2, x2)]⟩], false⟩ :=
 viaG xzero trivial ⟨⟨rfl, ⟨rfl, rfl, fun _ _ h => hx ▸ h⟩, ⟨rfl, rfl, fun _ _ h => hx1 ▸ h⟩, ⟨rfl, rfl, fun _ _ h => hx2 ▸ h⟩, trivial⟩, trivial⟩
section
variable {Φ : Nat -> World -> Value -> Prop} {p q y x x1 x2 n m k l K N : Nat} {c : Int} {z : Nat -> Int} {a : Bool} {xs : List Nat}
theorem one_ltX {k : Nat} (h : 1 <= k) : Bd 1 k := Nat.one_lt_pow (by omega) (by omega)
theorem tl_self {f : Nat -> Int} : ∀ {n : Nat}, (0 < n -> f (n - 1) ≠ 0) -> tl f n = n
 | 0, _ => rfl
 | n + 1, h => by
  unfold tl
  rw [if_neg (show ¬ f n = 0 from h (by omega))]
end
end Go.Proofs.YteblgmjpociffaaGreat.Sym
