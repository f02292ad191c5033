/- The reference's Scale, To, Primitive (whole coefficients). -/
import Derived.Test.YtigkehblnlghkaaGreatDivC
import Derived.Test.YtigkehblnlghkaaGreatPolX
import Derived.Test.YtigkehblnlghkaaGreatSymQ
namespace Go.Proofs.YtigkehblnlghkaaGreat.Sym
open Go.RowKit
theorem DecI.reX {w : World} {v : Value} {z : Int} {k l : Nat} (h : DecI w v z k) (hb : Bd z.natAbs l) : DecI w v z l := by
  obtain ⟨p, c, h1, h2⟩ := h
  exact ⟨p, c, h1, h2.1, hb⟩
theorem DecQ.reX {w : World} {v : Value} {q : Rat} {k l : Nat} (h : DecQ w v q k) (h1 : Bd q.num.natAbs l) (h2 : Bd q.den l) : DecQ w v q l := by
  obtain ⟨p, n, c, b, p', n', c', b', h3, h4, h5⟩ := h
  exact ⟨p, n, c, b, p', n', c', b', h3, DecI.reX h4 h1, DecI.reX h5 (by rw [Int.natAbs_natCast]; exact h2)⟩
theorem bd1X : Bd (Int.natAbs 1) 2 := by show Int.natAbs 1 < 4294967296 ^ 2; decide
theorem DecI.zeroX (w : World) (k : Nat) : DecI w (.agg #[.slice none 0 0, .bool false]) 0 k := by
  refine ⟨none, 0, by simp [dig, digF], ?_, by show (0 : Int).natAbs < _; exact Nat.pow_pos (by omega)⟩
  simpa [dig, digF] using Sl.nil w .i64
theorem DecI.negX {z : Int} {k : Nat} {b : Bool} (hs : decide (z < 0) = b) {w : World} {l : List Value} (h : DecI w (.agg l.toArray) z k) : Value.agg ((l.drop 1).take 1).toArray = .agg #[.bool b] := by
  obtain ⟨p, c, e, -⟩ := h
  simp only [Value.agg.injEq] at e
  have : l = [.slice p (dig 10000 z.natAbs).length c, .bool (decide (z < 0))] := by simpa using e
  rw [this, hs]; rfl
section
variable {Φ : Nat → World → Value → Prop} {p x : Nat}
theorem qLoadB {P : Program} {T : TypeId} {b : Bool} (hT : aggOf P T = some false) (hp : ∀ w v, Φ p w v → Ptr 1 (fun _ v => v = .agg #[.bool b]) w v) : SiteOk Φ P ⟨0, [.fact p], [⟨.one (.lit (.cb b)), []⟩], .quiet (mLoad T)⟩ := fun X w ac o xs _ hm ha => by
  unfold mLoad at hm
  split at hm
  case h_2 => cases hm
  rename_i t y ho
  split at hm
  case isFalse => cases hm
  rename_i ht
  subst ht
  simp only [Option.some.injEq] at hm
  subst hm
  obtain ⟨b', off, hv, l, h1, h2, h3⟩ := hp _ _ (ha.1 w (Off.refl _ _))
  obtain rfl : l = [.bool b] := by simpa using h3
  have hc := h2 0 _ rfl
  refine ⟨.bool b, w, ?_, grown_refl w none, ⟨⟨⟨rfl, fun _ h => by cases h⟩, fun r hr => by cases hr⟩, trivial⟩⟩
  rw [Nat.add_zero] at hc
  unfold execOp
  simp [ho, hv, Instr.loadAt, Instr.sureAddr, loadVar, run_isAgg hT, hc]
end
def b_xscale (q : Nat → Rat) (c : Rat) (n k l K : Nat) : List (World → Value → Prop) := [fun w v => Rw 4 (fun ι w v => DecQ w v (q ι) k) n w v, fun w v => DecQ w v c l, fun _ v => v = .int .i64 ((n : Nat) : Int), fun w v => ArrO 4 53 (fun ι w v => DecQ w v ((q ι * c)) K) n w v, fun w v => Rw 4 (fun ι w v => DecQ w v ((q ι * c)) K) (tl (fun ι => ((q ι * c)).num) n) w v]
def l_xscale_1 (q : Nat → Rat) (c : Rat) (k l K : Nat) (j : Nat) : List (World → Value → Prop) := [fun _ v => v = .int .i64 ((j : Nat) : Int), fun w v => ArrO 4 53 (fun ι w v => DecQ w v ((q ι * c)) K) j w v, fun _ _ => True, fun w v => Ptr 4 (fun w v => DecQ w v (q j) k) w v, fun w v => DecQ w v (q j) k, fun w v => DecQ w v ((q j) * c) (2 * (k + l) + 2), fun w v => DecI w v (((q j) * c).num) (2 * (k + l) + 2), fun w v => DecI w v (((q j) * c).den : Int) (2 * (k + l) + 2), fun w v => ArrO 4 53 (fun ι w v => DecQ w v ((q ι * c)) K) (j + 1) w v, fun _ v => v = .int .i64 (((j + 1) : Nat) : Int)]
def d_xscale_1 : LoopD := ⟨[0, 1, 3, 4, 7, 8], [(.slot 9, .i), (.slot 5, .s)], [(.one 0, 5), (.one 1, .at [1] 6), (.one 1, .lo 1)], [.closed (.one (.ci .i64 0)), .closed (.one (.nl)), .from 0], 5, [(6, 3)]⟩
def r_xscale_1_0 : List Step := [.base ⟨0, [.fact 5, .fact 2], [⟨.one (.lit (.cb true)), []⟩], .quiet (mBin .lss)⟩,
      .base ⟨0, [.fact 0, .fact 5], [⟨.one (.p), [(0, 0, 8)]⟩], .quiet (mIdx 30)⟩,
      .base ⟨0, [.fact 8], [⟨.agg [.s, .b, .s, .b], [(0, 0, 9)]⟩], .quiet (mLoad 53)⟩,
      .base ⟨73, [.fact 9, .fact 1], [⟨.agg [.s, .b, .s, .b], [(0, 0, 10), (0, 2, 11), (2, 2, 12)]⟩], false⟩,
      .base ⟨0, [.fact 6, .row 4 [10]], [⟨.one (.s), [(0, 0, 13)]⟩], .loose [] 1 0 (mApp 30 30)⟩,
      .base ⟨0, [.fact 5, .lit (.ci .i64 1)], [⟨.one (.i), [(0, 0, 14)]⟩], .quiet (mBin .add)⟩]
def o_xscale_1 : List Step := [.base ⟨0, [.fact 5, .fact 2], [⟨.one (.lit (.cb false)), []⟩], .quiet (mBin .lss)⟩]
def ss_xscale : List Step := [.base ⟨0, [.fact 0], [⟨.one (.i), [(0, 0, 2)]⟩], .quiet (mLen 30)⟩,
      .loop d_xscale_1 [(r_xscale_1_0, [.from 14, .from 13, .from 0])] o_xscale_1,
      .base ⟨74, [.fact 3], [⟨.one (.s), [(0, 0, 4)]⟩], .callJ [1] false⟩]
def ins_xscale : List Out := [⟨.one (.s), [(0, 0, 0)]⟩, ⟨.agg [.s, .b, .s, .b], [(0, 0, 1)]⟩]
set_option maxRecDepth 100000 in
theorem xscale {q : Nat → Rat} {c : Rat} {n k l K : Nat} (hn : n ≤ 1000000) (hk : k ≤ 8000) (hl : l ≤ 8000) (hK : K ≤ 400000) (hB : ∀ i, i < n → Bd (q i * c).num.natAbs K ∧ Bd (q i * c).den K) : SiteOk (ph (b_xscale q c n k l K)) Tryz.prog ⟨25, [.fact 0, .fact 1], [⟨.one (.s), [(0, 0, 4)]⟩], false⟩ := by
  skip
  exact fn_okL ins_xscale [⟨.one (.s), [(0, 0, 4)]⟩] ss_xscale Tryz.func25 (by kernel_rfl)
    (lbase (qLen (sz := 4) (n := n) (F := (fun ι w v => DecQ w v (q ι) k)) Tryz.underlying30 (fun _ _ h => Rw.arr h) rfl)
      (lloop (counted n (fun j => ph (b_xscale q c n k l K ++ l_xscale_1 q c k l K j)) (fun _ => 0) (fun j p hp => ph_app' (show p < (b_xscale q c n k l K).length from hp)) ⟨fun _ => rfl, fun w => ArrO.nil 4 53 (fun ι w v => DecQ w v ((q ι * c)) K) w, fun _ _ _ => trivial, trivial⟩ (fun j hj => by
      skip
      exact ⟨(r_xscale_1_0, [.from 14, .from 13, .from 0]), rfl, ⟨fun _ _ h => h, fun _ _ h => h, fun _ _ _ => trivial, trivial⟩, (lbase (qTest (op := .lss) (fun _ _ h => h) (fun _ _ h => h) (ts_run (decide_eq_true (by omega)) (by simp)))
      (lbase (qIdx (i := j) (sz := 4) (n := n) (F := (fun ι w v => DecQ w v (q ι) k)) Tryz.underlying30 (by kernel_rfl) (fun _ _ h => Rw.arr h) (fun _ _ h => h) (by omega) rfl)
      (lbase (qLoad (sz := 4) (F := fun w v => DecQ w v (q j) k) (by kernel_rfl) (by kernel_rfl) (fun _ _ h => h) (fun _ _ _ g h => DecQ.kp h g) (fun _ _ h => DecQ.is h) rfl)
      (lbase (tMulR tS tS rfl rfl rfl (by omega) rfl)
      (lbase (qAppS (n := j) (F := (fun ι w v => DecQ w v ((q ι * c)) K)) (fun _ _ _ _ g h => DecQ.kp h g) (fun _ _ h => h) (fun _ _ h => DecQ.reX h (hB j (by omega)).1 (hB j (by omega)).2) (fun _ _ h => DecQ.cellsA h) (by omega) rfl)
      (lbase (qAddK (fun _ _ h => h) (by omega) rfl (by omega) (by omega))
      lnil))))))⟩)
      (lbase (qTest (op := .lss) (fun _ _ h => h) (fun _ _ h => h) (ts_run (decide_eq_false (by omega)) (by simp)))
      lnil)
      (fun q hq w v h => by
        simp only [d_xscale_1, List.mem_cons, List.not_mem_nil, or_false] at hq
        rcases hq with rfl
        · exact (fun h => h) h)) (lbase (onJ [1] (sCut (q := (fun ι => (q ι * c))) (n := n) (k := K) (fun _ _ h => ArrO.rw h) rfl (by omega) (by omega)))
      lnil)))
    (ins_ok [.fact 0 (.one (.s)), .fact 1 (.agg [.s, .b, .s, .b])] ⟨fun _ _ h => Rw.is (sz := 4) (F := (fun ι w v => DecQ w v (q ι) k)) (n := n) h, fun _ _ h => DecQ.is h, trivial⟩) (fun _ _ _ h => h)

def b_xto (z : Nat → Int) (n k : Nat) : List (World → Value → Prop) := [fun w v => Rw 4 (fun ι w v => DecQ w v (((z ι : Int) : Rat)) k) n w v, fun _ v => v = .int .i64 ((n : Nat) : Int), fun w v => ArrO 2 26 (fun ι w v => NorV w v (z ι) k) n w v]
def l_xto_1 (z : Nat → Int) (k : Nat) (j : Nat) : List (World → Value → Prop) := [fun _ v => v = .int .i64 ((j : Nat) : Int), fun w v => ArrO 2 26 (fun ι w v => NorV w v (z ι) k) j w v, fun _ _ => True, fun w v => Ptr 4 (fun w v => DecQ w v (((z j : Int) : Rat)) k) w v, fun w v => Ptr 2 (fun w v => DecI w v ((((z j : Int) : Rat)).num) k) w v, fun w v => DecI w v ((((z j : Int) : Rat)).num) k, fun w v => NorV w v ((((z j : Int) : Rat)).num) k, fun w v => ArrO 2 26 (fun ι w v => NorV w v (z ι) k) (j + 1) w v, fun _ v => v = .int .i64 (((j + 1) : Nat) : Int)]
def d_xto_1 : LoopD := ⟨[0, 2, 5, 6], [(.slot 7, .i), (.slot 3, .s)], [(.one 0, 3), (.one 1, .at [1] 4), (.one 1, .lo 1)], [.closed (.one (.ci .i64 0)), .closed (.one (.nl)), .from 0], 3, [(4, 2)]⟩
def r_xto_1_0 : List Step := [.base ⟨0, [.fact 3, .fact 1], [⟨.one (.lit (.cb true)), []⟩], .quiet (mBin .lss)⟩,
      .base ⟨0, [.fact 0, .fact 3], [⟨.one (.p), [(0, 0, 6)]⟩], .quiet (mIdx 30)⟩,
      .base ⟨0, [.fact 6], [⟨.one (.p), [(0, 0, 7)]⟩], .quiet (mFld 53 0)⟩,
      .base ⟨0, [.fact 7], [⟨.agg [.s, .b], [(0, 0, 8)]⟩], .quiet (mLoad 51)⟩,
      .base ⟨81, [.fact 8], [⟨.agg [.b, .s], [(0, 0, 9)]⟩], false⟩,
      .base ⟨0, [.fact 4, .row 2 [9]], [⟨.one (.s), [(0, 0, 10)]⟩], .loose [] 1 0 (mApp 23 23)⟩,
      .base ⟨0, [.fact 3, .lit (.ci .i64 1)], [⟨.one (.i), [(0, 0, 11)]⟩], .quiet (mBin .add)⟩]
def o_xto_1 : List Step := [.base ⟨0, [.fact 3, .fact 1], [⟨.one (.lit (.cb false)), []⟩], .quiet (mBin .lss)⟩]
def ss_xto : List Step := [.base ⟨0, [.fact 0], [⟨.one (.i), [(0, 0, 1)]⟩], .quiet (mLen 30)⟩,
      .loop d_xto_1 [(r_xto_1_0, [.from 11, .from 10, .from 0])] o_xto_1]
def ins_xto : List Out := [⟨.one (.s), [(0, 0, 0)]⟩]
set_option maxRecDepth 100000 in
theorem xto {z : Nat → Int} {n k : Nat} (hn : n ≤ 1000000) (hk : k ≤ 400000) : SiteOk (ph (b_xto z n k)) Tryz.prog ⟨29, [.fact 0], [⟨.one (.s), [(0, 0, 2)]⟩], false⟩ := by
  skip
  exact fn_okL ins_xto [⟨.one (.s), [(0, 0, 2)]⟩] ss_xto Tryz.func29 (by kernel_rfl)
    (lbase (qLen (sz := 4) (n := n) (F := (fun ι w v => DecQ w v (((z ι : Int) : Rat)) k)) Tryz.underlying30 (fun _ _ h => Rw.arr h) rfl)
      (lloop (counted n (fun j => ph (b_xto z n k ++ l_xto_1 z k j)) (fun _ => 0) (fun j p hp => ph_app' (show p < (b_xto z n k).length from hp)) ⟨fun _ => rfl, fun w => ArrO.nil 2 26 (fun ι w v => NorV w v (z ι) k) w, fun _ _ _ => trivial, trivial⟩ (fun j hj => by
      skip
      exact ⟨(r_xto_1_0, [.from 11, .from 10, .from 0]), rfl, ⟨fun _ _ h => h, fun _ _ h => h, fun _ _ _ => trivial, trivial⟩, (lbase (qTest (op := .lss) (fun _ _ h => h) (fun _ _ h => h) (ts_run (decide_eq_true (by omega)) (by simp)))
      (lbase (qIdx (i := j) (sz := 4) (n := n) (F := (fun ι w v => DecQ w v (((z ι : Int) : Rat)) k)) Tryz.underlying30 (by kernel_rfl) (fun _ _ h => Rw.arr h) (fun _ _ h => h) (by omega) rfl)
      (lbase (qFld (off := 0) (len := 2) (sz := 4) (F := fun w v => DecQ w v (((z j : Int) : Rat)) k) (G := fun w v => DecI w v ((((z j : Int) : Rat)).num) k) (by kernel_rfl) (fun _ _ h => h) (by omega) (fun _ _ h => DecQ.fst' h) rfl)
      (lbase (qLoad (sz := 2) (F := fun w v => DecI w v ((((z j : Int) : Rat)).num) k) (by kernel_rfl) (by kernel_rfl) (fun _ _ h => h) (fun _ _ _ g h => DecI.kp h g) (fun _ _ h => DecI.is h) rfl)
      (lbase (tTo dD rfl (by omega) rfl)
      (lbase (qAppI (n := j) (F := (fun ι w v => NorV w v (z ι) k)) (fun _ _ _ _ g h => NorV.kp h g) (fun _ _ h => h) (fun _ _ h => h) (fun _ _ h => NorV.cellsA h) (by omega) rfl)
      (lbase (qAddK (fun _ _ h => h) (by omega) rfl (by omega) (by omega))
      lnil)))))))⟩)
      (lbase (qTest (op := .lss) (fun _ _ h => h) (fun _ _ h => h) (ts_run (decide_eq_false (by omega)) (by simp)))
      lnil)
      (fun q hq w v h => by
        simp only [d_xto_1, List.mem_cons, List.not_mem_nil, or_false] at hq
        rcases hq with rfl
        · exact (fun h => h) h)) lnil))
    (ins_ok [.fact 0 (.one (.s))] ⟨fun _ _ h => Rw.is (sz := 4) (F := (fun ι w v => DecQ w v (((z ι : Int) : Rat)) k)) (n := n) h, trivial⟩) (fun _ _ _ h => h)

section
variable {Φ : Nat → World → Value → Prop} {p y x n k l K N : Nat} {q : Nat → Rat} {c : Rat} {z : Nat → Int}
theorem sRScaleX (hp : ∀ w v, Φ p w v → Rw 4 (fun i w v => DecQ w v (q i) k) n w v) (hy : ∀ w v, Φ y w v → DecQ w v c l) (hx : Φ x = fun w v => Rw 4 (fun i w v => DecQ w v (q i * c) K) N w v) (hn : n ≤ 1000000) (hk : k ≤ 8000) (hl : l ≤ 8000) (hK : K ≤ 400000) (hB : ∀ i, i < n → Bd (q i * c).num.natAbs K ∧ Bd (q i * c).den K) (hN : tl (fun i => (q i * c).num) n = N) : SiteOk Φ Tryz.prog ⟨25, [.fact p, .fact y], [⟨.one .s, [(0, 0, x)]⟩], false⟩ :=
  viaG (xscale (q := q) (c := c) hn hk hl hK hB) ⟨hp, hy, trivial⟩ ⟨⟨rfl, ⟨rfl, rfl, fun _ _ h => hx ▸ hN ▸ h⟩, trivial⟩, trivial⟩
theorem sRTo (hp : ∀ w v, Φ p w v → Rw 4 (fun i w v => DecQ w v ((z i : Int) : Rat) k) n w v) (hx : Φ x = fun w v => Rw 2 (fun i w v => NorV w v (z i) k) n w v) (hn : n ≤ 1000000) (hk : k ≤ 400000) : SiteOk Φ Tryz.prog ⟨29, [.fact p], [⟨.one .s, [(0, 0, x)]⟩], false⟩ :=
  viaG (xto (z := z) hn hk) ⟨hp, trivial⟩ ⟨⟨rfl, ⟨rfl, rfl, fun _ _ h => hx ▸ ArrO.rw (e := 26) h⟩, trivial⟩, trivial⟩
end
def b_xzero  : List (World → Value → Prop) := [fun w v => DecQ w v (qOf 0 1) 6, fun w v => DecI w v ((qOf 0 1).num) 6, fun w v => DecI w v ((qOf 0 1).den : Int) 6]
def ss_xzero : List Step := [.base ⟨88, [.lit (.ci .i64 0), .lit (.ci .i64 1)], [⟨.agg [.s, .b, .s, .b], [(0, 0, 0), (0, 2, 1), (2, 2, 2)]⟩], false⟩]
def ins_xzero : List Out := []
set_option maxRecDepth 100000 in
theorem xzero   : SiteOk (ph (b_xzero )) Tryz.prog ⟨84, [], [⟨.agg [.s, .b, .s, .b], [(0, 0, 0), (0, 2, 1), (2, 2, 2)]⟩], false⟩ := by
  skip
  exact fn_okL ins_xzero [⟨.agg [.s, .b, .s, .b], [(0, 0, 0), (0, 2, 1), (2, 2, 2)]⟩] ss_xzero Tryz.func84 (by kernel_rfl)
    (lbase (tOfR (z := 0) (y := 1) rfl rfl rfl (by decide) (by decide) (by decide) (by decide) rfl)
      lnil)
    (ins_ok [] trivial) (fun _ _ _ h => h)

theorem tZeroX {Φ : Nat → World → Value → Prop} {x x1 x2 : Nat} (hx : Φ x = fun w v => DecQ w v (qOf 0 1) 6) (hx1 : Φ x1 = fun w v => DecI w v (qOf 0 1).num 6) (hx2 : Φ x2 = fun w v => DecI w v ((qOf 0 1).den : Int) 6) : SiteOk Φ Tryz.prog ⟨84, [], [⟨sS, [(0, 0, x), (0, 2, x1), (2, 2, x2)]⟩], false⟩ :=
  viaG xzero trivial ⟨⟨rfl, ⟨rfl, rfl, fun _ _ h => hx ▸ h⟩, ⟨rfl, rfl, fun _ _ h => hx1 ▸ h⟩, ⟨rfl, rfl, fun _ _ h => hx2 ▸ h⟩, trivial⟩, trivial⟩
def b_xprim_0 (z : Nat → Int) (n k : Nat) : List (World → Value → Prop) := [fun w v => Rw 4 (fun ι w v => DecQ w v (((z ι : Int) : Rat)) k) n w v, fun _ v => v = .int .i64 ((n : Nat) : Int), fun w v => DecQ w v (qOf 0 1) 6, fun w v => DecI w v ((qOf 0 1).num) 6, fun w v => DecI w v ((qOf 0 1).den : Int) 6]
def ss_xprim_0 : List Step := [.base ⟨0, [.fact 0], [⟨.one (.i), [(0, 0, 1)]⟩], .quiet (mLen 30)⟩,
      .base ⟨0, [.fact 1, .lit (.ci .i64 0)], [⟨.one (.lit (.cb true)), []⟩], .quiet (mBin .eql)⟩,
      .base ⟨84, [], [⟨.agg [.s, .b, .s, .b], [(0, 0, 2), (0, 2, 3), (2, 2, 4)]⟩], false⟩]
def ins_xprim_0 : List Out := [⟨.one (.s), [(0, 0, 0)]⟩]
set_option maxRecDepth 100000 in
theorem xprim_0 {z : Nat → Int} {n k : Nat} (hn0 : n = 0) : SiteOk (ph (b_xprim_0 z n k)) Tryz.prog ⟨32, [.fact 0], [⟨.agg [.s, .b, .s, .b], [(0, 0, 2), (0, 2, 3), (2, 2, 4)]⟩, ⟨.one (.lit (.nl)), []⟩], true⟩ := by
  skip
  exact fn_okL ins_xprim_0 [⟨.agg [.s, .b, .s, .b], [(0, 0, 2), (0, 2, 3), (2, 2, 4)]⟩, ⟨.one (.lit (.nl)), []⟩] ss_xprim_0 Tryz.func32 (by kernel_rfl)
    (lbase (qLen (sz := 4) (n := n) (F := (fun ι w v => DecQ w v (((z ι : Int) : Rat)) k)) Tryz.underlying30 (fun _ _ h => Rw.arr h) rfl)
      (lbase (qTestC (op := .eql) (fun _ _ h => h) (ts_run (decide_eq_true (by omega)) (by simp)))
      (lbase (tZeroX rfl rfl rfl)
      lnil)))
    (ins_ok [.fact 0 (.one (.s))] ⟨fun _ _ h => Rw.is (sz := 4) (F := (fun ι w v => DecQ w v (((z ι : Int) : Rat)) k)) (n := n) h, trivial⟩) (fun _ _ _ h => h)

def b_xprim_p (z : Nat → Int) (n k K N : Nat) (t u : Rat) : List (World → Value → Prop) := [fun w v => Rw 4 (fun ι w v => DecQ w v (((z ι : Int) : Rat)) k) n w v, fun _ v => v = .int .i64 ((n : Nat) : Int), fun w v => DecI w v (1 : Int) 2, fun _ v => v = .int .i64 ((n : Nat) : Int), fun w v => DecI w v (1 : Int) 2, fun _ v => v = .int .i64 ((n : Nat) : Int), fun w v => DecI w v (gcdZ z n : Int) k, fun w v => DecQ w v t (k + 2 + 2), fun w v => DecI w v t.num (k + 2 + 2), fun w v => DecI w v (t.den : Int) (k + 2 + 2), fun _ v => v = .int .i64 ((n : Nat) : Int), fun _ v => v = .int .i64 (((n - 1) : Nat) : Int), fun w v => Ptr 4 (fun w v => DecQ w v (((z (n - 1) : Int) : Rat)) k) w v, fun w v => Ptr 2 (fun w v => DecI w v ((((z (n - 1) : Int) : Rat)).num) k) w v, fun w v => Ptr 1 (fun _ v => v = .agg #[.bool false]) w v, fun w v => DecQ w v (qOf 1 1) 6, fun w v => DecI w v ((qOf 1 1).num) 6, fun w v => DecI w v ((qOf 1 1).den : Int) 6, fun w v => DecQ w v u (2 * (6 + (k + 2 + 2)) + 2), fun w v => DecI w v u.num (2 * (6 + (k + 2 + 2)) + 2), fun w v => DecI w v (u.den : Int) (2 * (6 + (k + 2 + 2)) + 2), fun w v => Rw 4 (fun ι w v => DecQ w v ((((z ι : Int) : Rat) * u)) K) N w v]
def l_xprim_p_2 (z : Nat → Int) (k : Nat) (i : Nat) : List (World → Value → Prop) := [fun _ v => v = .int .i64 ((i : Nat) : Int), fun w v => DecI w v (gcdZ z i : Int) k, fun w v => Ptr 4 (fun w v => DecQ w v (((z i : Int) : Rat)) k) w v, fun w v => Ptr 2 (fun w v => DecI w v ((((z i : Int) : Rat)).num) k) w v, fun w v => DecI w v ((((z i : Int) : Rat)).num) k, fun w v => DecI w v (((((z i : Int) : Rat)).num) * (1 : Int)) (k + 2), fun w v => Ptr 4 (fun w v => DecQ w v (((z i : Int) : Rat)) k) w v, fun w v => Ptr 2 (fun w v => DecI w v ((((z i : Int) : Rat)).den : Int) k) w v, fun w v => DecI w v ((((z i : Int) : Rat)).den : Int) k, fun w v => DecI w v (z i) (k + 2), fun w v => DecI w v (Int.gcd (gcdZ z i : Int) (z i) : Int) (k + 2), fun _ v => v = .int .i64 (((i + 1) : Nat) : Int)]
def d_xprim_p_2 : LoopD := ⟨[0, 2, 3, 4, 6, 9, 10, 11, 13, 14, 15, 16, 17, 35, 36], [(.slot 37, .i), (.cell 14 0, .s), (.cell 14 1, .b)], [(.one 0, 22), (.agg [1, 2], 23)], [.closed (.one (.ci .i64 0)), .closed (.agg [.nl, .cb false])], 22, [(23, 6)]⟩
def r_xprim_p_2_0 : List Step := [.base ⟨0, [.fact 22, .fact 5], [⟨.one (.lit (.cb true)), []⟩], .quiet (mBin .lss)⟩,
      .base ⟨0, [.fact 0, .fact 22], [⟨.one (.p), [(0, 0, 24)]⟩], .quiet (mIdx 30)⟩,
      .base ⟨0, [.fact 24], [⟨.one (.p), [(0, 0, 25)]⟩], .quiet (mFld 53 0)⟩,
      .base ⟨0, [.fact 25], [⟨.agg [.s, .b], [(0, 0, 26)]⟩], .quiet (mLoad 51)⟩,
      .base ⟨85, [.fact 26, .fact 4], [⟨.agg [.s, .b], [(0, 0, 27)]⟩], false⟩,
      .base ⟨0, [.fact 0, .fact 22], [⟨.one (.p), [(0, 0, 28)]⟩], .quiet (mIdx 30)⟩,
      .base ⟨0, [.fact 28], [⟨.one (.p), [(0, 0, 29)]⟩], .quiet (mFld 53 1)⟩,
      .base ⟨0, [.fact 29], [⟨.agg [.s, .b], [(0, 0, 30)]⟩], .quiet (mLoad 51)⟩,
      .base ⟨77, [.fact 27, .fact 30], [⟨.agg [.s, .b], [(0, 0, 31)]⟩], false⟩,
      .base ⟨30, [.fact 23, .fact 31], [⟨.agg [.s, .b], [(0, 0, 32)]⟩], false⟩,
      .base ⟨0, [.fact 22, .lit (.ci .i64 1)], [⟨.one (.i), [(0, 0, 33)]⟩], .quiet (mBin .add)⟩]
def o_xprim_p_2 : List Step := [.base ⟨0, [.fact 22, .fact 5], [⟨.one (.lit (.cb false)), []⟩], .quiet (mBin .lss)⟩]
def l_xprim_p_1 (z : Nat → Int) (k : Nat) (j : Nat) : List (World → Value → Prop) := [fun _ v => v = .int .i64 ((j : Nat) : Int), fun w v => DecI w v (1 : Int) 2, fun w v => Ptr 4 (fun w v => DecQ w v (((z j : Int) : Rat)) k) w v, fun w v => Ptr 2 (fun w v => DecI w v ((((z j : Int) : Rat)).den : Int) k) w v, fun w v => DecI w v ((((z j : Int) : Rat)).den : Int) k, fun w v => DecI w v ((1 : Int) * ((((z j : Int) : Rat)).den : Int)) (2 + k), fun w v => Ptr 4 (fun w v => DecQ w v (((z j : Int) : Rat)) k) w v, fun w v => Ptr 2 (fun w v => DecI w v ((((z j : Int) : Rat)).den : Int) k) w v, fun w v => DecI w v ((((z j : Int) : Rat)).den : Int) k, fun w v => DecI w v (Int.gcd (1 : Int) ((((z j : Int) : Rat)).den : Int) : Int) (k + 2), fun w v => DecI w v (1 : Int) (2 + k), fun _ v => v = .int .i64 (((j + 1) : Nat) : Int)]
def d_xprim_p_1 : LoopD := ⟨[0, 2, 3, 4, 9, 10, 11, 13, 14, 15], [(.slot 16, .i), (.cell 7 0, .s), (.cell 7 1, .b)], [(.one 0, 22), (.agg [1, 2], 23)], [.closed (.one (.ci .i64 0)), .from 2], 22, [(23, 4)]⟩
def r_xprim_p_1_0 : List Step := [.base ⟨0, [.fact 22, .fact 3], [⟨.one (.lit (.cb true)), []⟩], .quiet (mBin .lss)⟩,
      .base ⟨0, [.fact 0, .fact 22], [⟨.one (.p), [(0, 0, 24)]⟩], .quiet (mIdx 30)⟩,
      .base ⟨0, [.fact 24], [⟨.one (.p), [(0, 0, 25)]⟩], .quiet (mFld 53 1)⟩,
      .base ⟨0, [.fact 25], [⟨.agg [.s, .b], [(0, 0, 26)]⟩], .quiet (mLoad 51)⟩,
      .base ⟨85, [.fact 23, .fact 26], [⟨.agg [.s, .b], [(0, 0, 27)]⟩], false⟩,
      .base ⟨0, [.fact 0, .fact 22], [⟨.one (.p), [(0, 0, 28)]⟩], .quiet (mIdx 30)⟩,
      .base ⟨0, [.fact 28], [⟨.one (.p), [(0, 0, 29)]⟩], .quiet (mFld 53 1)⟩,
      .base ⟨0, [.fact 29], [⟨.agg [.s, .b], [(0, 0, 30)]⟩], .quiet (mLoad 51)⟩,
      .base ⟨30, [.fact 23, .fact 30], [⟨.agg [.s, .b], [(0, 0, 31)]⟩], false⟩,
      .base ⟨77, [.fact 27, .fact 31], [⟨.agg [.s, .b], [(0, 0, 32)]⟩], false⟩,
      .base ⟨0, [.fact 22, .lit (.ci .i64 1)], [⟨.one (.i), [(0, 0, 33)]⟩], .quiet (mBin .add)⟩]
def o_xprim_p_1 : List Step := [.base ⟨0, [.fact 22, .fact 3], [⟨.one (.lit (.cb false)), []⟩], .quiet (mBin .lss)⟩]
def ss_xprim_p : List Step := [.base ⟨0, [.fact 0], [⟨.one (.i), [(0, 0, 1)]⟩], .quiet (mLen 30)⟩,
      .base ⟨0, [.fact 1, .lit (.ci .i64 0)], [⟨.one (.lit (.cb false)), []⟩], .quiet (mBin .eql)⟩,
      .base ⟨28, [.lit (.ci .i64 1)], [⟨.agg [.s, .b], [(0, 0, 2)]⟩], false⟩,
      .base ⟨0, [.fact 0], [⟨.one (.i), [(0, 0, 3)]⟩], .quiet (mLen 30)⟩,
      .loop d_xprim_p_1 [(r_xprim_p_1_0, [.from 33, .from 32])] o_xprim_p_1,
      .base ⟨0, [.fact 0], [⟨.one (.i), [(0, 0, 5)]⟩], .quiet (mLen 30)⟩,
      .loop d_xprim_p_2 [(r_xprim_p_2_0, [.from 33, .from 32])] o_xprim_p_2,
      .base ⟨26, [.fact 6, .fact 4], [⟨.agg [.s, .b, .s, .b], [(0, 0, 7), (0, 2, 8), (2, 2, 9)]⟩], false⟩,
      .base ⟨0, [.fact 0], [⟨.one (.i), [(0, 0, 10)]⟩], .quiet (mLen 30)⟩,
      .base ⟨0, [.fact 10, .lit (.ci .i64 1)], [⟨.one (.i), [(0, 0, 11)]⟩], .quiet (mBin .sub)⟩,
      .base ⟨0, [.fact 0, .fact 11], [⟨.one (.p), [(0, 0, 12)]⟩], .quiet (mIdx 30)⟩,
      .base ⟨0, [.fact 12], [⟨.one (.p), [(0, 0, 13)]⟩], .quiet (mFld 53 0)⟩,
      .base ⟨0, [.fact 13], [⟨.one (.p), [(0, 0, 14)]⟩], .quiet (mFld 51 1)⟩,
      .base ⟨0, [.fact 14], [⟨.one (.lit (.cb false)), []⟩], .quiet (mLoad 4)⟩,
      .base ⟨88, [.lit (.ci .i64 1), .lit (.ci .i64 1)], [⟨.agg [.s, .b, .s, .b], [(0, 0, 15), (0, 2, 16), (2, 2, 17)]⟩], false⟩,
      .base ⟨87, [.fact 15, .fact 7], [⟨.agg [.s, .b, .s, .b], [(0, 0, 18), (0, 2, 19), (2, 2, 20)]⟩], false⟩,
      .base ⟨25, [.fact 0, .fact 18], [⟨.one (.s), [(0, 0, 21)]⟩], false⟩]
def ins_xprim_p : List Out := [⟨.one (.s), [(0, 0, 0)]⟩]
set_option maxRecDepth 100000 in
theorem xprim_p {z : Nat → Int} {n k K N : Nat} {t u : Rat} (hn0 : 0 < n) (hn : n ≤ 1000000) (hk : k ≤ 1000) (hK : K ≤ 400000) (hs : decide (z (n - 1) < 0) = false) (hg : ∀ i, i ≤ n → Bd (gcdZ z i) k) (ht : (qOf (gcdZ z n : Int) 1) = t) (ht0 : t ≠ 0) (hu : qOf 1 1 / t = u) (hB : ∀ i, i < n → Bd (((z i : Int) : Rat) * u).num.natAbs K ∧ Bd (((z i : Int) : Rat) * u).den K) (hN : tl (fun i => (((z i : Int) : Rat) * u).num) n = N) : SiteOk (ph (b_xprim_p z n k K N t u)) Tryz.prog ⟨32, [.fact 0], [⟨.agg [.s, .b, .s, .b], [(0, 0, 7), (0, 2, 8), (2, 2, 9)]⟩, ⟨.one (.s), [(0, 0, 21)]⟩], true⟩ := by
  skip
  exact fn_okL ins_xprim_p [⟨.agg [.s, .b, .s, .b], [(0, 0, 7), (0, 2, 8), (2, 2, 9)]⟩, ⟨.one (.s), [(0, 0, 21)]⟩] ss_xprim_p Tryz.func32 (by kernel_rfl)
    (lbase (qLen (sz := 4) (n := n) (F := (fun ι w v => DecQ w v (((z ι : Int) : Rat)) k)) Tryz.underlying30 (fun _ _ h => Rw.arr h) rfl)
      (lbase (qTestC (op := .eql) (fun _ _ h => h) (ts_run (decide_eq_false (by omega)) (by simp)))
      (lbase (tOf (z := 1) rfl (by decide) (by decide) rfl)
      (lbase (qLen (sz := 4) (n := n) (F := (fun ι w v => DecQ w v (((z ι : Int) : Rat)) k)) Tryz.underlying30 (fun _ _ h => Rw.arr h) rfl)
      (lloop (counted n (fun j => ph (b_xprim_p z n k K N t u ++ l_xprim_p_1 z k j)) (fun _ => 0) (fun j p hp => ph_app' (show p < (b_xprim_p z n k K N t u).length from hp)) ⟨fun _ => rfl, fun _ _ h => h, trivial⟩ (fun j hj => by
      skip
      exact ⟨(r_xprim_p_1_0, [.from 33, .from 32]), rfl, ⟨fun _ _ h => h, fun _ _ h => DecI.reX h bd1X, trivial⟩, (lbase (qTest (op := .lss) (fun _ _ h => h) (fun _ _ h => h) (ts_run (decide_eq_true (by omega)) (by simp)))
      (lbase (qIdx (i := j) (sz := 4) (n := n) (F := (fun ι w v => DecQ w v (((z ι : Int) : Rat)) k)) Tryz.underlying30 (by kernel_rfl) (fun _ _ h => Rw.arr h) (fun _ _ h => h) (by omega) rfl)
      (lbase (qFld (off := 2) (len := 2) (sz := 4) (F := fun w v => DecQ w v (((z j : Int) : Rat)) k) (G := fun w v => DecI w v ((((z j : Int) : Rat)).den : Int) k) (by kernel_rfl) (fun _ _ h => h) (by omega) (fun _ _ h => DecQ.snd' h) rfl)
      (lbase (qLoad (sz := 2) (F := fun w v => DecI w v ((((z j : Int) : Rat)).den : Int) k) (by kernel_rfl) (by kernel_rfl) (fun _ _ h => h) (fun _ _ _ g h => DecI.kp h g) (fun _ _ h => DecI.is h) rfl)
      (lbase (tMul dD dD rfl (by omega) rfl)
      (lbase (qIdx (i := j) (sz := 4) (n := n) (F := (fun ι w v => DecQ w v (((z ι : Int) : Rat)) k)) Tryz.underlying30 (by kernel_rfl) (fun _ _ h => Rw.arr h) (fun _ _ h => h) (by omega) rfl)
      (lbase (qFld (off := 2) (len := 2) (sz := 4) (F := fun w v => DecQ w v (((z j : Int) : Rat)) k) (G := fun w v => DecI w v ((((z j : Int) : Rat)).den : Int) k) (by kernel_rfl) (fun _ _ h => h) (by omega) (fun _ _ h => DecQ.snd' h) rfl)
      (lbase (qLoad (sz := 2) (F := fun w v => DecI w v ((((z j : Int) : Rat)).den : Int) k) (by kernel_rfl) (by kernel_rfl) (fun _ _ h => h) (fun _ _ _ g h => DecI.kp h g) (fun _ _ h => DecI.is h) rfl)
      (lbase (tGcd (k + 2) dD dD rfl (by omega) (by omega) (by omega) rfl)
      (lbase (tQuo dD dD rfl (by omega) (by show ((Int.gcd 1 1 : Nat) : Int) ≠ 0; decide) (by show ((Int.gcd 1 1 : Nat) : Int) ∣ 1 * 1; decide) (by show (1 * 1 : Int) / ((Int.gcd 1 1 : Nat) : Int) = 1; decide))
      (lbase (qAddK (fun _ _ h => h) (by omega) rfl (by omega) (by omega))
      lnil)))))))))))⟩)
      (lbase (qTest (op := .lss) (fun _ _ h => h) (fun _ _ h => h) (ts_run (decide_eq_false (by omega)) (by simp)))
      lnil)
      (fun q hq w v h => by
        simp only [d_xprim_p_1, List.mem_cons, List.not_mem_nil, or_false] at hq
        rcases hq with rfl
        · exact (fun h => h) h)) (lbase (qLen (sz := 4) (n := n) (F := (fun ι w v => DecQ w v (((z ι : Int) : Rat)) k)) Tryz.underlying30 (fun _ _ h => Rw.arr h) rfl)
      (lloop (counted n (fun i => ph (b_xprim_p z n k K N t u ++ l_xprim_p_2 z k i)) (fun _ => 0) (fun i p hp => ph_app' (show p < (b_xprim_p z n k K N t u).length from hp)) ⟨fun _ => rfl, fun w => DecI.zeroX w k, trivial⟩ (fun i hi => by
      skip
      exact ⟨(r_xprim_p_2_0, [.from 33, .from 32]), rfl, ⟨fun _ _ h => h, fun _ _ h => DecI.reX h (hg (i + 1) (by omega)), trivial⟩, (lbase (qTest (op := .lss) (fun _ _ h => h) (fun _ _ h => h) (ts_run (decide_eq_true (by omega)) (by simp)))
      (lbase (qIdx (i := i) (sz := 4) (n := n) (F := (fun ι w v => DecQ w v (((z ι : Int) : Rat)) k)) Tryz.underlying30 (by kernel_rfl) (fun _ _ h => Rw.arr h) (fun _ _ h => h) (by omega) rfl)
      (lbase (qFld (off := 0) (len := 2) (sz := 4) (F := fun w v => DecQ w v (((z i : Int) : Rat)) k) (G := fun w v => DecI w v ((((z i : Int) : Rat)).num) k) (by kernel_rfl) (fun _ _ h => h) (by omega) (fun _ _ h => DecQ.fst' h) rfl)
      (lbase (qLoad (sz := 2) (F := fun w v => DecI w v ((((z i : Int) : Rat)).num) k) (by kernel_rfl) (by kernel_rfl) (fun _ _ h => h) (fun _ _ _ g h => DecI.kp h g) (fun _ _ h => DecI.is h) rfl)
      (lbase (tMul dD dD rfl (by omega) rfl)
      (lbase (qIdx (i := i) (sz := 4) (n := n) (F := (fun ι w v => DecQ w v (((z ι : Int) : Rat)) k)) Tryz.underlying30 (by kernel_rfl) (fun _ _ h => Rw.arr h) (fun _ _ h => h) (by omega) rfl)
      (lbase (qFld (off := 2) (len := 2) (sz := 4) (F := fun w v => DecQ w v (((z i : Int) : Rat)) k) (G := fun w v => DecI w v ((((z i : Int) : Rat)).den : Int) k) (by kernel_rfl) (fun _ _ h => h) (by omega) (fun _ _ h => DecQ.snd' h) rfl)
      (lbase (qLoad (sz := 2) (F := fun w v => DecI w v ((((z i : Int) : Rat)).den : Int) k) (by kernel_rfl) (by kernel_rfl) (fun _ _ h => h) (fun _ _ _ g h => DecI.kp h g) (fun _ _ h => DecI.is h) rfl)
      (lbase (tQuo dD dD rfl (by omega) (by show ((1 : Nat) : Int) ≠ 0; decide) (by show ((1 : Nat) : Int) ∣ z i * 1; exact Int.one_dvd _) (by show z i * 1 / ((1 : Nat) : Int) = z i; rw [Int.mul_one]; exact Int.ediv_one _))
      (lbase (tGcd (k + 2) dD dD rfl (by omega) (by omega) (by omega) rfl)
      (lbase (qAddK (fun _ _ h => h) (by omega) rfl (by omega) (by omega))
      lnil)))))))))))⟩)
      (lbase (qTest (op := .lss) (fun _ _ h => h) (fun _ _ h => h) (ts_run (decide_eq_false (by omega)) (by simp)))
      lnil)
      (fun q hq w v h => by
        simp only [d_xprim_p_2, List.mem_cons, List.not_mem_nil, or_false] at hq
        rcases hq with rfl
        · exact (fun h => h) h)) (lbase (tMake dD dD rfl rfl rfl (by omega) (ht))
      (lbase (qLen (sz := 4) (n := n) (F := (fun ι w v => DecQ w v (((z ι : Int) : Rat)) k)) Tryz.underlying30 (fun _ _ h => Rw.arr h) rfl)
      (lbase (qSubK (fun _ _ h => h) (by omega) rfl (by omega) (by omega))
      (lbase (qIdx (i := (n - 1)) (sz := 4) (n := n) (F := (fun ι w v => DecQ w v (((z ι : Int) : Rat)) k)) Tryz.underlying30 (by kernel_rfl) (fun _ _ h => Rw.arr h) (fun _ _ h => h) (by omega) rfl)
      (lbase (qFld (off := 0) (len := 2) (sz := 4) (F := fun w v => DecQ w v (((z (n - 1) : Int) : Rat)) k) (G := fun w v => DecI w v ((((z (n - 1) : Int) : Rat)).num) k) (by kernel_rfl) (fun _ _ h => h) (by omega) (fun _ _ h => DecQ.fst' h) rfl)
      (lbase (qFld (off := 1) (len := 1) (sz := 2) (F := fun w v => DecI w v ((((z (n - 1) : Int) : Rat)).num) k) (G := fun _ v => v = .agg #[.bool false]) (by kernel_rfl) (fun _ _ h => h) (by omega) (fun _ _ h => DecI.negX hs h) rfl)
      (lbase (qLoadB (by kernel_rfl) (fun _ _ h => h))
      (lbase (tOfR (z := 1) (y := 1) rfl rfl rfl (by decide) (by decide) (by decide) (by decide) rfl)
      (lbase (tQuoR tS tS rfl rfl rfl (by omega) (ht0) (hu))
      (lbase (sRScaleX (q := (fun i => ((z i : Int) : Rat))) (c := u) (n := n) (K := K) (fun _ _ h => h) tS rfl (by omega) (by omega) (by omega) (by omega) hB hN)
      lnil)))))))))))))))))
    (ins_ok [.fact 0 (.one (.s))] ⟨fun _ _ h => Rw.is (sz := 4) (F := (fun ι w v => DecQ w v (((z ι : Int) : Rat)) k)) (n := n) h, trivial⟩) (fun _ _ _ h => h)

def b_xprim_n (z : Nat → Int) (n k K N : Nat) (t u : Rat) : List (World → Value → Prop) := [fun w v => Rw 4 (fun ι w v => DecQ w v (((z ι : Int) : Rat)) k) n w v, fun _ v => v = .int .i64 ((n : Nat) : Int), fun w v => DecI w v (1 : Int) 2, fun _ v => v = .int .i64 ((n : Nat) : Int), fun w v => DecI w v (1 : Int) 2, fun _ v => v = .int .i64 ((n : Nat) : Int), fun w v => DecI w v (gcdZ z n : Int) k, fun w v => DecQ w v (qOf (gcdZ z n : Int) 1) (k + 2 + 2), fun w v => DecI w v ((qOf (gcdZ z n : Int) 1).num) (k + 2 + 2), fun w v => DecI w v ((qOf (gcdZ z n : Int) 1).den : Int) (k + 2 + 2), fun _ v => v = .int .i64 ((n : Nat) : Int), fun _ v => v = .int .i64 (((n - 1) : Nat) : Int), fun w v => Ptr 4 (fun w v => DecQ w v (((z (n - 1) : Int) : Rat)) k) w v, fun w v => Ptr 2 (fun w v => DecI w v ((((z (n - 1) : Int) : Rat)).num) k) w v, fun w v => Ptr 1 (fun _ v => v = .agg #[.bool true]) w v, fun w v => DecQ w v t (k + 2 + 2), fun w v => DecI w v t.num (k + 2 + 2), fun w v => DecI w v (t.den : Int) (k + 2 + 2), fun w v => DecQ w v (qOf 1 1) 6, fun w v => DecI w v ((qOf 1 1).num) 6, fun w v => DecI w v ((qOf 1 1).den : Int) 6, fun w v => DecQ w v u (2 * (6 + (k + 2 + 2)) + 2), fun w v => DecI w v u.num (2 * (6 + (k + 2 + 2)) + 2), fun w v => DecI w v (u.den : Int) (2 * (6 + (k + 2 + 2)) + 2), fun w v => Rw 4 (fun ι w v => DecQ w v ((((z ι : Int) : Rat) * u)) K) N w v]
def l_xprim_n_2 (z : Nat → Int) (k : Nat) (i : Nat) : List (World → Value → Prop) := [fun _ v => v = .int .i64 ((i : Nat) : Int), fun w v => DecI w v (gcdZ z i : Int) k, fun w v => Ptr 4 (fun w v => DecQ w v (((z i : Int) : Rat)) k) w v, fun w v => Ptr 2 (fun w v => DecI w v ((((z i : Int) : Rat)).num) k) w v, fun w v => DecI w v ((((z i : Int) : Rat)).num) k, fun w v => DecI w v (((((z i : Int) : Rat)).num) * (1 : Int)) (k + 2), fun w v => Ptr 4 (fun w v => DecQ w v (((z i : Int) : Rat)) k) w v, fun w v => Ptr 2 (fun w v => DecI w v ((((z i : Int) : Rat)).den : Int) k) w v, fun w v => DecI w v ((((z i : Int) : Rat)).den : Int) k, fun w v => DecI w v (z i) (k + 2), fun w v => DecI w v (Int.gcd (gcdZ z i : Int) (z i) : Int) (k + 2), fun _ v => v = .int .i64 (((i + 1) : Nat) : Int)]
def d_xprim_n_2 : LoopD := ⟨[0, 2, 3, 4, 6, 9, 10, 11, 13, 14, 15, 16, 17, 35, 36], [(.slot 37, .i), (.cell 14 0, .s), (.cell 14 1, .b)], [(.one 0, 25), (.agg [1, 2], 26)], [.closed (.one (.ci .i64 0)), .closed (.agg [.nl, .cb false])], 25, [(26, 6)]⟩
def r_xprim_n_2_0 : List Step := [.base ⟨0, [.fact 25, .fact 5], [⟨.one (.lit (.cb true)), []⟩], .quiet (mBin .lss)⟩,
      .base ⟨0, [.fact 0, .fact 25], [⟨.one (.p), [(0, 0, 27)]⟩], .quiet (mIdx 30)⟩,
      .base ⟨0, [.fact 27], [⟨.one (.p), [(0, 0, 28)]⟩], .quiet (mFld 53 0)⟩,
      .base ⟨0, [.fact 28], [⟨.agg [.s, .b], [(0, 0, 29)]⟩], .quiet (mLoad 51)⟩,
      .base ⟨85, [.fact 29, .fact 4], [⟨.agg [.s, .b], [(0, 0, 30)]⟩], false⟩,
      .base ⟨0, [.fact 0, .fact 25], [⟨.one (.p), [(0, 0, 31)]⟩], .quiet (mIdx 30)⟩,
      .base ⟨0, [.fact 31], [⟨.one (.p), [(0, 0, 32)]⟩], .quiet (mFld 53 1)⟩,
      .base ⟨0, [.fact 32], [⟨.agg [.s, .b], [(0, 0, 33)]⟩], .quiet (mLoad 51)⟩,
      .base ⟨77, [.fact 30, .fact 33], [⟨.agg [.s, .b], [(0, 0, 34)]⟩], false⟩,
      .base ⟨30, [.fact 26, .fact 34], [⟨.agg [.s, .b], [(0, 0, 35)]⟩], false⟩,
      .base ⟨0, [.fact 25, .lit (.ci .i64 1)], [⟨.one (.i), [(0, 0, 36)]⟩], .quiet (mBin .add)⟩]
def o_xprim_n_2 : List Step := [.base ⟨0, [.fact 25, .fact 5], [⟨.one (.lit (.cb false)), []⟩], .quiet (mBin .lss)⟩]
def l_xprim_n_1 (z : Nat → Int) (k : Nat) (j : Nat) : List (World → Value → Prop) := [fun _ v => v = .int .i64 ((j : Nat) : Int), fun w v => DecI w v (1 : Int) 2, fun w v => Ptr 4 (fun w v => DecQ w v (((z j : Int) : Rat)) k) w v, fun w v => Ptr 2 (fun w v => DecI w v ((((z j : Int) : Rat)).den : Int) k) w v, fun w v => DecI w v ((((z j : Int) : Rat)).den : Int) k, fun w v => DecI w v ((1 : Int) * ((((z j : Int) : Rat)).den : Int)) (2 + k), fun w v => Ptr 4 (fun w v => DecQ w v (((z j : Int) : Rat)) k) w v, fun w v => Ptr 2 (fun w v => DecI w v ((((z j : Int) : Rat)).den : Int) k) w v, fun w v => DecI w v ((((z j : Int) : Rat)).den : Int) k, fun w v => DecI w v (Int.gcd (1 : Int) ((((z j : Int) : Rat)).den : Int) : Int) (k + 2), fun w v => DecI w v (1 : Int) (2 + k), fun _ v => v = .int .i64 (((j + 1) : Nat) : Int)]
def d_xprim_n_1 : LoopD := ⟨[0, 2, 3, 4, 9, 10, 11, 13, 14, 15], [(.slot 16, .i), (.cell 7 0, .s), (.cell 7 1, .b)], [(.one 0, 25), (.agg [1, 2], 26)], [.closed (.one (.ci .i64 0)), .from 2], 25, [(26, 4)]⟩
def r_xprim_n_1_0 : List Step := [.base ⟨0, [.fact 25, .fact 3], [⟨.one (.lit (.cb true)), []⟩], .quiet (mBin .lss)⟩,
      .base ⟨0, [.fact 0, .fact 25], [⟨.one (.p), [(0, 0, 27)]⟩], .quiet (mIdx 30)⟩,
      .base ⟨0, [.fact 27], [⟨.one (.p), [(0, 0, 28)]⟩], .quiet (mFld 53 1)⟩,
      .base ⟨0, [.fact 28], [⟨.agg [.s, .b], [(0, 0, 29)]⟩], .quiet (mLoad 51)⟩,
      .base ⟨85, [.fact 26, .fact 29], [⟨.agg [.s, .b], [(0, 0, 30)]⟩], false⟩,
      .base ⟨0, [.fact 0, .fact 25], [⟨.one (.p), [(0, 0, 31)]⟩], .quiet (mIdx 30)⟩,
      .base ⟨0, [.fact 31], [⟨.one (.p), [(0, 0, 32)]⟩], .quiet (mFld 53 1)⟩,
      .base ⟨0, [.fact 32], [⟨.agg [.s, .b], [(0, 0, 33)]⟩], .quiet (mLoad 51)⟩,
      .base ⟨30, [.fact 26, .fact 33], [⟨.agg [.s, .b], [(0, 0, 34)]⟩], false⟩,
      .base ⟨77, [.fact 30, .fact 34], [⟨.agg [.s, .b], [(0, 0, 35)]⟩], false⟩,
      .base ⟨0, [.fact 25, .lit (.ci .i64 1)], [⟨.one (.i), [(0, 0, 36)]⟩], .quiet (mBin .add)⟩]
def o_xprim_n_1 : List Step := [.base ⟨0, [.fact 25, .fact 3], [⟨.one (.lit (.cb false)), []⟩], .quiet (mBin .lss)⟩]
def ss_xprim_n : List Step := [.base ⟨0, [.fact 0], [⟨.one (.i), [(0, 0, 1)]⟩], .quiet (mLen 30)⟩,
      .base ⟨0, [.fact 1, .lit (.ci .i64 0)], [⟨.one (.lit (.cb false)), []⟩], .quiet (mBin .eql)⟩,
      .base ⟨28, [.lit (.ci .i64 1)], [⟨.agg [.s, .b], [(0, 0, 2)]⟩], false⟩,
      .base ⟨0, [.fact 0], [⟨.one (.i), [(0, 0, 3)]⟩], .quiet (mLen 30)⟩,
      .loop d_xprim_n_1 [(r_xprim_n_1_0, [.from 36, .from 35])] o_xprim_n_1,
      .base ⟨0, [.fact 0], [⟨.one (.i), [(0, 0, 5)]⟩], .quiet (mLen 30)⟩,
      .loop d_xprim_n_2 [(r_xprim_n_2_0, [.from 36, .from 35])] o_xprim_n_2,
      .base ⟨26, [.fact 6, .fact 4], [⟨.agg [.s, .b, .s, .b], [(0, 0, 7), (0, 2, 8), (2, 2, 9)]⟩], false⟩,
      .base ⟨0, [.fact 0], [⟨.one (.i), [(0, 0, 10)]⟩], .quiet (mLen 30)⟩,
      .base ⟨0, [.fact 10, .lit (.ci .i64 1)], [⟨.one (.i), [(0, 0, 11)]⟩], .quiet (mBin .sub)⟩,
      .base ⟨0, [.fact 0, .fact 11], [⟨.one (.p), [(0, 0, 12)]⟩], .quiet (mIdx 30)⟩,
      .base ⟨0, [.fact 12], [⟨.one (.p), [(0, 0, 13)]⟩], .quiet (mFld 53 0)⟩,
      .base ⟨0, [.fact 13], [⟨.one (.p), [(0, 0, 14)]⟩], .quiet (mFld 51 1)⟩,
      .base ⟨0, [.fact 14], [⟨.one (.lit (.cb true)), []⟩], .quiet (mLoad 4)⟩,
      .base ⟨86, [.fact 7], [⟨.agg [.s, .b, .s, .b], [(0, 0, 15), (0, 2, 16), (2, 2, 17)]⟩], false⟩,
      .base ⟨88, [.lit (.ci .i64 1), .lit (.ci .i64 1)], [⟨.agg [.s, .b, .s, .b], [(0, 0, 18), (0, 2, 19), (2, 2, 20)]⟩], false⟩,
      .base ⟨87, [.fact 18, .fact 15], [⟨.agg [.s, .b, .s, .b], [(0, 0, 21), (0, 2, 22), (2, 2, 23)]⟩], false⟩,
      .base ⟨25, [.fact 0, .fact 21], [⟨.one (.s), [(0, 0, 24)]⟩], false⟩]
def ins_xprim_n : List Out := [⟨.one (.s), [(0, 0, 0)]⟩]
set_option maxRecDepth 100000 in
theorem xprim_n {z : Nat → Int} {n k K N : Nat} {t u : Rat} (hn0 : 0 < n) (hn : n ≤ 1000000) (hk : k ≤ 1000) (hK : K ≤ 400000) (hs : decide (z (n - 1) < 0) = true) (hg : ∀ i, i ≤ n → Bd (gcdZ z i) k) (ht : -(qOf (gcdZ z n : Int) 1) = t) (ht0 : t ≠ 0) (hu : qOf 1 1 / t = u) (hB : ∀ i, i < n → Bd (((z i : Int) : Rat) * u).num.natAbs K ∧ Bd (((z i : Int) : Rat) * u).den K) (hN : tl (fun i => (((z i : Int) : Rat) * u).num) n = N) : SiteOk (ph (b_xprim_n z n k K N t u)) Tryz.prog ⟨32, [.fact 0], [⟨.agg [.s, .b, .s, .b], [(0, 0, 15), (0, 2, 16), (2, 2, 17)]⟩, ⟨.one (.s), [(0, 0, 24)]⟩], true⟩ := by
  skip
  exact fn_okL ins_xprim_n [⟨.agg [.s, .b, .s, .b], [(0, 0, 15), (0, 2, 16), (2, 2, 17)]⟩, ⟨.one (.s), [(0, 0, 24)]⟩] ss_xprim_n Tryz.func32 (by kernel_rfl)
    (lbase (qLen (sz := 4) (n := n) (F := (fun ι w v => DecQ w v (((z ι : Int) : Rat)) k)) Tryz.underlying30 (fun _ _ h => Rw.arr h) rfl)
      (lbase (qTestC (op := .eql) (fun _ _ h => h) (ts_run (decide_eq_false (by omega)) (by simp)))
      (lbase (tOf (z := 1) rfl (by decide) (by decide) rfl)
      (lbase (qLen (sz := 4) (n := n) (F := (fun ι w v => DecQ w v (((z ι : Int) : Rat)) k)) Tryz.underlying30 (fun _ _ h => Rw.arr h) rfl)
      (lloop (counted n (fun j => ph (b_xprim_n z n k K N t u ++ l_xprim_n_1 z k j)) (fun _ => 0) (fun j p hp => ph_app' (show p < (b_xprim_n z n k K N t u).length from hp)) ⟨fun _ => rfl, fun _ _ h => h, trivial⟩ (fun j hj => by
      skip
      exact ⟨(r_xprim_n_1_0, [.from 36, .from 35]), rfl, ⟨fun _ _ h => h, fun _ _ h => DecI.reX h bd1X, trivial⟩, (lbase (qTest (op := .lss) (fun _ _ h => h) (fun _ _ h => h) (ts_run (decide_eq_true (by omega)) (by simp)))
      (lbase (qIdx (i := j) (sz := 4) (n := n) (F := (fun ι w v => DecQ w v (((z ι : Int) : Rat)) k)) Tryz.underlying30 (by kernel_rfl) (fun _ _ h => Rw.arr h) (fun _ _ h => h) (by omega) rfl)
      (lbase (qFld (off := 2) (len := 2) (sz := 4) (F := fun w v => DecQ w v (((z j : Int) : Rat)) k) (G := fun w v => DecI w v ((((z j : Int) : Rat)).den : Int) k) (by kernel_rfl) (fun _ _ h => h) (by omega) (fun _ _ h => DecQ.snd' h) rfl)
      (lbase (qLoad (sz := 2) (F := fun w v => DecI w v ((((z j : Int) : Rat)).den : Int) k) (by kernel_rfl) (by kernel_rfl) (fun _ _ h => h) (fun _ _ _ g h => DecI.kp h g) (fun _ _ h => DecI.is h) rfl)
      (lbase (tMul dD dD rfl (by omega) rfl)
      (lbase (qIdx (i := j) (sz := 4) (n := n) (F := (fun ι w v => DecQ w v (((z ι : Int) : Rat)) k)) Tryz.underlying30 (by kernel_rfl) (fun _ _ h => Rw.arr h) (fun _ _ h => h) (by omega) rfl)
      (lbase (qFld (off := 2) (len := 2) (sz := 4) (F := fun w v => DecQ w v (((z j : Int) : Rat)) k) (G := fun w v => DecI w v ((((z j : Int) : Rat)).den : Int) k) (by kernel_rfl) (fun _ _ h => h) (by omega) (fun _ _ h => DecQ.snd' h) rfl)
      (lbase (qLoad (sz := 2) (F := fun w v => DecI w v ((((z j : Int) : Rat)).den : Int) k) (by kernel_rfl) (by kernel_rfl) (fun _ _ h => h) (fun _ _ _ g h => DecI.kp h g) (fun _ _ h => DecI.is h) rfl)
      (lbase (tGcd (k + 2) dD dD rfl (by omega) (by omega) (by omega) rfl)
      (lbase (tQuo dD dD rfl (by omega) (by show ((Int.gcd 1 1 : Nat) : Int) ≠ 0; decide) (by show ((Int.gcd 1 1 : Nat) : Int) ∣ 1 * 1; decide) (by show (1 * 1 : Int) / ((Int.gcd 1 1 : Nat) : Int) = 1; decide))
      (lbase (qAddK (fun _ _ h => h) (by omega) rfl (by omega) (by omega))
      lnil)))))))))))⟩)
      (lbase (qTest (op := .lss) (fun _ _ h => h) (fun _ _ h => h) (ts_run (decide_eq_false (by omega)) (by simp)))
      lnil)
      (fun q hq w v h => by
        simp only [d_xprim_n_1, List.mem_cons, List.not_mem_nil, or_false] at hq
        rcases hq with rfl
        · exact (fun h => h) h)) (lbase (qLen (sz := 4) (n := n) (F := (fun ι w v => DecQ w v (((z ι : Int) : Rat)) k)) Tryz.underlying30 (fun _ _ h => Rw.arr h) rfl)
      (lloop (counted n (fun i => ph (b_xprim_n z n k K N t u ++ l_xprim_n_2 z k i)) (fun _ => 0) (fun i p hp => ph_app' (show p < (b_xprim_n z n k K N t u).length from hp)) ⟨fun _ => rfl, fun w => DecI.zeroX w k, trivial⟩ (fun i hi => by
      skip
      exact ⟨(r_xprim_n_2_0, [.from 36, .from 35]), rfl, ⟨fun _ _ h => h, fun _ _ h => DecI.reX h (hg (i + 1) (by omega)), trivial⟩, (lbase (qTest (op := .lss) (fun _ _ h => h) (fun _ _ h => h) (ts_run (decide_eq_true (by omega)) (by simp)))
      (lbase (qIdx (i := i) (sz := 4) (n := n) (F := (fun ι w v => DecQ w v (((z ι : Int) : Rat)) k)) Tryz.underlying30 (by kernel_rfl) (fun _ _ h => Rw.arr h) (fun _ _ h => h) (by omega) rfl)
      (lbase (qFld (off := 0) (len := 2) (sz := 4) (F := fun w v => DecQ w v (((z i : Int) : Rat)) k) (G := fun w v => DecI w v ((((z i : Int) : Rat)).num) k) (by kernel_rfl) (fun _ _ h => h) (by omega) (fun _ _ h => DecQ.fst' h) rfl)
      (lbase (qLoad (sz := 2) (F := fun w v => DecI w v ((((z i : Int) : Rat)).num) k) (by kernel_rfl) (by kernel_rfl) (fun _ _ h => h) (fun _ _ _ g h => DecI.kp h g) (fun _ _ h => DecI.is h) rfl)
      (lbase (tMul dD dD rfl (by omega) rfl)
      (lbase (qIdx (i := i) (sz := 4) (n := n) (F := (fun ι w v => DecQ w v (((z ι : Int) : Rat)) k)) Tryz.underlying30 (by kernel_rfl) (fun _ _ h => Rw.arr h) (fun _ _ h => h) (by omega) rfl)
      (lbase (qFld (off := 2) (len := 2) (sz := 4) (F := fun w v => DecQ w v (((z i : Int) : Rat)) k) (G := fun w v => DecI w v ((((z i : Int) : Rat)).den : Int) k) (by kernel_rfl) (fun _ _ h => h) (by omega) (fun _ _ h => DecQ.snd' h) rfl)
      (lbase (qLoad (sz := 2) (F := fun w v => DecI w v ((((z i : Int) : Rat)).den : Int) k) (by kernel_rfl) (by kernel_rfl) (fun _ _ h => h) (fun _ _ _ g h => DecI.kp h g) (fun _ _ h => DecI.is h) rfl)
      (lbase (tQuo dD dD rfl (by omega) (by show ((1 : Nat) : Int) ≠ 0; decide) (by show ((1 : Nat) : Int) ∣ z i * 1; exact Int.one_dvd _) (by show z i * 1 / ((1 : Nat) : Int) = z i; rw [Int.mul_one]; exact Int.ediv_one _))
      (lbase (tGcd (k + 2) dD dD rfl (by omega) (by omega) (by omega) rfl)
      (lbase (qAddK (fun _ _ h => h) (by omega) rfl (by omega) (by omega))
      lnil)))))))))))⟩)
      (lbase (qTest (op := .lss) (fun _ _ h => h) (fun _ _ h => h) (ts_run (decide_eq_false (by omega)) (by simp)))
      lnil)
      (fun q hq w v h => by
        simp only [d_xprim_n_2, List.mem_cons, List.not_mem_nil, or_false] at hq
        rcases hq with rfl
        · exact (fun h => h) h)) (lbase (tMake dD dD rfl rfl rfl (by omega) (rfl))
      (lbase (qLen (sz := 4) (n := n) (F := (fun ι w v => DecQ w v (((z ι : Int) : Rat)) k)) Tryz.underlying30 (fun _ _ h => Rw.arr h) rfl)
      (lbase (qSubK (fun _ _ h => h) (by omega) rfl (by omega) (by omega))
      (lbase (qIdx (i := (n - 1)) (sz := 4) (n := n) (F := (fun ι w v => DecQ w v (((z ι : Int) : Rat)) k)) Tryz.underlying30 (by kernel_rfl) (fun _ _ h => Rw.arr h) (fun _ _ h => h) (by omega) rfl)
      (lbase (qFld (off := 0) (len := 2) (sz := 4) (F := fun w v => DecQ w v (((z (n - 1) : Int) : Rat)) k) (G := fun w v => DecI w v ((((z (n - 1) : Int) : Rat)).num) k) (by kernel_rfl) (fun _ _ h => h) (by omega) (fun _ _ h => DecQ.fst' h) rfl)
      (lbase (qFld (off := 1) (len := 1) (sz := 2) (F := fun w v => DecI w v ((((z (n - 1) : Int) : Rat)).num) k) (G := fun _ v => v = .agg #[.bool true]) (by kernel_rfl) (fun _ _ h => h) (by omega) (fun _ _ h => DecI.negX hs h) rfl)
      (lbase (qLoadB (by kernel_rfl) (fun _ _ h => h))
      (lbase (tNegR tS rfl rfl rfl (ht))
      (lbase (tOfR (z := 1) (y := 1) rfl rfl rfl (by decide) (by decide) (by decide) (by decide) rfl)
      (lbase (tQuoR tS tS rfl rfl rfl (by omega) (ht0) (hu))
      (lbase (sRScaleX (q := (fun i => ((z i : Int) : Rat))) (c := u) (n := n) (K := K) (fun _ _ h => h) tS rfl (by omega) (by omega) (by omega) (by omega) hB hN)
      lnil))))))))))))))))))
    (ins_ok [.fact 0 (.one (.s))] ⟨fun _ _ h => Rw.is (sz := 4) (F := (fun ι w v => DecQ w v (((z ι : Int) : Rat)) k)) (n := n) h, trivial⟩) (fun _ _ _ h => h)

section
variable {Φ : Nat → World → Value → Prop} {p q y x x1 x2 n m k l K N : Nat} {c : Int} {z : Nat → Int} {a : Bool} {xs : List Nat}
theorem one_ltX {k : Nat} (h : 1 ≤ k) : Bd 1 k := Nat.one_lt_pow (by omega) (by omega)
theorem sRScaleI {X : List Int} (hp : ∀ w v, Φ p w v → Rw 4 (fun i w v => DecQ w v ((z i : Int) : Rat) k) n w v) (hy : ∀ w v, Φ y w v → DecQ w v ((c : Int) : Rat) l) (hx : Φ x = fun w v => Rw 4 (fun i w v => DecQ w v ((coef X i : Int) : Rat) K) X.length w v) (hn : n ≤ 1000000) (hk : k ≤ 8000) (hl : l ≤ 8000) (hK : K ≤ 400000) (hK1 : 1 ≤ K) (hB : ∀ i, i < n → Bd (z i * c).natAbs K) (hX : trimL (mk n fun i => z i * c) = X) : SiteOk Φ Tryz.prog ⟨25, [.fact p, .fact y], [⟨.one .s, [(0, 0, x)]⟩], false⟩ := by
  have e : ∀ i, ((z i : Int) : Rat) * ((c : Int) : Rat) = ((z i * c : Int) : Rat) := fun i => (Rat.intCast_mul _ _).symm
  refine viaG (xscale (q := fun i => ((z i : Int) : Rat)) (c := ((c : Int) : Rat)) hn hk hl hK (fun i hi => by rw [e]; exact ⟨hB i hi, one_ltX hK1⟩)) ⟨hp, hy, trivial⟩ ⟨⟨rfl, ⟨rfl, rfl, fun w v h => ?_⟩, trivial⟩, trivial⟩
  rw [hx]
  have h : Rw 4 (fun i w v => DecQ w v (((z i : Int) : Rat) * ((c : Int) : Rat)) K) (tl (fun i => (((z i : Int) : Rat) * ((c : Int) : Rat)).num) n) w v := h
  simp only [e] at h
  exact rowCut (z := fun i => z i * c) hX h
theorem bd_gcdZ (hk : 0 < 4294967296 ^ k) : ∀ {n : Nat}, (∀ i, i < n → Bd (z i).natAbs k) → Bd (gcdZ z n) k
  | 0, _ => hk
  | n + 1, h => by
    rw [gcdZ]
    rcases Nat.eq_zero_or_pos (z n).natAbs with h1 | h1
    · rw [h1, Nat.gcd_zero_right]; exact bd_gcdZ hk fun i hi => h i (by omega)
    · exact Nat.lt_of_le_of_lt (Nat.le_of_dvd h1 (Nat.gcd_dvd_right _ _)) (h n (by omega))
theorem tl_self {f : Nat → Int} : ∀ {n : Nat}, (0 < n → f (n - 1) ≠ 0) → tl f n = n
  | 0, _ => rfl
  | n + 1, h => by
    unfold tl
    rw [if_neg (show ¬ f n = 0 from h (by omega))]
theorem sRPrim {P : List Int} (hp : ∀ w v, Φ p w v → Rw 4 (fun i w v => DecQ w v ((z i : Int) : Rat) k) n w v) (hx : Φ x = fun w v => DecQ w v ((pcon z n : Int) : Rat) (k + 2 + 2)) (hx1 : Φ x1 = fun w v => DecI w v ((pcon z n : Int) : Rat).num (k + 2 + 2)) (hx2 : Φ x2 = fun w v => DecI w v (((pcon z n : Int) : Rat).den : Int) (k + 2 + 2)) (hy : Φ y = fun w v => Rw 4 (fun i w v => DecQ w v ((coef P i : Int) : Rat) K) P.length w v) (hn : n ≤ 1000000) (hk : k ≤ 1000) (hkK : k ≤ K) (hK1 : 1 ≤ K) (hK : K ≤ 400000) (htl : tl z n = n) (hB : ∀ i, i < n → Bd (z i).natAbs k) (hP : dvL z n (pcon z n) = P) : SiteOk Φ Tryz.prog ⟨32, [.fact p], [⟨.agg [.s, .b, .s, .b], [(0, 0, x), (0, 2, x1), (2, 2, x2)]⟩, ⟨.one .s, [(0, 0, y)]⟩], true⟩ := by
  rcases Nat.eq_zero_or_pos n with h0 | h0
  · subst h0
    have e : pcon z 0 = 0 := rfl
    have e1 : P = [] := by rw [← hP]; rfl
    subst e1
    have hQ : ∀ w v, DecQ w v (qOf 0 1) 6 → DecQ w v ((pcon z 0 : Int) : Rat) (k + 2 + 2) := fun w v h => DecQ.reX (DecQ.eq h (by rw [e]; exact qOf_int 0)) (by rw [e]; exact Nat.pow_pos (by omega)) (one_ltX (by omega))
    have hQ1 : ∀ w v, DecI w v (qOf 0 1).num 6 → DecI w v ((pcon z 0 : Int) : Rat).num (k + 2 + 2) := fun w v h => DecI.reX (DecI.eqz h (by rw [e, qOf_int])) (by rw [e]; exact Nat.pow_pos (by omega))
    have hQ2 : ∀ w v, DecI w v ((qOf 0 1).den : Int) 6 → DecI w v (((pcon z 0 : Int) : Rat).den : Int) (k + 2 + 2) := fun w v h => DecI.reX (DecI.eqz h (by rw [qOf_int]; rfl)) (one_ltX (by omega))
    intro X w vs hX ha
    refine (viaG (Φ := Φ) (ar := [.fact p]) (outs := [⟨.agg [.s, .b, .s, .b], [(0, 0, x), (0, 2, x1), (2, 2, x2)]⟩, ⟨.one (.lit .nl), []⟩]) (xprim_0 (z := z) (n := 0) (k := k) rfl) ⟨hp, trivial⟩ ⟨⟨rfl, ⟨rfl, rfl, fun w v h => hx ▸ hQ w v h⟩, ⟨rfl, rfl, fun w v h => hx1 ▸ hQ1 w v h⟩, ⟨rfl, rfl, fun w v h => hx2 ▸ hQ2 w v h⟩, trivial⟩, ⟨rfl, trivial⟩, trivial⟩ X w vs hX ha).mono fun e w' ⟨hg, us, he, h2⟩ => ⟨hg, us, he, ?_⟩
    match us, h2 with
    | [u0, u], h2 =>
      have e : u = .slice none 0 0 := h2.2.1.1.1
      subst e
      exact ⟨h2.1, one_out ⟨⟨_, _, _, rfl⟩, fun _ h => by cases h⟩ hy fun w1 _ => Rw.nil _ _ _⟩
  have hl : z (n - 1) ≠ 0 := by
    have := tl_last z n (by omega)
    rwa [htl] at this
  have hld : ldZ z n = z (n - 1) := by rw [ldZ, if_neg (by omega), htl]
  have hc0 : pcon z n ≠ 0 := pcon_ne (by omega)
  have hcq : ((pcon z n : Int) : Rat) ≠ 0 := fun h => hc0 (by have := congrArg Rat.num h; exact this)
  have hd : ∀ i, i < n → ((z i : Int) : Rat) * (qOf 1 1 / ((pcon z n : Int) : Rat)) = ((z i / pcon z n : Int) : Rat) := fun i hi => by
    obtain ⟨d, hd⟩ := pcon_dvd (z := z) i hi
    have e1 : qOf 1 1 = (1 : Rat) := qOf_int 1
    rw [e1, hd, Int.mul_ediv_cancel_left _ hc0, Rat.intCast_mul, Rat.div_def, Rat.one_mul, Rat.mul_comm ((pcon z n : Int) : Rat), Rat.mul_assoc, Rat.mul_inv_cancel _ hcq, Rat.mul_one]
  have hle : ∀ i, i < n → (z i / pcon z n).natAbs ≤ (z i).natAbs := fun i hi => by
    obtain ⟨d, hd⟩ := pcon_dvd (z := z) i hi
    rw [hd, Int.mul_ediv_cancel_left _ hc0, Int.natAbs_mul]
    exact Nat.le_mul_of_pos_left _ (Int.natAbs_pos.2 hc0)
  have hg : ∀ i, i ≤ n → Bd (gcdZ z i : Int).natAbs k := fun i hi => bd_gcdZ (Nat.pow_pos (by omega)) fun j hj => hB j (by omega)
  have hB' : ∀ i, i < n → Bd (((z i : Int) : Rat) * (qOf 1 1 / ((pcon z n : Int) : Rat))).num.natAbs K ∧ Bd (((z i : Int) : Rat) * (qOf 1 1 / ((pcon z n : Int) : Rat))).den K := fun i hi => by
    rw [hd i hi]
    exact ⟨Nat.lt_of_le_of_lt (hle i hi) ((hB i hi).more hkK), one_ltX hK1⟩
  have hPl : P.length = n := by rw [← hP, dvL, mk_length, htl]
  have hN : tl (fun i => (((z i : Int) : Rat) * (qOf 1 1 / ((pcon z n : Int) : Rat))).num) n = P.length := by
    rw [hPl]
    refine tl_self fun _ => ?_
    show (((z (n - 1) : Int) : Rat) * (qOf 1 1 / ((pcon z n : Int) : Rat))).num ≠ 0
    rw [hd _ (by omega)]
    intro h
    have h : z (n - 1) / pcon z n = 0 := h
    obtain ⟨d, hd⟩ := pcon_dvd (z := z) (n := n) (n - 1) (by omega)
    rw [hd, Int.mul_ediv_cancel_left _ hc0] at h
    rw [h, Int.mul_zero] at hd
    exact hl hd
  have hrow : ∀ w v, Rw 4 (fun i w v => DecQ w v (((z i : Int) : Rat) * (qOf 1 1 / ((pcon z n : Int) : Rat))) K) P.length w v → Rw 4 (fun i w v => DecQ w v ((coef P i : Int) : Rat) K) P.length w v := fun w v h => Rw.to (sz := 4) (n := P.length) (F := fun i w v => DecQ w v (((z i : Int) : Rat) * (qOf 1 1 / ((pcon z n : Int) : Rat))) K) h fun i w v hi h => DecQ.eq h (by
    rw [hPl] at hi
    rw [hd i hi, ← hP, dvL, coef_mk, htl, if_pos hi])
  by_cases hs : z (n - 1) < 0
  · have e : pcon z n = -(gcdZ z n : Int) := by rw [pcon, hld, if_pos hs]
    exact viaG (Φ := Φ) (xprim_n (z := z) (n := n) (k := k) (K := K) (N := P.length) (t := ((pcon z n : Int) : Rat)) (u := qOf 1 1 / ((pcon z n : Int) : Rat)) h0 hn hk hK (decide_eq_true hs) hg (by rw [qOf_int, e, Rat.intCast_neg]) hcq rfl hB' hN) ⟨hp, trivial⟩ ⟨⟨rfl, ⟨rfl, rfl, fun w v h => hx ▸ h⟩, ⟨rfl, rfl, fun w v h => hx1 ▸ h⟩, ⟨rfl, rfl, fun w v h => hx2 ▸ h⟩, trivial⟩, ⟨rfl, ⟨rfl, rfl, fun w v h => hy ▸ hrow w v h⟩, trivial⟩, trivial⟩
  · have e : pcon z n = (gcdZ z n : Int) := by rw [pcon, hld, if_neg hs]
    exact viaG (Φ := Φ) (xprim_p (z := z) (n := n) (k := k) (K := K) (N := P.length) (t := ((pcon z n : Int) : Rat)) (u := qOf 1 1 / ((pcon z n : Int) : Rat)) h0 hn hk hK (decide_eq_false hs) hg (by rw [qOf_int, e]) hcq rfl hB' hN) ⟨hp, trivial⟩ ⟨⟨rfl, ⟨rfl, rfl, fun w v h => hx ▸ h⟩, ⟨rfl, rfl, fun w v h => hx1 ▸ h⟩, ⟨rfl, rfl, fun w v h => hx2 ▸ h⟩, trivial⟩, ⟨rfl, ⟨rfl, rfl, fun w v h => hy ▸ hrow w v h⟩, trivial⟩, trivial⟩
end

end Go.Proofs.YtigkehblnlghkaaGreat.Sym
